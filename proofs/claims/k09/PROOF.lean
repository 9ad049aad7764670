import PyProof.Rows.All
import Wide.All
import OpenK.AllK
import Wide.FinOn
import KE.KStateDown
import HandS.ForMost
import HandS.ForExc
import HandS.Defaults
import HandS.Gcd
import HandS.Wide
import HandS.IsInst
import HandS.ExcIs
import HandS.HotCalls
import HandS.TupLen
import HandS.Head0
import HandS.Head1
import HandS.Head2
import HandS.Head3
import HandS.HeadEnd
import HandS.HeadHook1
import HandS.HeadHook2
import HandS.HeadHook3
import HandS.HeadHook4
import HandS.ForDict
import KE.KDictList
import HandS.Conv
import HandS.ListItems
import KE.KDictZip
import PyProof.ListNew
import HandS.Flt
import KE.SortKeyHeap
import PyProof.Rows.CallKwBuiltin
import PyProof.Rows.SortShell
import PyProof.CallType
import PyProof.Walk
import PyProof.WalkLemmas
import HandS.Walk
import PyProof.GenCompD
import HandS.Lambda
import HandS.AnyAll
import HandS.Nested
import HandS.Star
import HandS.EndTab
import HandS.HeadWalk
import HandS.Deep
import HandS.Zip
import HandS.Style
import PySem.Challenge.RW_landlines_k09_a_ground_kept
set_option Elab.async false
set_option linter.all false
set_option maxRecDepth 100000
set_option maxHeartbeats 4000000

/-! Half-planes of whole numbers and what they leave: pushing to a line, to a corner; the duals. Plain Lean, my own. -/
namespace LG
structure Row where
  a : Int
  b : Int
  c : Int
  deriving DecidableEq
structure Pt where
  x : Int
  y : Int
  w : Int
  deriving DecidableEq
def rch (r : Row) (p : Pt) : Int := r.a * p.x + r.b * p.y - r.c * p.w
structure Kept (R : List Row) (p : Pt) : Prop where
  pos : 0 < p.w
  le : ∀ r ∈ R, rch r p ≤ 0
/-! ### ratios -/
theorem ratio_trans {t1 d1 t2 d2 t3 d3 : Int} (h1 : 0 < d1) (h2 : 0 < d2) (h3 : 0 < d3) (a : t1 * d2 ≤ t2 * d1) (b : t2 * d3 ≤ t3 * d2) : t1 * d3 ≤ t3 * d1 := by
  have x1 : t1 * d2 * d3 ≤ t2 * d1 * d3 := Int.mul_le_mul_of_nonneg_right a (by omega)
  have x2 : t2 * d3 * d1 ≤ t3 * d2 * d1 := Int.mul_le_mul_of_nonneg_right b (by omega)
  have x3 : t1 * d3 * d2 ≤ t3 * d1 * d2 := by
    have e1 : t1 * d3 * d2 = t1 * d2 * d3 := by grind
    have e2 : t3 * d1 * d2 = t3 * d2 * d1 := by grind
    have e3 : t2 * d1 * d3 = t2 * d3 * d1 := by grind
    omega
  exact Int.le_of_mul_le_mul_right x3 h2
theorem min_ratio {α : Type} (T D : α → Int) : ∀ l : List α, (∃ r ∈ l, 0 < D r) → ∃ r ∈ l, 0 < D r ∧ ∀ s ∈ l, 0 < D s → T r * D s ≤ T s * D r
  | [], h => by obtain ⟨r, hr, _⟩ := h; cases hr
  | x :: l, h => by
    by_cases hl : ∃ r ∈ l, 0 < D r
    · obtain ⟨r, hr, hD, hm⟩ := min_ratio T D l hl
      by_cases hx : 0 < D x
      · by_cases c : T x * D r ≤ T r * D x
        · refine ⟨x, List.mem_cons_self, hx, fun s hs hds => ?_⟩
          rcases List.mem_cons.mp hs with e | m
          · subst e; exact Int.le_refl _
          · exact ratio_trans hx hD hds c (hm s m hds)
        · refine ⟨r, List.mem_cons_of_mem _ hr, hD, fun s hs hds => ?_⟩
          rcases List.mem_cons.mp hs with e | m
          · subst e; omega
          · exact hm s m hds
      · refine ⟨r, List.mem_cons_of_mem _ hr, hD, fun s hs hds => ?_⟩
        rcases List.mem_cons.mp hs with e | m
        · subst e; exact absurd hds hx
        · exact hm s m hds
    · obtain ⟨r, hr, hD⟩ := h
      rcases List.mem_cons.mp hr with e | m
      · subst e
        refine ⟨r, List.mem_cons_self, hD, fun s hs hds => ?_⟩
        rcases List.mem_cons.mp hs with e | m
        · subst e; exact Int.le_refl _
        · exact absurd ⟨s, m, hds⟩ hl
      · exact absurd ⟨r, m, hD⟩ hl
/-! ### pushing a spot until a line stops it -/
def dot (r : Row) (dx dy : Int) : Int := r.a * dx + r.b * dy
def go (p : Pt) (D T dx dy : Int) : Pt := ⟨p.x * D + T * dx, p.y * D + T * dy, p.w * D⟩
theorem rch_go (r : Row) (p : Pt) (D T dx dy : Int) : rch r (go p D T dx dy) = D * rch r p + T * dot r dx dy := by
  unfold rch go dot
  grind
theorem push {R : List Row} {p : Pt} {dx dy : Int} (hp : Kept R p) (hd : ∃ r ∈ R, 0 < dot r dx dy) :
    ∃ r ∈ R, 0 < dot r dx dy ∧ Kept R (go p (dot r dx dy) (-(rch r p)) dx dy) ∧ rch r (go p (dot r dx dy) (-(rch r p)) dx dy) = 0 := by
  obtain ⟨r, hr, hD, hm⟩ := min_ratio (fun r => -(rch r p)) (fun r => dot r dx dy) R hd
  refine ⟨r, hr, hD, ⟨Int.mul_pos hp.pos hD, fun s hs => ?_⟩, ?_⟩
  · rw [rch_go]
    have h1 := hp.le s hs
    have h2 := hp.le r hr
    by_cases c : 0 < dot s dx dy
    · have h3 : -(rch r p) * dot s dx dy ≤ -(rch s p) * dot r dx dy := hm s hs c
      have e : -(rch s p) * dot r dx dy = -(dot r dx dy * rch s p) := by grind
      omega
    · have h3 : dot r dx dy * rch s p ≤ 0 := Int.mul_nonpos_of_nonneg_of_nonpos (by omega) h1
      have h4 : -(rch r p) * dot s dx dy ≤ 0 := Int.mul_nonpos_of_nonneg_of_nonpos (by omega) (by omega)
      omega
  · rw [rch_go]
    grind
/-! ### linear functions: α x + β y, over w -/
structure Fn where
  α : Int
  β : Int
def Fn.at (f : Fn) (p : Pt) : Int := f.α * p.x + f.β * p.y
/-- at q as far as at p, or farther -/
def Fn.le (f : Fn) (p q : Pt) : Prop := f.at p * q.w ≤ f.at q * p.w
theorem Fn.le_refl (f : Fn) (p : Pt) : f.le p p := Int.le_refl _
theorem Fn.le_trans {f : Fn} {p q r : Pt} (hp : 0 < p.w) (hq : 0 < q.w) (hr : 0 < r.w) (a : f.le p q) (b : f.le q r) : f.le p r := ratio_trans hp hq hr a b
theorem at_go (f : Fn) (p : Pt) (D T dx dy : Int) : f.at (go p D T dx dy) = D * f.at p + T * (f.α * dx + f.β * dy) := by
  unfold Fn.at go
  grind
theorem le_go {f : Fn} {p : Pt} {D T dx dy : Int} (hp : 0 < p.w) (hT : 0 ≤ T) (hd : 0 ≤ f.α * dx + f.β * dy) : f.le p (go p D T dx dy) := by
  unfold Fn.le
  rw [at_go]
  show f.at p * (p.w * D) ≤ _
  have h1 : 0 ≤ T * (f.α * dx + f.β * dy) * p.w := Int.mul_nonneg (Int.mul_nonneg hT hd) (by omega)
  have e : (D * f.at p + T * (f.α * dx + f.β * dy)) * p.w = f.at p * (p.w * D) + T * (f.α * dx + f.β * dy) * p.w := by grind
  omega
theorem lt_go {f : Fn} {p : Pt} {D T dx dy : Int} (hp : 0 < p.w) (hT : 0 < T) (hd : 0 < f.α * dx + f.β * dy) : ¬ f.le (go p D T dx dy) p := by
  unfold Fn.le
  rw [at_go]
  show ¬ (_ * p.w ≤ f.at p * (p.w * D))
  have h1 : 0 < T * (f.α * dx + f.β * dy) * p.w := Int.mul_pos (Int.mul_pos hT hd) hp
  have e : (D * f.at p + T * (f.α * dx + f.β * dy)) * p.w = f.at p * (p.w * D) + T * (f.α * dx + f.β * dy) * p.w := by grind
  omega
/-! ### rows that hold a field: any way is stopped -/
def Held (R : List Row) : Prop := ∀ dx dy : Int, ¬ (dx = 0 ∧ dy = 0) → ∃ r ∈ R, 0 < dot r dx dy
theorem held_box {R : List Row} {n : Int} (h1 : ⟨-1, 0, 0⟩ ∈ R) (h2 : ⟨0, -1, 0⟩ ∈ R) (h3 : ⟨1, 0, n⟩ ∈ R) (h4 : ⟨0, 1, n⟩ ∈ R) : Held R := by
  intro dx dy h
  by_cases c1 : 0 < dx
  · exact ⟨_, h3, by simp only [dot]; omega⟩
  by_cases c2 : dx < 0
  · exact ⟨_, h1, by simp only [dot]; omega⟩
  by_cases c3 : 0 < dy
  · exact ⟨_, h4, by simp only [dot]; omega⟩
  · exact ⟨_, h2, by simp only [dot]; omega⟩
/-! ### corners -/
def cross (r s : Row) : Int := r.a * s.b - r.b * s.a
/-- two lines that don't run the same way go through it -/
def OnTwo (R : List Row) (p : Pt) : Prop := ∃ r ∈ R, ∃ s ∈ R, rch r p = 0 ∧ rch s p = 0 ∧ cross r s ≠ 0
structure Corner (R : List Row) (p : Pt) : Prop where
  kept : Kept R p
  two : OnTwo R p
/-- some corner lies as far as any spot that is kept -/
theorem far_corner {R : List Row} (hR : Held R) (hz : ∀ r ∈ R, ¬ (r.a = 0 ∧ r.b = 0)) {p : Pt} (hp : Kept R p) (f : Fn) : ∃ q, Corner R q ∧ f.le p q := by
  -- first to a line
  obtain ⟨p1, r, hr, k1, o1, l1⟩ : ∃ p1, ∃ r ∈ R, Kept R p1 ∧ rch r p1 = 0 ∧ f.le p p1 := by
    by_cases c : f.α = 0 ∧ f.β = 0
    · obtain ⟨r, hr, hD, k, o⟩ := push hp (hR 1 0 (by omega))
      exact ⟨_, r, hr, k, o, le_go hp.pos (by have := hp.le r hr; omega) (by rw [c.1, c.2]; omega)⟩
    · obtain ⟨r, hr, hD, k, o⟩ := push hp (hR f.α f.β c)
      refine ⟨_, r, hr, k, o, le_go hp.pos (by have := hp.le r hr; omega) ?_⟩
      have s1 : 0 ≤ f.α * f.α := by rcases Int.le_total 0 f.α with h | h; exact Int.mul_nonneg h h; exact Int.mul_nonneg_of_nonpos_of_nonpos h h
      have s2 : 0 ≤ f.β * f.β := by rcases Int.le_total 0 f.β with h | h; exact Int.mul_nonneg h h; exact Int.mul_nonneg_of_nonpos_of_nonpos h h
      omega
  -- then along it
  obtain ⟨dx, dy, nz, along, up⟩ : ∃ dx dy : Int, ¬ (dx = 0 ∧ dy = 0) ∧ dot r dx dy = 0 ∧ 0 ≤ f.α * dx + f.β * dy ∧ (∀ s : Row, dot s dx dy ≠ 0 → cross r s ≠ 0) := by
    have z := hz r hr
    by_cases c : 0 ≤ f.α * (-r.b) + f.β * r.a
    · refine ⟨-r.b, r.a, by omega, by unfold dot; grind, c, fun s h e => h ?_⟩
      unfold cross at e
      unfold dot
      grind
    · have e : f.α * r.b + f.β * -r.a = -(f.α * (-r.b) + f.β * r.a) := by grind
      refine ⟨r.b, -r.a, by omega, by unfold dot; grind, by omega, fun s h e => h ?_⟩
      unfold cross at e
      unfold dot
      grind
  obtain ⟨up, ne⟩ := up
  obtain ⟨s, hs, hD, k, o⟩ := push k1 (hR dx dy nz)
  refine ⟨_, ⟨k, r, hr, s, hs, ?_, o, ne s (by omega)⟩, ?_⟩
  · rw [rch_go, o1, along]
    omega
  · exact Fn.le_trans hp.pos k1.pos k.pos l1 (le_go k1.pos (by have := k1.le s hs; omega) up)
/-! ### why none lies farther: a way as a sum of lines through the spot -/
/-- the way (α, β), taken m times, is the sum of one or two rows that go through p, each taken one or more times -/
structure Dual (R : List Row) (p : Pt) (f : Fn) (r s : Row) (u v m : Int) : Prop where
  hr : r ∈ R
  hs : s ∈ R
  pos : 0 < m
  up : 0 < u
  vn : 0 ≤ v
  zr : rch r p = 0
  zs : rch s p = 0
  ea : u * r.a + v * s.a = m * f.α
  eb : u * r.b + v * s.b = m * f.β
theorem max_ratio {α : Type} (T D : α → Int) (l : List α) (h : ∃ r ∈ l, 0 < D r) : ∃ r ∈ l, 0 < D r ∧ ∀ s ∈ l, 0 < D s → T s * D r ≤ T r * D s := by
  obtain ⟨r, hr, hD, hm⟩ := min_ratio (fun x => -(T x)) D l h
  refine ⟨r, hr, hD, fun s hs hd => ?_⟩
  have h1 : -(T r) * D s ≤ -(T s) * D r := hm s hs hd
  have e1 : -(T r) * D s = -(T r * D s) := by grind
  have e2 : -(T s) * D r = -(T s * D r) := by grind
  omega
/-- at a spot than which none lies farther -/
theorem dual_of {R : List Row} (hR : Held R) {p : Pt} (hp : Kept R p) {f : Fn} (hf : ¬ (f.α = 0 ∧ f.β = 0)) (hm : ∀ q, Kept R q → f.le q p) : ∃ r s u v m, Dual R p f r s u v m := by
  have sq : 0 < f.α * f.α + f.β * f.β := by
    have s1 : 0 ≤ f.α * f.α := by rcases Int.le_total 0 f.α with h | h; exact Int.mul_nonneg h h; exact Int.mul_nonneg_of_nonpos_of_nonpos h h
    have s2 : 0 ≤ f.β * f.β := by rcases Int.le_total 0 f.β with h | h; exact Int.mul_nonneg h h; exact Int.mul_nonneg_of_nonpos_of_nonpos h h
    have s3 : f.α * f.α ≠ 0 ∨ f.β * f.β ≠ 0 := by
      by_cases z : f.α = 0
      · right
        intro e
        rcases Int.mul_eq_zero.mp e with h | h <;> exact hf ⟨z, h⟩
      · left
        intro e
        rcases Int.mul_eq_zero.mp e with h | h <;> exact z h
    omega
  -- no way on: there is no step d that the rows through p allow, and that leads farther
  have stuck : ∀ dx dy : Int, (∀ r ∈ R, rch r p = 0 → dot r dx dy ≤ 0) → ¬ 0 < f.α * dx + f.β * dy := by
    intro dx dy hd hpos
    have nz : ¬ (dx = 0 ∧ dy = 0) := by
      rintro ⟨rfl, rfl⟩
      omega
    obtain ⟨r, hr, hD, k, o⟩ := push hp (hR dx dy nz)
    have h0 : rch r p ≠ 0 := fun z => by have := hd r hr z; omega
    have h1 := hp.le r hr
    exact lt_go hp.pos (by omega) hpos (hm _ k)
  let C : Row → Int := fun r => f.α * r.b - f.β * r.a
  let T : Row → Int := fun r => f.α * r.a + f.β * r.b
  let A : List Row := R.filter fun r => rch r p = 0
  have memA : ∀ r, r ∈ A ↔ r ∈ R ∧ rch r p = 0 := fun r => by simp [A]
  -- a single row
  by_cases one : ∃ r ∈ A, C r = 0 ∧ 0 < T r
  · obtain ⟨r, hr, c0, tp⟩ := one
    obtain ⟨hr, zr⟩ := (memA r).mp hr
    refine ⟨r, r, f.α * f.α + f.β * f.β, 0, T r, hr, hr, tp, sq, Int.le_refl 0, zr, zr, ?_, ?_⟩
    · show (f.α * f.α + f.β * f.β) * r.a + 0 * r.a = (f.α * r.a + f.β * r.b) * f.α
      have e : f.α * r.b - f.β * r.a = 0 := c0
      grind
    · show (f.α * f.α + f.β * f.β) * r.b + 0 * r.b = (f.α * r.a + f.β * r.b) * f.β
      have e : f.α * r.b - f.β * r.a = 0 := c0
      grind
  -- two rows
  by_cases two : ∃ r ∈ A, ∃ s ∈ A, C r < 0 ∧ 0 < C s ∧ 0 < cross r s
  · obtain ⟨r, hr, s, hs, c1, c2, cr⟩ := two
    obtain ⟨hr, zr⟩ := (memA r).mp hr
    obtain ⟨hs, zs⟩ := (memA s).mp hs
    refine ⟨r, s, C s, -(C r), cross r s, hr, hs, cr, c2, by omega, zr, zs, ?_, ?_⟩
    · show (f.α * s.b - f.β * s.a) * r.a + -(f.α * r.b - f.β * r.a) * s.a = (r.a * s.b - r.b * s.a) * f.α
      grind
    · show (f.α * s.b - f.β * s.a) * r.b + -(f.α * r.b - f.β * r.a) * s.b = (r.a * s.b - r.b * s.a) * f.β
      grind
  -- else there is a step on
  exfalso
  by_cases right : ∃ s ∈ A, 0 < C s
  · obtain ⟨s, hs, cs, hmax⟩ := max_ratio T C A right
    refine stuck (C s * f.α + T s * f.β) (C s * f.β - T s * f.α) (fun r hr zr => ?_) ?_
    · have hrA : r ∈ A := (memA r).mpr ⟨hr, zr⟩
      have e : dot r (C s * f.α + T s * f.β) (C s * f.β - T s * f.α) = T r * C s - T s * C r := by
        show r.a * (C s * f.α + T s * f.β) + r.b * (C s * f.β - T s * f.α) = (f.α * r.a + f.β * r.b) * C s - T s * (f.α * r.b - f.β * r.a)
        grind
      rw [e]
      rcases Int.lt_trichotomy (C r) 0 with c | c | c
      · -- no pair
        have nc : ¬ 0 < cross r s := fun z => two ⟨r, hrA, s, hs, c, cs, z⟩
        have e2 : T r * C s - T s * C r = cross r s * (f.α * f.α + f.β * f.β) := by
          show (f.α * r.a + f.β * r.b) * (f.α * s.b - f.β * s.a) - (f.α * s.a + f.β * s.b) * (f.α * r.b - f.β * r.a) = (r.a * s.b - r.b * s.a) * (f.α * f.α + f.β * f.β)
          grind
        rw [e2]
        exact Int.mul_nonpos_of_nonpos_of_nonneg (by omega) (by omega)
      · have nt : ¬ 0 < T r := fun z => one ⟨r, hrA, c, z⟩
        rw [c]
        have := Int.mul_nonpos_of_nonpos_of_nonneg (show T r ≤ 0 by omega) (show 0 ≤ C s by omega)
        omega
      · have := hmax r hrA c
        omega
    · have e : f.α * (C s * f.α + T s * f.β) + f.β * (C s * f.β - T s * f.α) = C s * (f.α * f.α + f.β * f.β) := by grind
      rw [e]
      exact Int.mul_pos cs sq
  · -- all on the left, or none
    obtain ⟨M, hM⟩ : ∃ M : Int, ∀ r ∈ A, C r < 0 → T r ≤ M := by
      clear right two one stuck memA
      generalize A = l
      induction l with
      | nil => exact ⟨0, fun r hr => by cases hr⟩
      | cons x l ih =>
        obtain ⟨M, h⟩ := ih
        refine ⟨if T x ≤ M then M else T x, fun r hr hc => ?_⟩
        rcases List.mem_cons.mp hr with e | m
        · subst e; split <;> omega
        · have := h r m hc
          split <;> omega
    let N : Int := if 0 ≤ M then M else 0
    have hN : 0 ≤ N := by show 0 ≤ (if 0 ≤ M then M else 0); split <;> omega
    have hMN : M ≤ N := by show M ≤ (if 0 ≤ M then M else 0); split <;> omega
    refine stuck (f.α - N * f.β) (f.β + N * f.α) (fun r hr zr => ?_) ?_
    · have hrA : r ∈ A := (memA r).mpr ⟨hr, zr⟩
      have e : dot r (f.α - N * f.β) (f.β + N * f.α) = T r + N * C r := by
        show r.a * (f.α - N * f.β) + r.b * (f.β + N * f.α) = f.α * r.a + f.β * r.b + N * (f.α * r.b - f.β * r.a)
        grind
      rw [e]
      rcases Int.lt_trichotomy (C r) 0 with c | c | c
      · have h1 := hM r hrA c
        have h2 : N * C r ≤ N * (-1) := Int.mul_le_mul_of_nonneg_left (by omega) hN
        omega
      · have nt : ¬ 0 < T r := fun z => one ⟨r, hrA, c, z⟩
        rw [c]
        omega
      · exact absurd ⟨r, hrA, c⟩ right
    · have e : f.α * (f.α - N * f.β) + f.β * (f.β + N * f.α) = f.α * f.α + f.β * f.β := by grind
      rw [e]
      exact sq
end LG

/-! The farthest corner; why nothing is left. Plain Lean, my own. -/
namespace LG
/-! ### the same spot -/
structure Sim (p q : Pt) : Prop where
  x : p.x * q.w = q.x * p.w
  y : p.y * q.w = q.y * p.w
theorem Sim.symm {p q : Pt} (h : Sim p q) : Sim q p := ⟨h.x.symm, h.y.symm⟩
theorem Sim.refl (p : Pt) : Sim p p := ⟨rfl, rfl⟩
theorem Sim.rch {p q : Pt} (h : Sim p q) (r : Row) : rch r p * q.w = rch r q * p.w := by
  have h1 := h.x
  have h2 := h.y
  unfold LG.rch
  grind
theorem Sim.trans {p q r : Pt} (hq : 0 < q.w) (h : Sim p q) (k : Sim q r) : Sim p r := by
  have hx := h.x
  have hy := h.y
  have kx := k.x
  have ky := k.y
  constructor
  · apply Int.eq_of_mul_eq_mul_right (show q.w ≠ 0 by omega)
    grind
  · apply Int.eq_of_mul_eq_mul_right (show q.w ≠ 0 by omega)
    grind
theorem Sim.le0 {p q : Pt} (hp : 0 < p.w) (hq : 0 < q.w) (h : Sim p q) {r : Row} (k : LG.rch r p ≤ 0) : LG.rch r q ≤ 0 := by
  have e := h.rch r
  have h1 : LG.rch r p * q.w ≤ 0 := Int.mul_nonpos_of_nonpos_of_nonneg k (by omega)
  apply Classical.byContradiction
  intro c
  have h2 : 0 < LG.rch r q * p.w := Int.mul_pos (by omega) hp
  omega
theorem Sim.eq0 {p q : Pt} (hp : 0 < p.w) (hq : 0 < q.w) (h : Sim p q) {r : Row} (k : LG.rch r p = 0) : LG.rch r q = 0 := by
  have e := h.rch r
  rw [k, Int.zero_mul] at e
  rcases Int.mul_eq_zero.mp e.symm with h | h <;> omega
theorem Sim.kept {R : List Row} {p q : Pt} (hq : 0 < q.w) (h : Sim p q) (k : Kept R p) : Kept R q := ⟨hq, fun r hr => h.le0 k.pos hq (k.le r hr)⟩
theorem Sim.corner {R : List Row} {p q : Pt} (hq : 0 < q.w) (h : Sim p q) (k : Corner R p) : Corner R q := by
  obtain ⟨r, hr, s, hs, zr, zs, c⟩ := k.two
  exact ⟨h.kept hq k.kept, r, hr, s, hs, h.eq0 k.kept.pos hq zr, h.eq0 k.kept.pos hq zs, c⟩
theorem Sim.fle {p q : Pt} (h : Sim p q) (f : Fn) : f.le p q := by
  have h1 := h.x
  have h2 := h.y
  have e : f.at p * q.w = f.at q * p.w := by
    unfold Fn.at
    grind
  unfold Fn.le
  omega
/-! ### where two lines meet -/
def meet (r s : Row) : Pt := if 0 < cross r s then ⟨r.c * s.b - r.b * s.c, r.a * s.c - r.c * s.a, cross r s⟩ else ⟨-(r.c * s.b - r.b * s.c), -(r.a * s.c - r.c * s.a), -(cross r s)⟩
theorem meet_pos {r s : Row} (h : cross r s ≠ 0) : 0 < (meet r s).w := by
  unfold meet
  split
  · assumption
  · show 0 < -(cross r s)
    omega
theorem meet_sim {r s : Row} {p : Pt} (h : cross r s ≠ 0) (hr : rch r p = 0) (hs : rch s p = 0) : Sim p (meet r s) := by
  unfold rch at hr hs
  unfold meet cross
  split
  · constructor <;> simp only <;> grind
  · constructor <;> simp only <;> grind
theorem meet_on {r s : Row} : rch r (meet r s) = 0 ∧ rch s (meet r s) = 0 := by
  unfold meet rch cross
  split
  · constructor <;> simp only <;> grind
  · constructor <;> simp only <;> grind
/-! ### the farthest -/
theorem max_fn (f : Fn) : ∀ l : List Pt, l ≠ [] → (∀ p ∈ l, 0 < p.w) → ∃ q ∈ l, ∀ p ∈ l, f.le p q
  | [], h, _ => absurd rfl h
  | [p], _, _ => ⟨p, List.mem_cons_self, fun q hq => by
    have e : q = p := by simpa using hq
    subst e
    exact Fn.le_refl f _⟩
  | p :: q :: l, _, h => by
    obtain ⟨m, hm, hmax⟩ := max_fn f (q :: l) (by simp) (fun x hx => h x (List.mem_cons_of_mem _ hx))
    have p0 := h p List.mem_cons_self
    have m0 := h m (List.mem_cons_of_mem _ hm)
    rcases Int.le_total (f.at p * m.w) (f.at m * p.w) with c | c
    · refine ⟨m, List.mem_cons_of_mem _ hm, fun x hx => ?_⟩
      rcases List.mem_cons.mp hx with e | k
      · subst e; exact c
      · exact hmax x k
    · refine ⟨p, List.mem_cons_self, fun x hx => ?_⟩
      rcases List.mem_cons.mp hx with e | k
      · subst e; exact Fn.le_refl f _
      · exact Fn.le_trans (h x (List.mem_cons_of_mem _ k)) m0 p0 (hmax x k) c
def meets (R : List Row) : List Pt := (R.flatMap fun r => (R.filter fun s => cross r s ≠ 0).map fun s => meet r s).filter fun q => R.all fun r => rch r q ≤ 0
theorem mem_meets {R : List Row} {q : Pt} : q ∈ meets R ↔ ∃ r ∈ R, ∃ s ∈ R, cross r s ≠ 0 ∧ q = meet r s ∧ ∀ t ∈ R, rch t q ≤ 0 := by
  unfold meets
  simp only [List.mem_filter, List.mem_flatMap, List.mem_map, List.all_eq_true, decide_eq_true_eq]
  constructor
  · rintro ⟨⟨r, hr, s, ⟨hs, c⟩, e⟩, h⟩
    exact ⟨r, hr, s, hs, by simpa using c, e.symm, h⟩
  · rintro ⟨r, hr, s, hs, c, e, h⟩
    exact ⟨⟨r, hr, s, ⟨hs, by simpa using c⟩, e.symm⟩, h⟩
theorem meets_corner {R : List Row} {q : Pt} (h : q ∈ meets R) : Corner R q := by
  obtain ⟨r, hr, s, hs, c, rfl, k⟩ := mem_meets.mp h
  exact ⟨⟨meet_pos c, k⟩, r, hr, s, hs, meet_on.1, meet_on.2, c⟩
theorem corner_meets {R : List Row} {p : Pt} (h : Corner R p) : ∃ q ∈ meets R, Sim p q := by
  obtain ⟨r, hr, s, hs, zr, zs, c⟩ := h.two
  have sm := meet_sim c zr zs
  exact ⟨_, mem_meets.mpr ⟨r, hr, s, hs, c, rfl, (sm.kept (meet_pos c) h.kept).le⟩, sm⟩
/-- a corner than which no kept spot lies farther -/
theorem farthest {R : List Row} (hR : Held R) (hz : ∀ r ∈ R, ¬ (r.a = 0 ∧ r.b = 0)) {p : Pt} (hp : Kept R p) (f : Fn) : ∃ q ∈ meets R, ∀ q', Kept R q' → f.le q' q := by
  obtain ⟨c0, k0, _⟩ := far_corner hR hz hp f
  obtain ⟨m0, hm0, _⟩ := corner_meets k0
  obtain ⟨q, hq, hmax⟩ := max_fn f (meets R) (List.ne_nil_of_mem hm0) (fun x hx => (meets_corner hx).kept.pos)
  refine ⟨q, hq, fun q' hq' => ?_⟩
  obtain ⟨c, kc, lc⟩ := far_corner hR hz hq' f
  obtain ⟨m, hm, sm⟩ := corner_meets kc
  have mw := (meets_corner hm).kept.pos
  exact Fn.le_trans hq'.pos mw (meets_corner hq).kept.pos (Fn.le_trans hq'.pos kc.kept.pos mw lc (sm.fle f)) (hmax m hm)
/-! ### nothing is left -/
/-- taken u, v, m times the three rows come to a = 0, b = 0, c below 0 -/
structure Why (R : List Row) (r s t : Row) (u v m : Int) : Prop where
  hr : r ∈ R
  hs : s ∈ R
  ht : t ∈ R
  up : 0 < u
  vn : 0 ≤ v
  mp : 0 < m
  ea : u * r.a + v * s.a + m * t.a = 0
  eb : u * r.b + v * s.b + m * t.b = 0
  ec : u * r.c + v * s.c + m * t.c < 0
theorem why_none {R : List Row} {r s t : Row} {u v m : Int} (h : Why R r s t u v m) (p : Pt) : ¬ Kept R p := by
  intro k
  have h1 : u * rch r p ≤ 0 := Int.mul_nonpos_of_nonneg_of_nonpos (by have := h.up; omega) (k.le r h.hr)
  have h2 : v * rch s p ≤ 0 := Int.mul_nonpos_of_nonneg_of_nonpos h.vn (k.le s h.hs)
  have h3 : m * rch t p ≤ 0 := Int.mul_nonpos_of_nonneg_of_nonpos (by have := h.mp; omega) (k.le t h.ht)
  have h4 : (u * r.c + v * s.c + m * t.c) * p.w < 0 := Int.mul_neg_of_neg_of_pos h.ec k.pos
  have ea := h.ea
  have eb := h.eb
  have e : u * rch r p + v * rch s p + m * rch t p = -((u * r.c + v * s.c + m * t.c) * p.w) := by
    unfold rch
    grind
  omega
/-- B: rows that hold a field, and leave something -/
theorem why_or {B : List Row} (hB : Held B) (hzB : ∀ r ∈ B, ¬ (r.a = 0 ∧ r.b = 0)) {p0 : Pt} (h0 : Kept B p0) : ∀ F : List Row, (∀ r ∈ F, ¬ (r.a = 0 ∧ r.b = 0)) → (∃ p, Kept (F ++ B) p) ∨ ∃ r s t u v m, Why (F ++ B) r s t u v m
  | [], _ => .inl ⟨p0, h0⟩
  | t :: F, hz => by
    rcases why_or hB hzB h0 F (fun r hr => hz r (List.mem_cons_of_mem _ hr)) with ⟨p, hp⟩ | ⟨r, s, t', u, v, m, k⟩
    · have hR : Held (F ++ B) := fun dx dy n => by
        obtain ⟨r, hr, d⟩ := hB dx dy n
        exact ⟨r, List.mem_append_right _ hr, d⟩
      have hz' : ∀ r ∈ F ++ B, ¬ (r.a = 0 ∧ r.b = 0) := fun r hr => by
        rcases List.mem_append.mp hr with h | h
        · exact hz r (List.mem_cons_of_mem _ h)
        · exact hzB r h
      obtain ⟨q, hq, hmax⟩ := farthest hR hz' hp ⟨-t.a, -t.b⟩
      have kq := (meets_corner hq).kept
      by_cases c : rch t q ≤ 0
      · exact .inl ⟨q, kq.pos, fun r hr => by
          rcases List.mem_cons.mp (show r ∈ t :: (F ++ B) from hr) with e | h
          · subst e; exact c
          · exact kq.le r h⟩
      · have tz := hz t List.mem_cons_self
        obtain ⟨r, s, u, v, m, d⟩ := dual_of hR kq (f := ⟨-t.a, -t.b⟩) (by simp only; omega) hmax
        have ea := d.ea
        have eb := d.eb
        have zr := d.zr
        have zs := d.zs
        simp only at ea eb
        refine .inr ⟨r, s, t, u, v, m, List.mem_cons_of_mem _ d.hr, List.mem_cons_of_mem _ d.hs, List.mem_cons_self, d.up, d.vn, d.pos, by grind, by grind, ?_⟩
        have e : (u * r.c + v * s.c + m * t.c) * q.w = -(m * rch t q) := by
          unfold rch at zr zs ⊢
          grind
        have h1 : 0 < m * rch t q := Int.mul_pos d.pos (by omega)
        apply Classical.byContradiction
        intro n
        have := Int.mul_nonneg (show 0 ≤ u * r.c + v * s.c + m * t.c by omega) (show 0 ≤ q.w by have := kq.pos; omega)
        omega
    · exact .inr ⟨r, s, t', u, v, m, List.mem_cons_of_mem _ k.hr, List.mem_cons_of_mem _ k.hs, List.mem_cons_of_mem _ k.ht, k.up, k.vn, k.mp, k.ea, k.eb, k.ec⟩
end LG

/-! What lies between corners. Plain Lean, my own. -/
namespace LG
/-- twice the area of a triangle, times the three w: above 0 where r lies on the left of the way from p to q -/
def tri (p q r : Pt) : Int := p.x * (q.y * r.w - r.y * q.w) - p.y * (q.x * r.w - r.x * q.w) + p.w * (q.x * r.y - r.x * q.y)
theorem tri_rot (p q r : Pt) : tri p q r = tri q r p := by
  unfold tri
  grind
theorem tri_swap (p q r : Pt) : tri p r q = -(tri p q r) := by
  unfold tri
  grind
theorem tri_self (p q : Pt) : tri p q p = 0 ∧ tri p q q = 0 ∧ tri p p q = 0 := by
  unfold tri
  constructor
  · grind
  constructor <;> grind
theorem rch_tri (r : Row) (a b c p : Pt) : rch r p * tri a b c = tri p b c * rch r a + tri a p c * rch r b + tri a b p * rch r c := by
  unfold rch tri
  grind
/-- within a triangle -/
theorem in_triangle {r : Row} {a b c p : Pt} (h : 0 < tri a b c) (h1 : 0 ≤ tri a b p) (h2 : 0 ≤ tri b c p) (h3 : 0 ≤ tri c a p) (ka : rch r a ≤ 0) (kb : rch r b ≤ 0) (kc : rch r c ≤ 0) : rch r p ≤ 0 := by
  have e := rch_tri r a b c p
  have e1 : tri p b c = tri b c p := tri_rot p b c
  have e2 : tri a p c = tri c a p := by rw [tri_rot c a p]
  rw [e1, e2] at e
  have m1 : tri b c p * rch r a ≤ 0 := Int.mul_nonpos_of_nonneg_of_nonpos h2 ka
  have m2 : tri c a p * rch r b ≤ 0 := Int.mul_nonpos_of_nonneg_of_nonpos h3 kb
  have m3 : tri a b p * rch r c ≤ 0 := Int.mul_nonpos_of_nonneg_of_nonpos h1 kc
  apply Classical.byContradiction
  intro n
  have := Int.mul_pos (show 0 < rch r p by omega) h
  omega
/-! ### a ring of corners -/
def prev (n k : Nat) : Nat := if k = 0 then n - 1 else k - 1
/-- whoever goes from one to the next has all others on the left -/
structure Ring (n : Nat) (c : Nat → Pt) : Prop where
  three : 3 ≤ n
  pos : ∀ k, k < n → 0 < (c k).w
  left : ∀ k j, k < n → j < n → j ≠ prev n k → j ≠ k → 0 < tri (c (prev n k)) (c k) (c j)
theorem Ring.left0 {n : Nat} {c : Nat → Pt} (h : Ring n c) {k j : Nat} (hk : k < n) (hj : j < n) : 0 ≤ tri (c (prev n k)) (c k) (c j) := by
  by_cases e1 : j = prev n k
  · rw [e1, (tri_self _ _).1]
    exact Int.le_refl 0
  by_cases e2 : j = k
  · rw [e2, (tri_self _ _).2.1]
    exact Int.le_refl 0
  · have := h.left k j hk hj e1 e2
    omega
theorem change {g : Nat → Int} : ∀ m : Nat, 0 ≤ g 1 → g (m + 2) ≤ 0 → ∃ i, 1 ≤ i ∧ i ≤ m + 1 ∧ 0 ≤ g i ∧ g (i + 1) ≤ 0
  | 0, h1, h2 => ⟨1, by omega, by omega, h1, h2⟩
  | m + 1, h1, h2 => by
    by_cases c : g (m + 2) ≤ 0
    · obtain ⟨i, a, b, d, e⟩ := change m h1 c
      exact ⟨i, a, by omega, d, e⟩
    · exact ⟨m + 2, by omega, by omega, by omega, h2⟩
/-- what lies within the ring is kept by whatever keeps the corners -/
theorem Ring.within {n : Nat} {c : Nat → Pt} (h : Ring n c) {r : Row} {p : Pt} (hp : ∀ k, k < n → 0 ≤ tri (c (prev n k)) (c k) p) (hc : ∀ k, k < n → rch r (c k) ≤ 0) : rch r p ≤ 0 := by
  have n3 := h.three
  obtain ⟨m, rfl⟩ : ∃ m, n = m + 3 := ⟨n - 3, by omega⟩
  have g1 : 0 ≤ tri (c 0) (c 1) p := hp 1 (by omega)
  have g2 : tri (c 0) (c (m + 2)) p ≤ 0 := by
    have h0 := hp 0 (by omega)
    have e : prev (m + 3) 0 = m + 2 := rfl
    rw [e, tri_rot, tri_swap] at h0
    omega
  obtain ⟨i, i1, i2, a, b⟩ := change (g := fun i => tri (c 0) (c i) p) m g1 g2
  have a : 0 ≤ tri (c 0) (c i) p := a
  have b : tri (c 0) (c (i + 1)) p ≤ 0 := b
  have e : prev (m + 3) (i + 1) = i := by
    unfold prev
    rw [if_neg (by omega)]
    omega
  have k2 := hp (i + 1) (by omega)
  rw [e] at k2
  have pos := h.left (i + 1) 0 (by omega) (by omega) (by rw [e]; omega) (by omega)
  rw [e] at pos
  refine in_triangle (a := c 0) (b := c i) (c := c (i + 1)) (by rw [tri_rot]; exact pos) a k2 ?_ (hc 0 (by omega)) (hc i (by omega)) (hc (i + 1) (by omega))
  have e3 : tri (c (i + 1)) (c 0) p = -(tri (c 0) (c (i + 1)) p) := by
    unfold tri
    grind
  omega
/-- all corners stand in the ring -/
def All (R : List Row) (n : Nat) (c : Nat → Pt) : Prop := ∀ q, Corner R q → ∃ k, k < n ∧ Sim q (c k)
/-- the way from u to v as a linear function: its greatest lies farthest on the right -/
def side (u v : Pt) : Fn := ⟨-(u.y * v.w - v.y * u.w), u.x * v.w - v.x * u.w⟩
theorem side_tri (u v p q : Pt) (h : (side u v).le p q) : tri u v q * p.w ≤ tri u v p * q.w := by
  have h : (-(u.y * v.w - v.y * u.w) * p.x + (u.x * v.w - v.x * u.w) * p.y) * q.w ≤ (-(u.y * v.w - v.y * u.w) * q.x + (u.x * v.w - v.x * u.w) * q.y) * p.w := h
  have e1 : tri u v p = -(-(u.y * v.w - v.y * u.w) * p.x + (u.x * v.w - v.x * u.w) * p.y) + (u.x * v.y - v.x * u.y) * p.w := by
    unfold tri
    grind
  have e2 : tri u v q = -(-(u.y * v.w - v.y * u.w) * q.x + (u.x * v.w - v.x * u.w) * q.y) + (u.x * v.y - v.x * u.y) * q.w := by
    unfold tri
    grind
  rw [e1, e2]
  generalize (-(u.y * v.w - v.y * u.w) * p.x + (u.x * v.w - v.x * u.w) * p.y) = A at *
  generalize (-(u.y * v.w - v.y * u.w) * q.x + (u.x * v.w - v.x * u.w) * q.y) = B at *
  have e3 : (-B + (u.x * v.y - v.x * u.y) * q.w) * p.w = -(B * p.w) + (u.x * v.y - v.x * u.y) * q.w * p.w := by grind
  have e4 : (-A + (u.x * v.y - v.x * u.y) * p.w) * q.w = -(A * q.w) + (u.x * v.y - v.x * u.y) * q.w * p.w := by grind
  omega
theorem Sim.tri {q q' : Pt} (h : Sim q q') (u v : Pt) : tri u v q * q'.w = tri u v q' * q.w := by
  have h1 := h.x
  have h2 := h.y
  unfold LG.tri
  grind
/-- where no corner lies on the right of a way, no kept spot does -/
theorem left_of {R : List Row} (hR : Held R) (hz : ∀ r ∈ R, ¬ (r.a = 0 ∧ r.b = 0)) {p u v : Pt} (hp : Kept R p) (hc : ∀ q, Corner R q → 0 ≤ tri u v q) : 0 ≤ tri u v p := by
  obtain ⟨q, kq, l⟩ := far_corner hR hz hp (side u v)
  have h1 := side_tri u v p q l
  have h2 := hc q kq
  have h3 : 0 ≤ tri u v q * p.w := Int.mul_nonneg h2 (by have := hp.pos; omega)
  apply Classical.byContradiction
  intro n
  have := Int.mul_neg_of_neg_of_pos (show tri u v p < 0 by omega) kq.kept.pos
  omega
theorem All.tri0 {R : List Row} {n : Nat} {c : Nat → Pt} (h : All R n c) (hw : ∀ k, k < n → 0 < (c k).w) {u v : Pt} (hl : ∀ k, k < n → 0 ≤ tri u v (c k)) {q : Pt} (kq : Corner R q) : 0 ≤ tri u v q := by
  obtain ⟨k, hk, s⟩ := h q kq
  have e := s.tri u v
  have h1 := hl k hk
  have h2 : 0 ≤ tri u v (c k) * q.w := Int.mul_nonneg h1 (by have := kq.kept.pos; omega)
  apply Classical.byContradiction
  intro n
  have := Int.mul_neg_of_neg_of_pos (show tri u v q < 0 by omega) (hw k hk)
  omega
/-- of three corners and more: what is kept is what lies on no right side -/
theorem Ring.land {R : List Row} (hR : Held R) (hz : ∀ r ∈ R, ¬ (r.a = 0 ∧ r.b = 0)) {n : Nat} {c : Nat → Pt} (h : Ring n c) (ha : All R n c) (hk : ∀ k, k < n → Kept R (c k)) {p : Pt} (hp : 0 < p.w) :
    Kept R p ↔ ∀ k, k < n → 0 ≤ tri (c (prev n k)) (c k) p := by
  constructor
  · intro kp k hkn
    exact left_of hR hz kp fun q kq => ha.tri0 h.pos (fun j hj => h.left0 hkn hj) kq
  · intro hl
    exact ⟨hp, fun r hr => h.within hl fun k hkn => (hk k hkn).le r hr⟩
/-! ### two corners -/
/-- lower, or as low and farther to the left -/
def lower (p q : Pt) : Prop := if p.y * q.w ≠ q.y * p.w then p.y * q.w < q.y * p.w else p.x * q.w < q.x * p.w
instance (p q : Pt) : Decidable (lower p q) := by unfold lower; infer_instance
theorem two_land {R : List Row} (hR : Held R) (hz : ∀ r ∈ R, ¬ (r.a = 0 ∧ r.b = 0)) {c0 c1 : Pt} (ha : ∀ q, Corner R q → Sim q c0 ∨ Sim q c1) (k0 : Kept R c0) (k1 : Kept R c1) (hl : lower c0 c1) {p : Pt} (hp : 0 < p.w) :
    Kept R p ↔ (tri c0 c1 p = 0 ∧ ¬ lower p c0 ∧ ¬ lower c1 p) := by
  have w0 := k0.pos
  have w1 := k1.pos
  constructor
  · intro kp
    have t0 : tri c0 c1 p = 0 := by
      have z : ∀ q, Corner R q → tri c0 c1 q = 0 := fun q kq => by
        rcases ha q kq with s | s
        · have e := s.tri c0 c1
          rw [(tri_self c0 c1).1, Int.zero_mul] at e
          rcases Int.mul_eq_zero.mp e with h | h <;> omega
        · have e := s.tri c0 c1
          rw [(tri_self c0 c1).2.1, Int.zero_mul] at e
          rcases Int.mul_eq_zero.mp e with h | h <;> omega
      have a := left_of hR hz kp (u := c0) (v := c1) fun q kq => by rw [z q kq]; exact Int.le_refl 0
      have b := left_of hR hz kp (u := c1) (v := c0) fun q kq => by
        have e : tri c1 c0 q = -(tri c0 c1 q) := by unfold tri; grind
        rw [e, z q kq]
        exact Int.le_refl 0
      have e : tri c1 c0 p = -(tri c0 c1 p) := by unfold tri; grind
      omega
    -- no corner lies farther any way than c0 or c1 do
    have far : ∀ f : Fn, f.le p c0 ∨ f.le p c1 := fun f => by
      obtain ⟨q, kq, l⟩ := far_corner hR hz kp f
      rcases ha q kq with s | s
      · exact .inl (Fn.le_trans hp kq.kept.pos w0 l (s.fle f))
      · exact .inr (Fn.le_trans hp kq.kept.pos w1 l (s.fle f))
    have fy : p.y * c0.w ≤ c0.y * p.w ∨ p.y * c1.w ≤ c1.y * p.w := by
      rcases far ⟨0, 1⟩ with h | h
      · left; unfold Fn.le Fn.at at h; simp only at h; grind
      · right; unfold Fn.le Fn.at at h; simp only at h; grind
    have fy' : c0.y * p.w ≤ p.y * c0.w ∨ c1.y * p.w ≤ p.y * c1.w := by
      rcases far ⟨0, -1⟩ with h | h
      · left; unfold Fn.le Fn.at at h; simp only at h; grind
      · right; unfold Fn.le Fn.at at h; simp only at h; grind
    have fx : p.x * c0.w ≤ c0.x * p.w ∨ p.x * c1.w ≤ c1.x * p.w := by
      rcases far ⟨1, 0⟩ with h | h
      · left; unfold Fn.le Fn.at at h; simp only at h; grind
      · right; unfold Fn.le Fn.at at h; simp only at h; grind
    have fx' : c0.x * p.w ≤ p.x * c0.w ∨ c1.x * p.w ≤ p.x * c1.w := by
      rcases far ⟨-1, 0⟩ with h | h
      · left; unfold Fn.le Fn.at at h; simp only at h; grind
      · right; unfold Fn.le Fn.at at h; simp only at h; grind
    have i0 : tri c0 c1 p * c0.w = (c1.x * c0.w - c0.x * c1.w) * (p.y * c0.w - c0.y * p.w) - (c1.y * c0.w - c0.y * c1.w) * (p.x * c0.w - c0.x * p.w) := by
      unfold tri
      grind
    have i1 : tri c0 c1 p * c1.w = (c1.x * c0.w - c0.x * c1.w) * (p.y * c1.w - c1.y * p.w) - (c1.y * c0.w - c0.y * c1.w) * (p.x * c1.w - c1.x * p.w) := by
      unfold tri
      grind
    rw [t0, Int.zero_mul] at i0 i1
    unfold lower at hl
    by_cases yd : c0.y * c1.w ≠ c1.y * c0.w
    · rw [if_pos yd] at hl
      refine ⟨t0, fun l => ?_, fun l => ?_⟩
      · unfold lower at l
        by_cases ye : p.y * c0.w ≠ c0.y * p.w
        · rw [if_pos ye] at l
          rcases fy' with h | h
          · omega
          · have := ratio_trans w1 hp w0 h (show p.y * c0.w ≤ c0.y * p.w by omega)
            omega
        · rw [if_neg ye] at l
          have z : p.y * c0.w - c0.y * p.w = 0 := by omega
          rw [z, Int.mul_zero] at i0
          have z2 : (c1.y * c0.w - c0.y * c1.w) * (p.x * c0.w - c0.x * p.w) = 0 := by omega
          rcases Int.mul_eq_zero.mp z2 with h | h <;> omega
      · unfold lower at l
        by_cases ye : c1.y * p.w ≠ p.y * c1.w
        · rw [if_pos ye] at l
          rcases fy with h | h
          · have := ratio_trans w1 hp w0 (show c1.y * p.w ≤ p.y * c1.w by omega) h
            omega
          · omega
        · rw [if_neg ye] at l
          have z : p.y * c1.w - c1.y * p.w = 0 := by omega
          rw [z, Int.mul_zero] at i1
          have z2 : (c1.y * c0.w - c0.y * c1.w) * (p.x * c1.w - c1.x * p.w) = 0 := by omega
          rcases Int.mul_eq_zero.mp z2 with h | h <;> omega
    · rw [if_neg yd] at hl
      have d0 : c1.y * c0.w - c0.y * c1.w = 0 := by omega
      rw [d0, Int.zero_mul] at i0 i1
      have y0 : p.y * c0.w - c0.y * p.w = 0 := by
        rcases Int.mul_eq_zero.mp (show (c1.x * c0.w - c0.x * c1.w) * (p.y * c0.w - c0.y * p.w) = 0 by omega) with h | h <;> omega
      have y1 : p.y * c1.w - c1.y * p.w = 0 := by
        rcases Int.mul_eq_zero.mp (show (c1.x * c0.w - c0.x * c1.w) * (p.y * c1.w - c1.y * p.w) = 0 by omega) with h | h <;> omega
      refine ⟨t0, fun l => ?_, fun l => ?_⟩
      · unfold lower at l
        rw [if_neg (by omega)] at l
        rcases fx' with h | h
        · omega
        · have := ratio_trans w1 hp w0 h (show p.x * c0.w ≤ c0.x * p.w by omega)
          omega
      · unfold lower at l
        rw [if_neg (by omega)] at l
        rcases fx with h | h
        · have := ratio_trans w1 hp w0 (show c1.x * p.w ≤ p.x * c1.w by omega) h
          omega
        · omega
  · rintro ⟨t0, l0, l1⟩
    refine ⟨hp, fun r hr => ?_⟩
    have r0 := k0.le r hr
    have r1 := k1.le r hr
    unfold lower at hl l0 l1
    by_cases yd : c0.y * c1.w ≠ c1.y * c0.w
    · rw [if_pos yd] at hl
      have a0 : 0 ≤ p.y * c0.w - c0.y * p.w := by
        by_cases ye : p.y * c0.w ≠ c0.y * p.w
        · rw [if_pos ye] at l0
          omega
        · omega
      have a1 : 0 ≤ c1.y * p.w - p.y * c1.w := by
        by_cases ye : c1.y * p.w ≠ p.y * c1.w
        · rw [if_pos ye] at l1
          omega
        · omega
      have e : rch r p * (c1.y * c0.w - c0.y * c1.w) = (c1.y * p.w - p.y * c1.w) * rch r c0 + (p.y * c0.w - c0.y * p.w) * rch r c1 := by
        unfold tri at t0
        unfold rch
        grind
      have m0 := Int.mul_nonpos_of_nonneg_of_nonpos a1 r0
      have m1 := Int.mul_nonpos_of_nonneg_of_nonpos a0 r1
      apply Classical.byContradiction
      intro n
      have := Int.mul_pos (show 0 < rch r p by omega) (show 0 < c1.y * c0.w - c0.y * c1.w by omega)
      omega
    · rw [if_neg yd] at hl
      have i0 : tri c0 c1 p * c0.w = (c1.x * c0.w - c0.x * c1.w) * (p.y * c0.w - c0.y * p.w) - (c1.y * c0.w - c0.y * c1.w) * (p.x * c0.w - c0.x * p.w) := by
        unfold tri
        grind
      have i1 : tri c0 c1 p * c1.w = (c1.x * c0.w - c0.x * c1.w) * (p.y * c1.w - c1.y * p.w) - (c1.y * c0.w - c0.y * c1.w) * (p.x * c1.w - c1.x * p.w) := by
        unfold tri
        grind
      have d0 : c1.y * c0.w - c0.y * c1.w = 0 := by omega
      rw [t0, Int.zero_mul, d0, Int.zero_mul] at i0 i1
      have y0 : p.y * c0.w - c0.y * p.w = 0 := by
        rcases Int.mul_eq_zero.mp (show (c1.x * c0.w - c0.x * c1.w) * (p.y * c0.w - c0.y * p.w) = 0 by omega) with h | h <;> omega
      have y1 : p.y * c1.w - c1.y * p.w = 0 := by
        rcases Int.mul_eq_zero.mp (show (c1.x * c0.w - c0.x * c1.w) * (p.y * c1.w - c1.y * p.w) = 0 by omega) with h | h <;> omega
      rw [if_neg (by omega)] at l0 l1
      have a0 : 0 ≤ p.x * c0.w - c0.x * p.w := by omega
      have a1 : 0 ≤ c1.x * p.w - p.x * c1.w := by omega
      have e : rch r p * (c1.x * c0.w - c0.x * c1.w) = (c1.x * p.w - p.x * c1.w) * rch r c0 + (p.x * c0.w - c0.x * p.w) * rch r c1 := by
        unfold tri at t0
        unfold rch
        grind
      have m0 := Int.mul_nonpos_of_nonneg_of_nonpos a1 r0
      have m1 := Int.mul_nonpos_of_nonneg_of_nonpos a0 r1
      apply Classical.byContradiction
      intro n
      have := Int.mul_pos (show 0 < rch r p by omega) (show 0 < c1.x * c0.w - c0.x * c1.w by omega)
      omega
/-! ### one corner, none -/
theorem one_land {R : List Row} (hR : Held R) (hz : ∀ r ∈ R, ¬ (r.a = 0 ∧ r.b = 0)) {c0 : Pt} (ha : ∀ q, Corner R q → Sim q c0) (k0 : Kept R c0) {p : Pt} (hp : 0 < p.w) : Kept R p ↔ Sim p c0 := by
  constructor
  · intro kp
    have far : ∀ f : Fn, f.le p c0 := fun f => by
      obtain ⟨q, kq, l⟩ := far_corner hR hz kp f
      exact Fn.le_trans hp kq.kept.pos k0.pos l ((ha q kq).fle f)
    have a := far ⟨1, 0⟩
    have b := far ⟨-1, 0⟩
    have c := far ⟨0, 1⟩
    have d := far ⟨0, -1⟩
    unfold Fn.le Fn.at at a b c d
    simp only at a b c d
    constructor
    · have h1 : p.x * c0.w ≤ c0.x * p.w := by grind
      have h2 : c0.x * p.w ≤ p.x * c0.w := by grind
      omega
    · have h1 : p.y * c0.w ≤ c0.y * p.w := by grind
      have h2 : c0.y * p.w ≤ p.y * c0.w := by grind
      omega
  · intro s
    exact s.symm.kept hp k0
theorem no_land {R : List Row} (hR : Held R) (hz : ∀ r ∈ R, ¬ (r.a = 0 ∧ r.b = 0)) (ha : ∀ q, ¬ Corner R q) (p : Pt) : ¬ Kept R p := fun kp => by
  obtain ⟨q, kq, _⟩ := far_corner hR hz kp ⟨0, 0⟩
  exact ha q kq
end LG

/-! Spots as pairs of fractions; rings of corners; their area. Plain Lean, my own. -/
namespace LG
structure Q where
  x : Rat
  y : Rat
  deriving DecidableEq
/-- above 0 where r lies on the left of the way from p to q -/
def T (p q r : Q) : Rat := (q.x - p.x) * (r.y - p.y) - (r.x - p.x) * (q.y - p.y)
def cr (p q : Q) : Rat := p.x * q.y - q.x * p.y
theorem T_rot (p q r : Q) : T p q r = T q r p := by unfold T; grind
theorem T_swap (p q r : Q) : T p r q = -(T p q r) := by unfold T; grind
theorem T_self (p q : Q) : T p q p = 0 ∧ T p q q = 0 ∧ T p p q = 0 := by
  unfold T
  refine ⟨?_, ?_, ?_⟩ <;> grind
/-- whoever goes along the list, and back from its end, has all others on the left -/
def GC : List Q → Prop
  | [] => True
  | a :: l => l.Pairwise (fun b c => 0 < T a b c) ∧ GC l
theorem GC.sub {l l' : List Q} (s : l.Sublist l') (h : GC l') : GC l := by
  induction s with
  | slnil => exact h
  | cons a s ih => exact ih h.2
  | cons_cons a s ih => exact ⟨h.1.sublist s, ih h.2⟩
theorem GC.app {l m : List Q} (hl : GC l) (hm : GC m) (h1 : ∀ a ∈ l, m.Pairwise fun b c => 0 < T a b c) (h2 : l.Pairwise fun a b => ∀ c ∈ m, 0 < T a b c) : GC (l ++ m) := by
  induction l with
  | nil => exact hm
  | cons a l ih =>
    have h2' := List.pairwise_cons.mp h2
    refine ⟨List.pairwise_append.mpr ⟨hl.1, h1 a List.mem_cons_self, fun b hb c hc => h2'.1 b hb c hc⟩, ih hl.2 (fun b hb => h1 b (List.mem_cons_of_mem _ hb)) h2'.2⟩
theorem GC.of_app {l m : List Q} (h : GC (l ++ m)) : GC l ∧ GC m ∧ (∀ a ∈ l, m.Pairwise fun b c => 0 < T a b c) ∧ (l.Pairwise fun a b => ∀ c ∈ m, 0 < T a b c) := by
  induction l with
  | nil => exact ⟨trivial, h, fun a ha => absurd ha List.not_mem_nil, List.Pairwise.nil⟩
  | cons a l ih =>
    obtain ⟨h1, h2⟩ := h
    obtain ⟨a1, a2, a3⟩ := List.pairwise_append.mp h1
    obtain ⟨i1, i2, i3, i4⟩ := ih h2
    refine ⟨⟨a1, i1⟩, i2, fun b hb => ?_, List.pairwise_cons.mpr ⟨fun b hb c hc => a3 b hb c hc, i4⟩⟩
    rcases List.mem_cons.mp hb with e | k
    · subst e; exact a2
    · exact i3 b k
theorem GC.rot1 {a : Q} {l : List Q} (h : GC (a :: l)) : GC (l ++ [a]) := by
  refine GC.app h.2 ⟨List.Pairwise.nil, trivial⟩ (fun b hb => List.pairwise_singleton ..) ?_
  refine h.1.imp fun {b c} k d hd => ?_
  have e : d = a := by simpa using hd
  subst e
  rw [← T_rot]
  exact k
theorem GC.rot {l m : List Q} (h : GC (l ++ m)) : GC (m ++ l) := by
  induction l generalizing m with
  | nil => simpa using h
  | cons a l ih =>
    have h1 : GC ((l ++ m) ++ [a]) := GC.rot1 h
    rw [List.append_assoc] at h1
    have := ih h1
    rw [List.append_assoc] at this
    exact this
/-! ### pairs of neighbours -/
def lastD : Q → List Q → Q
  | a, [] => a
  | _, b :: l => lastD b l
theorem lastD_app (a : Q) (l : List Q) (b : Q) (m : List Q) : lastD a (l ++ b :: m) = lastD b m := by
  induction l generalizing a with
  | nil => rfl
  | cons c l ih => exact ih c
def path : Q → List Q → List (Q × Q)
  | _, [] => []
  | a, b :: l => (a, b) :: path b l
def pairs : List Q → List (Q × Q)
  | [] => []
  | a :: l => path a l ++ [(lastD a l, a)]
theorem path_fst (a : Q) (l : List Q) : (path a l).map Prod.fst ++ [lastD a l] = a :: l := by
  induction l generalizing a with
  | nil => rfl
  | cons b l ih =>
    show a :: ((path b l).map Prod.fst ++ [lastD b l]) = _
    rw [ih]
theorem pairs_fst (l : List Q) : (pairs l).map Prod.fst = l := by
  cases l with
  | nil => rfl
  | cons a l =>
    show (path a l ++ [(lastD a l, a)]).map Prod.fst = a :: l
    rw [List.map_append]
    exact path_fst a l
theorem path_mem {a : Q} {l : List Q} {p q : Q} (h : (p, q) ∈ path a l) : ∃ l1 l2, a :: l = l1 ++ p :: q :: l2 := by
  induction l generalizing a with
  | nil => cases h
  | cons b l ih =>
    rcases List.mem_cons.mp h with e | k
    · cases e
      exact ⟨[], l, rfl⟩
    · obtain ⟨l1, l2, e⟩ := ih k
      exact ⟨a :: l1, l2, by rw [e]; rfl⟩
theorem lastD_split (a : Q) (l : List Q) : l = [] ∨ ∃ m, l = m ++ [lastD a l] := by
  induction l generalizing a with
  | nil => exact .inl rfl
  | cons b l ih =>
    right
    rcases ih b with e | ⟨m, e⟩
    · subst e; exact ⟨[], rfl⟩
    · exact ⟨b :: m, by show b :: l = b :: (m ++ [lastD b l]); rw [← e]⟩
/-- q follows p: all the others lie on the left -/
def Follows (l : List Q) (p q : Q) : Prop := p ∈ l ∧ q ∈ l ∧ q ≠ p ∧ ∀ r ∈ l, r ≠ p → r ≠ q → 0 < T p q r
theorem GC.three {a b c : Q} {l1 l2 l3 l4 : List Q} (h : GC (l1 ++ a :: (l2 ++ b :: (l3 ++ c :: l4)))) : 0 < T a b c := by
  have h1 := (GC.of_app h).2.1.1
  obtain ⟨_, h2, _⟩ := List.pairwise_append.mp h1
  exact (List.pairwise_cons.mp h2).1 c (by simp)
theorem GC.nodup {l : List Q} (h : GC l) (h3 : 3 ≤ l.length) : l.Nodup := by
  match l, h3 with
  | a :: b :: c :: l, _ =>
    have ab : a ≠ b := fun e => by
      have := (List.pairwise_cons.mp h.1).1 c (by simp)
      rw [e, (T_self b c).2.2] at this
      exact absurd this (by grind)
    have ne : ∀ x ∈ b :: c :: l, a ≠ x := fun x hx e => by
      rcases List.mem_cons.mp hx with e2 | k
      · exact ab (e.trans e2)
      · have := (List.pairwise_cons.mp h.1).1 x k
        rw [e, (T_self x b).1] at this
        exact absurd this (by grind)
    refine List.nodup_cons.mpr ⟨fun k => ne a k rfl, ?_⟩
    refine h.1.imp fun {x y} k e => ?_
    rw [e, (T_self a y).2.1] at k
    exact absurd k (by grind)
theorem follows_of {l : List Q} (h : GC l) (h3 : 3 ≤ l.length) {p q : Q} (k : (p, q) ∈ pairs l) : Follows l p q := by
  have nd := h.nodup h3
  cases l with
  | nil => cases k
  | cons a l =>
    rcases List.mem_append.mp (show (p, q) ∈ path a l ++ [(lastD a l, a)] from k) with m | m
    · obtain ⟨l1, l2, e⟩ := path_mem m
      rw [e] at h nd ⊢
      refine ⟨by simp, by simp, ?_, fun r hr rp rq => ?_⟩
      · have := (List.nodup_append.mp nd).2.1
        intro e2
        subst e2
        exact (List.nodup_cons.mp this).1 (by simp)
      · rcases List.mem_append.mp hr with k | k
        · obtain ⟨x, y, e2⟩ := List.append_of_mem k
          subst e2
          rw [List.append_assoc] at h
          have h5 : 0 < T r p q := GC.three (l1 := x) (l2 := y) (l3 := []) (l4 := l2) (by simpa using h)
          rw [← T_rot]
          exact h5
        · rcases List.mem_cons.mp k with k | k
          · exact absurd k rp
          rcases List.mem_cons.mp k with k | k
          · exact absurd k rq
          · obtain ⟨x, y, e2⟩ := List.append_of_mem k
            subst e2
            exact GC.three (l1 := l1) (l2 := []) (l3 := x) (l4 := y) h
    · have e : (p, q) = (lastD a l, a) := by simpa using m
      have ep : p = lastD a l := congrArg Prod.fst e
      have eq : q = a := congrArg Prod.snd e
      clear e
      rcases lastD_split a l with e | ⟨m', e⟩
      · subst e
        simp at h3
      · rw [← ep] at e
        subst eq
        clear k m ep
        subst e
        refine ⟨by simp, by simp, ?_, fun r hr rp rq => ?_⟩
        · intro e2
          subst e2
          exact (List.nodup_cons.mp nd).1 (by simp)
        · have hr : r ∈ m' := by
            rcases List.mem_cons.mp hr with k | k
            · exact absurd k rq
            rcases List.mem_append.mp k with k | k
            · exact k
            · exact absurd (by simpa using k) rp
          obtain ⟨x, y, e2⟩ := List.append_of_mem hr
          subst e2
          have h5 : 0 < T q r p := GC.three (l1 := []) (l2 := x) (l3 := y) (l4 := []) (by simpa using h)
          rw [T_rot]
          exact h5
/-! ### the area, times two -/
def S (l : List Q) : Rat := ((pairs l).map fun k => cr k.1 k.2).sum
theorem nodup_map {α β : Type} (f : α → β) {l : List α} (h : (l.map f).Nodup) : l.Nodup := by
  induction l with
  | nil => exact List.nodup_nil
  | cons a l ih =>
    have h := List.nodup_cons.mp h
    exact List.nodup_cons.mpr ⟨fun k => h.1 (List.mem_map_of_mem k), ih h.2⟩
theorem sum_perm {α : Type} (f : α → Rat) {l m : List α} (h : l.Perm m) : (l.map f).sum = (m.map f).sum := by
  induction h with
  | nil => rfl
  | cons a _ ih => simp only [List.map_cons, List.sum_cons, ih]
  | swap a b l => simp only [List.map_cons, List.sum_cons]; grind
  | trans _ _ i1 i2 => exact i1.trans i2
theorem follows_one {l : List Q} {p q q' : Q} (h1 : Follows l p q) (h2 : Follows l p q') : q = q' := by
  apply Classical.byContradiction
  intro n
  have a := h1.2.2.2 q' h2.2.1 h2.2.2.1 (fun e => n e.symm)
  have b := h2.2.2.2 q h1.2.1 h1.2.2.1 n
  rw [T_swap] at b
  grind
theorem Follows.iff {l l' : List Q} (h : ∀ q, q ∈ l ↔ q ∈ l') {p q : Q} (k : Follows l p q) : Follows l' p q :=
  ⟨(h p).mp k.1, (h q).mp k.2.1, k.2.2.1, fun r hr => k.2.2.2 r ((h r).mpr hr)⟩
/-- the area hangs on the corners alone -/
theorem S_eq {l l' : List Q} (h : GC l) (h' : GC l') (h3 : 3 ≤ l.length) (h3' : 3 ≤ l'.length) (m : ∀ q, q ∈ l ↔ q ∈ l') : S l = S l' := by
  have key : ∀ {l l' : List Q}, GC l → GC l' → 3 ≤ l.length → 3 ≤ l'.length → (∀ q, q ∈ l ↔ q ∈ l') → ∀ k, k ∈ pairs l → k ∈ pairs l' := by
    intro l l' h h' h3 h3' m k hk
    obtain ⟨p, q⟩ := k
    have f := follows_of h h3 hk
    have hp : p ∈ (pairs l').map Prod.fst := by rw [pairs_fst]; exact (m p).mp f.1
    obtain ⟨⟨p', q'⟩, hq', e⟩ := List.mem_map.mp hp
    have e : p' = p := e
    subst e
    have f' := follows_of h' h3' hq'
    rw [follows_one (f.iff m) f']
    exact hq'
  have nd : ∀ {l : List Q}, GC l → 3 ≤ l.length → (pairs l).Nodup := by
    intro l h h3
    have := h.nodup h3
    rw [← pairs_fst l] at this
    exact nodup_map Prod.fst this
  exact sum_perm _ ((List.perm_ext_iff_of_nodup (nd h h3) (nd h' h3')).mpr fun k => ⟨key h h' h3 h3' m k, key h' h h3' h3 (fun q => (m q).symm) k⟩)
end LG

/-! A ring cut by a line. Plain Lean, my own. -/
namespace LG
structure Af where
  α : Rat
  β : Rat
  γ : Rat
def Af.at (f : Af) (p : Q) : Rat := f.α * p.x + f.β * p.y + f.γ
/-- where the line f = 0 meets the stretch from p (f p ≤ 0) to q (0 < f q) -/
def cutp (f : Af) (p q : Q) : Q := ⟨(p.x * f.at q - q.x * f.at p) / (f.at q - f.at p), (p.y * f.at q - q.y * f.at p) / (f.at q - f.at p)⟩
section
variable {f : Af} {p q : Q}
theorem cutp_0 (hp : f.at p ≤ 0) (hq : 0 < f.at q) : f.at (cutp f p q) = 0 := by
  have d : f.at q - f.at p ≠ 0 := by grind
  have e : f.at (cutp f p q) = f.α * ((p.x * f.at q - q.x * f.at p) / (f.at q - f.at p)) + f.β * ((p.y * f.at q - q.y * f.at p) / (f.at q - f.at p)) + f.γ := rfl
  have e1 : f.at p = f.α * p.x + f.β * p.y + f.γ := rfl
  have e2 : f.at q = f.α * q.x + f.β * q.y + f.γ := rfl
  rw [e]
  grind
/-- T is linear in what is cut -/
theorem T_cut (hp : f.at p ≤ 0) (hq : 0 < f.at q) (a b : Q) : T a b (cutp f p q) * (f.at q - f.at p) = f.at q * T a b p + (-(f.at p)) * T a b q := by
  have d : f.at q - f.at p ≠ 0 := by grind
  unfold T cutp
  grind
theorem cr_cut (hp : f.at p ≤ 0) (hq : 0 < f.at q) : cr p (cutp f p q) + cr (cutp f p q) q = cr p q := by
  have d : f.at q - f.at p ≠ 0 := by grind
  unfold cr cutp
  grind
theorem cr_cut' (hp : f.at p ≤ 0) (hq : 0 < f.at q) : cr q (cutp f p q) + cr (cutp f p q) p = cr q p := by
  have d : f.at q - f.at p ≠ 0 := by grind
  unfold cr cutp
  grind
theorem cutp_at0 (hp : f.at p = 0) (hq : 0 < f.at q) : cutp f p q = p := by
  have d : f.at q ≠ 0 := by grind
  obtain ⟨x, y⟩ := p
  unfold cutp
  rw [hp]
  have e1 : (x * f.at q - q.x * 0) / (f.at q - 0) = x := by grind
  have e2 : (y * f.at q - q.y * 0) / (f.at q - 0) = y := by grind
  simp only
  rw [e1, e2]
theorem cut_pos (hp : f.at p ≤ 0) (hq : 0 < f.at q) {a b : Q} (h : 0 < f.at q * T a b p + (-(f.at p)) * T a b q) : 0 < T a b (cutp f p q) := by
  have e := T_cut hp hq a b
  have d : 0 < f.at q - f.at p := by grind
  apply Classical.byContradiction
  intro n
  have : T a b (cutp f p q) * (f.at q - f.at p) ≤ 0 := by
    have h1 : 0 ≤ -(T a b (cutp f p q)) * (f.at q - f.at p) := Rat.mul_nonneg (by grind) (by grind)
    grind
  grind
end
theorem last_of {b0 : Q} {l : List Q} (h : GC (b0 :: l)) : (b0 :: l).Pairwise fun b c => 0 ≤ T b c (lastD b0 l) := by
  rcases lastD_split b0 l with e | ⟨m, e⟩
  · subst e
    exact List.pairwise_singleton ..
  · have e' := e
    generalize lastD b0 l = z at e ⊢
    subst e
    clear e'
    have h1 := GC.of_app (l := b0 :: m) (m := [z]) h
    have : ((b0 :: m) ++ [z]).Pairwise fun b c => 0 ≤ T b c z := by
      refine List.pairwise_append.mpr ⟨h1.2.2.2.imp fun {a b} k => by have := k z (by simp); grind, List.pairwise_singleton .., fun a ha b hb => ?_⟩
      have e : b = z := by simpa using hb
      subst e
      rw [(T_self a b).2.1]
      exact Rat.le_refl
    exact this
theorem first_of {b0 : Q} {l : List Q} (h : GC (b0 :: l)) : (b0 :: l).Pairwise fun b c => 0 ≤ T b0 b c := by
  refine List.pairwise_cons.mpr ⟨fun c hc => ?_, h.1.imp fun {b c} k => by grind⟩
  rw [(T_self b0 c).2.2]
  exact Rat.le_refl
theorem lastD_mem (a : Q) (l : List Q) : lastD a l ∈ a :: l := by
  induction l generalizing a with
  | nil => simp [lastD]
  | cons b l ih => exact List.mem_cons_of_mem _ (ih b)
/-! ### sums along a path -/
def psum (a : Q) (l : List Q) : Rat := ((path a l).map fun k => cr k.1 k.2).sum
theorem psum_app (a : Q) (l : List Q) (b : Q) (m : List Q) : psum a (l ++ b :: m) = psum a l + cr (lastD a l) b + psum b m := by
  induction l generalizing a with
  | nil =>
    show cr a b + psum b m = 0 + cr a b + psum b m
    grind
  | cons c l ih =>
    show cr a c + psum c (l ++ b :: m) = (cr a c + psum c l) + cr (lastD c l) b + psum b m
    rw [ih c]
    grind
theorem S_cons (a : Q) (l : List Q) : S (a :: l) = psum a l + cr (lastD a l) a := by
  show ((path a l ++ [(lastD a l, a)]).map fun k => cr k.1 k.2).sum = _
  rw [List.map_append, List.sum_append]
  show psum a l + (cr (lastD a l) a + 0) = _
  grind
theorem mulp {a b : Rat} (h : 0 < a) (k : 0 < b) : 0 < a * b := Rat.mul_pos h k
theorem muln {a b : Rat} (h : 0 ≤ a) (k : 0 ≤ b) : 0 ≤ a * b := Rat.mul_nonneg h k
/-! ### the cut -/
section
variable {f : Af} {a0 b0 : Q} {A B : List Q}
/-- the part beyond the line -/
theorem cut_beyond (h : GC ((a0 :: A) ++ (b0 :: B))) (h3 : 3 ≤ ((a0 :: A) ++ (b0 :: B)).length) (hA : ∀ a ∈ a0 :: A, f.at a ≤ 0) (hn : ∃ a ∈ a0 :: A, f.at a < 0) (hB : ∀ b ∈ b0 :: B, 0 < f.at b) :
    GC (cutp f (lastD a0 A) b0 :: ((b0 :: B) ++ [cutp f a0 (lastD b0 B)])) := by
  obtain ⟨gA, gB, hAB, hAA⟩ := GC.of_app h
  have la := lastD_mem a0 A
  have lb := lastD_mem b0 B
  have p0 := hA a0 List.mem_cons_self
  have p1 := hA _ la
  have q0 := hB b0 List.mem_cons_self
  have q1 := hB _ lb
  have LB := last_of gB
  have FB := first_of gB
  -- the middle, to u
  have gBu : GC ((b0 :: B) ++ [cutp f a0 (lastD b0 B)]) := by
    refine GC.app gB ⟨List.Pairwise.nil, trivial⟩ (fun a ha => List.pairwise_singleton ..) ?_
    refine (List.Pairwise.and (hAB a0 List.mem_cons_self) LB).imp fun {b c} k d hd => ?_
    have e : d = cutp f a0 (lastD b0 B) := by simpa using hd
    subst e
    refine cut_pos p0 q1 ?_
    have k1 : 0 < T b c a0 := by rw [← T_rot]; exact k.1
    have m1 := mulp q1 k1
    have m2 := muln (show 0 ≤ -(f.at a0) by grind) k.2
    grind
  refine ⟨List.pairwise_append.mpr ⟨?_, List.pairwise_singleton .., ?_⟩, gBu⟩
  · refine (List.Pairwise.and (hAB _ la) FB).imp fun {b c} k => ?_
    rw [T_rot]
    refine cut_pos p1 q0 ?_
    have k1 : 0 < T b c (lastD a0 A) := by rw [← T_rot]; exact k.1
    have k2 : 0 ≤ T b c b0 := by rw [← T_rot]; exact k.2
    have m1 := mulp q0 k1
    have m2 := muln (show 0 ≤ -(f.at (lastD a0 A)) by grind) k2
    grind
  · intro b hb c hc
    have e : c = cutp f a0 (lastD b0 B) := by simpa using hc
    subst e
    refine cut_pos p0 q1 ?_
    -- T v b a0 and T v b bL, each by v
    have d : 0 < f.at b0 - f.at (lastD a0 A) := by grind
    have e1 : T (cutp f (lastD a0 A) b0) b a0 * (f.at b0 - f.at (lastD a0 A)) = f.at b0 * T b a0 (lastD a0 A) + (-(f.at (lastD a0 A))) * T b a0 b0 := by rw [T_rot]; exact T_cut p1 q0 b a0
    have e2 : T (cutp f (lastD a0 A) b0) b (lastD b0 B) * (f.at b0 - f.at (lastD a0 A)) = f.at b0 * T b (lastD b0 B) (lastD a0 A) + (-(f.at (lastD a0 A))) * T b (lastD b0 B) b0 := by rw [T_rot]; exact T_cut p1 q0 b (lastD b0 B)
    have n1 : 0 ≤ T b a0 (lastD a0 A) := by
      rw [T_rot]
      rcases List.mem_cons.mp la with e | k
      · rw [e, (T_self a0 b).2.2]; exact Rat.le_refl
      · have := (List.pairwise_cons.mp hAA).1 _ k b hb
        grind
    have n2 : 0 ≤ T b a0 b0 := by
      rw [T_rot]
      rcases List.mem_cons.mp hb with e | k
      · rw [e, (T_self a0 b0).2.1]; exact Rat.le_refl
      · have := (List.pairwise_cons.mp (hAB a0 List.mem_cons_self)).1 _ k
        grind
    have n3 : 0 ≤ T b (lastD b0 B) (lastD a0 A) := by
      rw [← T_rot]
      rcases lastD_split b0 B with e | ⟨m, e⟩
      · have eb : b = lastD b0 B := by
          rw [e] at hb ⊢
          simpa [lastD] using hb
        rw [eb, (T_self _ _).2.1]; exact Rat.le_refl
      · by_cases eb : b = lastD b0 B
        · rw [eb, (T_self _ _).2.1]; exact Rat.le_refl
        · have h5 := hAB _ la
          have hm : b ∈ b0 :: m := by
            rcases List.mem_cons.mp hb with e1 | k
            · subst e1; simp
            · rw [e] at k
              rcases List.mem_append.mp k with k | k
              · exact List.mem_cons_of_mem _ k
              · exact absurd (by simpa using k) eb
          have h6 : ((b0 :: m) ++ [lastD b0 B]).Pairwise fun b c => 0 < T (lastD a0 A) b c := by
            have e7 : b0 :: B = (b0 :: m) ++ [lastD b0 B] := by
              show b0 :: B = b0 :: (m ++ [lastD b0 B])
              rw [← e]
            rw [← e7]
            exact h5
          have := (List.pairwise_append.mp h6).2.2 b hm (lastD b0 B) (by simp)
          grind
    have n4 : 0 ≤ T b (lastD b0 B) b0 := by
      rw [← T_rot]
      rcases List.mem_cons.mp hb with e | k
      · rw [e, (T_self b0 _).2.2]; exact Rat.le_refl
      · have := (List.pairwise_cons.mp LB).1 b k
        exact this
    -- one of the four is above 0
    have some1 : 0 < f.at (lastD b0 B) * (f.at b0 * T b a0 (lastD a0 A) + (-(f.at (lastD a0 A))) * T b a0 b0) + (-(f.at a0)) * (f.at b0 * T b (lastD b0 B) (lastD a0 A) + (-(f.at (lastD a0 A))) * T b (lastD b0 B) b0) := by
      have z1 := muln (show 0 ≤ f.at b0 by grind) n1
      have z2 := muln (show 0 ≤ -(f.at (lastD a0 A)) by grind) n2
      have z3 := muln (show 0 ≤ f.at b0 by grind) n3
      have z4 := muln (show 0 ≤ -(f.at (lastD a0 A)) by grind) n4
      have y1 := muln (show 0 ≤ f.at (lastD b0 B) by grind) z1
      have y2 := muln (show 0 ≤ f.at (lastD b0 B) by grind) z2
      have y3 := muln (show 0 ≤ -(f.at a0) by grind) z3
      have y4 := muln (show 0 ≤ -(f.at a0) by grind) z4
      cases A with
      | cons a1 A' =>
        have k : 0 < T b a0 (lastD a0 (a1 :: A')) := by
          rw [T_rot]
          exact (List.pairwise_cons.mp hAA).1 _ (lastD_mem a1 A') b hb
        have := mulp q1 (mulp q0 k)
        grind
      | nil =>
        have f0 : f.at a0 < 0 := by
          obtain ⟨a, ha, hlt⟩ := hn
          have e : a = a0 := by simpa using ha
          rw [e] at hlt
          exact hlt
        have ea : lastD a0 [] = a0 := rfl
        rw [ea] at n3 n1 z1 z2 z3 z4 y1 y2 y3 y4 ⊢
        by_cases eb : b = lastD b0 B
        · -- then it is not b0
          have k : 0 < T b a0 b0 := by
            cases B with
            | nil => simp at h3
            | cons b1 B' =>
              rw [T_rot, eb]
              exact (List.pairwise_cons.mp (hAB a0 List.mem_cons_self)).1 _ (lastD_mem b1 B')
          have := mulp q1 (mulp (show 0 < -(f.at a0) by grind) k)
          grind
        · have k : 0 < T b (lastD b0 B) a0 := by
            rcases lastD_split b0 B with e | ⟨m, e⟩
            · exact absurd (by rw [e] at hb ⊢; simpa [lastD] using hb) eb
            · have hm : b ∈ b0 :: m := by
                rcases List.mem_cons.mp hb with e1 | k
                · subst e1; simp
                · rw [e] at k
                  rcases List.mem_append.mp k with k | k
                  · exact List.mem_cons_of_mem _ k
                  · exact absurd (by simpa using k) eb
              have h6 : ((b0 :: m) ++ [lastD b0 B]).Pairwise fun b c => 0 < T a0 b c := by
                have e7 : b0 :: B = (b0 :: m) ++ [lastD b0 B] := by
                  show b0 :: B = b0 :: (m ++ [lastD b0 B])
                  rw [← e]
                rw [← e7]
                exact hAB a0 List.mem_cons_self
              rw [← T_rot]
              exact (List.pairwise_append.mp h6).2.2 b hm (lastD b0 B) (by simp)
          have := mulp (show 0 < -(f.at a0) by grind) (mulp q0 k)
          grind
    have s2 : 0 < (f.at (lastD b0 B) * T (cutp f (lastD a0 A) b0) b a0 + (-(f.at a0)) * T (cutp f (lastD a0 A) b0) b (lastD b0 B)) * (f.at b0 - f.at (lastD a0 A)) := by
      have e : (f.at (lastD b0 B) * T (cutp f (lastD a0 A) b0) b a0 + (-(f.at a0)) * T (cutp f (lastD a0 A) b0) b (lastD b0 B)) * (f.at b0 - f.at (lastD a0 A))
          = f.at (lastD b0 B) * (T (cutp f (lastD a0 A) b0) b a0 * (f.at b0 - f.at (lastD a0 A))) + (-(f.at a0)) * (T (cutp f (lastD a0 A) b0) b (lastD b0 B) * (f.at b0 - f.at (lastD a0 A))) := by grind
      rw [e, e1, e2]
      exact some1
    apply Classical.byContradiction
    intro n
    have := muln (show 0 ≤ -(f.at (lastD b0 B) * T (cutp f (lastD a0 A) b0) b a0 + (-(f.at a0)) * T (cutp f (lastD a0 A) b0) b (lastD b0 B)) by grind) (show 0 ≤ f.at b0 - f.at (lastD a0 A) by grind)
    grind
/-- the part on this side, with the cut's two ends where they are no corners already -/
theorem cut_here (h : GC ((a0 :: A) ++ (b0 :: B))) (h3 : 3 ≤ ((a0 :: A) ++ (b0 :: B)).length) (hA : ∀ a ∈ a0 :: A, f.at a ≤ 0) (hB : ∀ b ∈ b0 :: B, 0 < f.at b) :
    GC ((if f.at a0 = 0 then [] else [cutp f a0 (lastD b0 B)]) ++ ((a0 :: A) ++ (if f.at (lastD a0 A) = 0 then [] else [cutp f (lastD a0 A) b0]))) := by
  obtain ⟨gA, gB, hAB, hAA⟩ := GC.of_app h
  have la := lastD_mem a0 A
  have lb := lastD_mem b0 B
  have p0 := hA a0 List.mem_cons_self
  have p1 := hA _ la
  have q0 := hB b0 List.mem_cons_self
  have q1 := hB _ lb
  have LA := last_of gA
  have FA := first_of gA
  have gAv : GC ((a0 :: A) ++ (if f.at (lastD a0 A) = 0 then [] else [cutp f (lastD a0 A) b0])) := by
    split
    · simpa using gA
    · rename_i nz
      refine GC.app gA ⟨List.Pairwise.nil, trivial⟩ (fun a ha => List.pairwise_singleton ..) ?_
      refine (List.Pairwise.and hAA LA).imp fun {b c} k d hd => ?_
      have e : d = cutp f (lastD a0 A) b0 := by simpa using hd
      subst e
      refine cut_pos p1 q0 ?_
      have m1 := muln (show 0 ≤ f.at b0 by grind) k.2
      have m2 := mulp (show 0 < -(f.at (lastD a0 A)) by grind) (k.1 b0 List.mem_cons_self)
      grind
  split
  · simpa using gAv
  · rename_i nz0
    show GC (cutp f a0 (lastD b0 B) :: ((a0 :: A) ++ (if f.at (lastD a0 A) = 0 then [] else [cutp f (lastD a0 A) b0])))
    refine ⟨List.pairwise_append.mpr ⟨?_, ?_, ?_⟩, gAv⟩
    · refine (List.Pairwise.and hAA FA).imp fun {b c} k => ?_
      rw [T_rot]
      refine cut_pos p0 q1 ?_
      have k1 : 0 ≤ T b c a0 := by rw [← T_rot]; exact k.2
      have m1 := muln (show 0 ≤ f.at (lastD b0 B) by grind) k1
      have m2 := mulp (show 0 < -(f.at a0) by grind) (k.1 (lastD b0 B) lb)
      grind
    · split
      · exact List.Pairwise.nil
      · exact List.pairwise_singleton ..
    · intro b hb c hc
      split at hc
      · cases hc
      rename_i nz1
      have e : c = cutp f (lastD a0 A) b0 := by simpa using hc
      subst e
      refine cut_pos p1 q0 ?_
      have d : 0 < f.at (lastD b0 B) - f.at a0 := by grind
      have e1 : T (cutp f a0 (lastD b0 B)) b (lastD a0 A) * (f.at (lastD b0 B) - f.at a0) = f.at (lastD b0 B) * T b (lastD a0 A) a0 + (-(f.at a0)) * T b (lastD a0 A) (lastD b0 B) := by rw [T_rot]; exact T_cut p0 q1 b (lastD a0 A)
      have e2 : T (cutp f a0 (lastD b0 B)) b b0 * (f.at (lastD b0 B) - f.at a0) = f.at (lastD b0 B) * T b b0 a0 + (-(f.at a0)) * T b b0 (lastD b0 B) := by rw [T_rot]; exact T_cut p0 q1 b b0
      have f0 : f.at a0 < 0 := by grind
      have f1 : f.at (lastD a0 A) < 0 := by grind
      have n1 : 0 ≤ T b (lastD a0 A) a0 := by
        rw [← T_rot]
        rcases List.mem_cons.mp hb with e | k
        · rw [e, (T_self a0 _).2.2]; exact Rat.le_refl
        · have := (List.pairwise_cons.mp LA).1 b k
          exact this
      -- b ahead of the last one, or the last one
      have ahead : b ≠ lastD a0 A → ∀ c ∈ b0 :: B, 0 < T b (lastD a0 A) c := by
        intro nb c hc
        rcases lastD_split a0 A with e | ⟨m, e⟩
        · exact absurd (by rw [e] at hb ⊢; simpa [lastD] using hb) nb
        · have hm : b ∈ a0 :: m := by
            rcases List.mem_cons.mp hb with e1 | k
            · subst e1; simp
            · rw [e] at k
              rcases List.mem_append.mp k with k | k
              · exact List.mem_cons_of_mem _ k
              · exact absurd (by simpa using k) nb
          have h6 : ((a0 :: m) ++ [lastD a0 A]).Pairwise fun a b => ∀ c ∈ b0 :: B, 0 < T a b c := by
            have e7 : a0 :: A = (a0 :: m) ++ [lastD a0 A] := by
              show a0 :: A = a0 :: (m ++ [lastD a0 A])
              rw [← e]
            rw [← e7]
            exact hAA
          exact (List.pairwise_append.mp h6).2.2 b hm (lastD a0 A) (by simp) c hc
      have n2 : 0 ≤ T b (lastD a0 A) (lastD b0 B) := by
        by_cases eb : b = lastD a0 A
        · rw [eb, (T_self _ (lastD b0 B)).2.2]; exact Rat.le_refl
        · have := ahead eb _ lb
          grind
      have n3 : 0 ≤ T b b0 a0 := by
        rw [← T_rot]
        rcases List.mem_cons.mp hb with e | k
        · rw [e, (T_self a0 b0).2.2]; exact Rat.le_refl
        · have := (List.pairwise_cons.mp hAA).1 b k b0 List.mem_cons_self
          grind
      have n4 : 0 ≤ T b b0 (lastD b0 B) := by
        rcases List.mem_cons.mp lb with e | k
        · rw [e, (T_self b b0).2.1]; exact Rat.le_refl
        · have := (List.pairwise_cons.mp (hAB b hb)).1 _ k
          grind
      have some1 : 0 < f.at b0 * (f.at (lastD b0 B) * T b (lastD a0 A) a0 + (-(f.at a0)) * T b (lastD a0 A) (lastD b0 B)) + (-(f.at (lastD a0 A))) * (f.at (lastD b0 B) * T b b0 a0 + (-(f.at a0)) * T b b0 (lastD b0 B)) := by
        have y1 := muln (show 0 ≤ f.at b0 by grind) (muln (show 0 ≤ f.at (lastD b0 B) by grind) n1)
        have y2 := muln (show 0 ≤ f.at b0 by grind) (muln (show 0 ≤ -(f.at a0) by grind) n2)
        have y3 := muln (show 0 ≤ -(f.at (lastD a0 A)) by grind) (muln (show 0 ≤ f.at (lastD b0 B) by grind) n3)
        have y4 := muln (show 0 ≤ -(f.at (lastD a0 A)) by grind) (muln (show 0 ≤ -(f.at a0) by grind) n4)
        by_cases eb : b = lastD a0 A
        · cases A with
          | cons a1 A' =>
            have k : 0 < T b b0 a0 := by
              rw [← T_rot, eb]
              exact (List.pairwise_cons.mp hAA).1 _ (lastD_mem a1 A') b0 List.mem_cons_self
            have := mulp (show 0 < -(f.at (lastD a0 (a1 :: A'))) by grind) (mulp q1 k)
            grind
          | nil =>
            have e0 : b = a0 := eb
            have k : 0 < T b b0 (lastD b0 B) := by
              cases B with
              | nil => simp at h3
              | cons b1 B' =>
                rw [e0]
                exact (List.pairwise_cons.mp (hAB a0 List.mem_cons_self)).1 _ (lastD_mem b1 B')
            have := mulp (show 0 < -(f.at (lastD a0 [])) by grind) (mulp (show 0 < -(f.at a0) by grind) k)
            grind
        · have := mulp q0 (mulp (show 0 < -(f.at a0) by grind) (ahead eb _ lb))
          grind
      have s2 : 0 < (f.at b0 * T (cutp f a0 (lastD b0 B)) b (lastD a0 A) + (-(f.at (lastD a0 A))) * T (cutp f a0 (lastD b0 B)) b b0) * (f.at (lastD b0 B) - f.at a0) := by
        have e : (f.at b0 * T (cutp f a0 (lastD b0 B)) b (lastD a0 A) + (-(f.at (lastD a0 A))) * T (cutp f a0 (lastD b0 B)) b b0) * (f.at (lastD b0 B) - f.at a0)
            = f.at b0 * (T (cutp f a0 (lastD b0 B)) b (lastD a0 A) * (f.at (lastD b0 B) - f.at a0)) + (-(f.at (lastD a0 A))) * (T (cutp f a0 (lastD b0 B)) b b0 * (f.at (lastD b0 B) - f.at a0)) := by grind
        rw [e, e1, e2]
        exact some1
      apply Classical.byContradiction
      intro n
      have := muln (show 0 ≤ -(f.at b0 * T (cutp f a0 (lastD b0 B)) b (lastD a0 A) + (-(f.at (lastD a0 A))) * T (cutp f a0 (lastD b0 B)) b b0) by grind) (show 0 ≤ f.at (lastD b0 B) - f.at a0 by grind)
      grind
theorem psum_nil (a : Q) : psum a [] = 0 := rfl
theorem cr_self (a : Q) : cr a a = 0 := by unfold cr; grind
/-- both parts -/
theorem cut (h : GC ((a0 :: A) ++ (b0 :: B))) (h3 : 3 ≤ ((a0 :: A) ++ (b0 :: B)).length) (hA : ∀ a ∈ a0 :: A, f.at a ≤ 0) (hn : ∃ a ∈ a0 :: A, f.at a < 0) (hB : ∀ b ∈ b0 :: B, 0 < f.at b) :
    ∃ L1 L2 : List Q, GC L1 ∧ GC L2 ∧ 3 ≤ L1.length ∧ 3 ≤ L2.length ∧ (∀ q, q ∈ L1 ↔ q ∈ a0 :: A ∨ q = cutp f a0 (lastD b0 B) ∨ q = cutp f (lastD a0 A) b0) ∧
      (∀ q, q ∈ L2 ↔ q ∈ b0 :: B ∨ q = cutp f a0 (lastD b0 B) ∨ q = cutp f (lastD a0 A) b0) ∧ S L1 + S L2 = S ((a0 :: A) ++ (b0 :: B)) := by
  have la := lastD_mem a0 A
  have lb := lastD_mem b0 B
  have p0 := hA a0 List.mem_cons_self
  have p1 := hA _ la
  have q0 := hB b0 List.mem_cons_self
  have q1 := hB _ lb
  have ev : f.at (lastD a0 A) = 0 → cutp f (lastD a0 A) b0 = lastD a0 A := fun e => cutp_at0 e q0
  have eu : f.at a0 = 0 → cutp f a0 (lastD b0 B) = a0 := fun e => cutp_at0 e q1
  have c1 := cr_cut p1 q0
  have c2 := cr_cut' p0 q1
  have sT : S ((a0 :: A) ++ (b0 :: B)) = psum a0 A + cr (lastD a0 A) b0 + psum b0 B + cr (lastD b0 B) a0 := by
    show S (a0 :: (A ++ b0 :: B)) = _
    rw [S_cons, psum_app, lastD_app]
  have s2 : S (cutp f (lastD a0 A) b0 :: ((b0 :: B) ++ [cutp f a0 (lastD b0 B)])) = cr (cutp f (lastD a0 A) b0) b0 + psum b0 B + cr (lastD b0 B) (cutp f a0 (lastD b0 B)) + cr (cutp f a0 (lastD b0 B)) (cutp f (lastD a0 A) b0) := by
    rw [S_cons, lastD_app, psum_app]
    show cr (cutp f (lastD a0 A) b0) b0 + psum b0 B + cr (lastD b0 B) (cutp f a0 (lastD b0 B)) + 0 + cr (cutp f a0 (lastD b0 B)) (cutp f (lastD a0 A) b0) = _
    grind
  have neg : (cutp f a0 (lastD b0 B)) = (cutp f (lastD a0 A) b0) ∨ True := .inr trivial
  have sw : ∀ x y : Q, cr x y = -(cr y x) := fun x y => by unfold cr; grind
  have w1 := sw (cutp f a0 (lastD b0 B)) (cutp f (lastD a0 A) b0)
  refine ⟨_, _, cut_here h h3 hA hB, cut_beyond h h3 hA hn hB, ?_, ?_, ?_, ?_, ?_⟩
  · -- three at least
    obtain ⟨a, ha, lt⟩ := hn
    by_cases z0 : f.at a0 = 0
    · have ne0 : a ≠ a0 := fun e => by rw [e, z0] at lt; exact absurd lt (by grind)
      have haA : a ∈ A := (List.mem_cons.mp ha).resolve_left ne0
      by_cases z1 : f.at (lastD a0 A) = 0
      · have nl : a ≠ lastD a0 A := fun e => by rw [e, z1] at lt; exact absurd lt (by grind)
        rw [if_pos z0, if_pos z1]
        match A, haA, nl with
        | [x], haA, nl => exact absurd (by simpa [lastD] using haA) nl
        | x :: y :: A', _, _ => simp
      · rw [if_pos z0, if_neg z1]
        match A, haA with
        | x :: A', _ => simp
    · by_cases z1 : f.at (lastD a0 A) = 0
      · rw [if_neg z0, if_pos z1]
        have : A ≠ [] := fun e => by
          subst e
          exact z0 z1
        match A, this with
        | x :: A', _ => simp
      · rw [if_neg z0, if_neg z1]
        simp
  · simp
  · intro q
    by_cases z0 : f.at a0 = 0
    · rw [if_pos z0, eu z0]
      by_cases z1 : f.at (lastD a0 A) = 0
      · rw [if_pos z1, ev z1]
        simp only [List.nil_append, List.append_nil]
        constructor
        · intro k; exact .inl k
        · rintro (k | k | k)
          · exact k
          · subst k; simp
          · subst k; exact la
      · rw [if_neg z1]
        simp only [List.nil_append, List.mem_append, List.mem_singleton]
        constructor
        · rintro (k | k)
          · exact .inl k
          · exact .inr (.inr k)
        · rintro (k | k | k)
          · exact .inl k
          · subst k; exact .inl (by simp)
          · exact .inr k
    · rw [if_neg z0]
      by_cases z1 : f.at (lastD a0 A) = 0
      · rw [if_pos z1, ev z1]
        simp only [List.append_nil, List.mem_append, List.mem_singleton]
        constructor
        · rintro (k | k)
          · exact .inr (.inl k)
          · exact .inl k
        · rintro (k | k | k)
          · exact .inr k
          · exact .inl k
          · subst k; exact .inr la
      · rw [if_neg z1]
        simp only [List.mem_append, List.mem_singleton]
        constructor
        · rintro (k | k | k)
          · exact .inr (.inl k)
          · exact .inl k
          · exact .inr (.inr k)
        · rintro (k | k | k)
          · exact .inr (.inl k)
          · exact .inl k
          · exact .inr (.inr k)
  · intro q
    simp only [List.mem_cons, List.mem_append, List.not_mem_nil, or_false]
    constructor
    · rintro (k | (k | k) | k)
      · exact .inr (.inr k)
      · exact .inl (.inl k)
      · exact .inl (.inr k)
      · exact .inr (.inl k)
    · rintro ((k | k) | k | k)
      · exact .inr (.inl (.inl k))
      · exact .inr (.inl (.inr k))
      · exact .inr (.inr k)
      · exact .inl k
  · rw [sT, s2]
    have s1 : S ((if f.at a0 = 0 then [] else [cutp f a0 (lastD b0 B)]) ++ ((a0 :: A) ++ (if f.at (lastD a0 A) = 0 then [] else [cutp f (lastD a0 A) b0]))) = cr (cutp f a0 (lastD b0 B)) a0 + psum a0 A + cr (lastD a0 A) (cutp f (lastD a0 A) b0) + cr (cutp f (lastD a0 A) b0) (cutp f a0 (lastD b0 B)) := by
      by_cases z0 : f.at a0 = 0
      · rw [if_pos z0, eu z0]
        by_cases z1 : f.at (lastD a0 A) = 0
        · rw [if_pos z1, ev z1]
          simp only [List.nil_append, List.append_nil]
          rw [S_cons, cr_self, cr_self]
          grind
        · rw [if_neg z1]
          show S (a0 :: (A ++ [cutp f (lastD a0 A) b0])) = _
          rw [S_cons, psum_app, lastD_app, cr_self, psum_nil]
          show psum a0 A + cr (lastD a0 A) (cutp f (lastD a0 A) b0) + 0 + cr (cutp f (lastD a0 A) b0) a0 = _
          grind
      · rw [if_neg z0]
        by_cases z1 : f.at (lastD a0 A) = 0
        · rw [if_pos z1, ev z1]
          simp only [List.append_nil]
          show S (cutp f a0 (lastD b0 B) :: (a0 :: A)) = _
          rw [S_cons, cr_self]
          show cr (cutp f a0 (lastD b0 B)) a0 + psum a0 A + cr (lastD a0 A) (cutp f a0 (lastD b0 B)) = _
          grind
        · rw [if_neg z1]
          show S (cutp f a0 (lastD b0 B) :: ((a0 :: A) ++ [cutp f (lastD a0 A) b0])) = _
          rw [S_cons, lastD_app, psum_app, psum_nil]
          show cr (cutp f a0 (lastD b0 B)) a0 + psum a0 A + cr (lastD a0 A) (cutp f (lastD a0 A) b0) + 0 + cr (cutp f (lastD a0 A) b0) (cutp f a0 (lastD b0 B)) = _
          grind
    rw [s1]
    grind
end
end LG

/-! The area of what two opposite half-planes leave of a land. Plain Lean, my own. -/
namespace LG
/-! ### lands, by fractions -/
def rq (r : Row) (q : Q) : Rat := r.a * q.x + r.b * q.y - r.c
def KeptQ (R : List Row) (q : Q) : Prop := ∀ r ∈ R, rq r q ≤ 0
structure CornerQ (R : List Row) (q : Q) : Prop where
  kept : KeptQ R q
  two : ∃ r ∈ R, ∃ s ∈ R, rq r q = 0 ∧ rq s q = 0 ∧ cross r s ≠ 0
def toQ (p : Pt) : Q := ⟨p.x / p.w, p.y / p.w⟩
theorem castw {p : Pt} (h : 0 < p.w) : (0 : Rat) < (p.w : Rat) := Rat.intCast_pos.mpr h
theorem rq_toQ {p : Pt} (h : 0 < p.w) (r : Row) : rq r (toQ p) * p.w = ((rch r p : Int) : Rat) := by
  have hw := castw h
  have e : ((rch r p : Int) : Rat) = r.a * p.x + r.b * p.y - r.c * p.w := by
    unfold rch
    simp only [Rat.intCast_sub, Rat.intCast_add, Rat.intCast_mul]
  rw [e]
  unfold rq toQ
  grind
theorem rq_le {p : Pt} (h : 0 < p.w) (r : Row) : rq r (toQ p) ≤ 0 ↔ rch r p ≤ 0 := by
  have e := rq_toQ h r
  have hw := castw h
  constructor
  · intro k
    have h1 : ((rch r p : Int) : Rat) ≤ ((0 : Int) : Rat) := by
      rw [← e]
      have := muln (show 0 ≤ -(rq r (toQ p)) by grind) (show 0 ≤ (p.w : Rat) by grind)
      grind
    exact Rat.intCast_le_intCast.mp h1
  · intro k
    have h1 : ((rch r p : Int) : Rat) ≤ ((0 : Int) : Rat) := Rat.intCast_le_intCast.mpr k
    apply Classical.byContradiction
    intro n
    have := mulp (show 0 < rq r (toQ p) by grind) hw
    grind
theorem rq_0 {p : Pt} (h : 0 < p.w) (r : Row) : rq r (toQ p) = 0 ↔ rch r p = 0 := by
  have e := rq_toQ h r
  have hw := castw h
  constructor
  · intro k
    rw [k, Rat.zero_mul] at e
    have h1 : ((0 : Int) : Rat) = ((rch r p : Int) : Rat) := e
    exact (Rat.intCast_inj.mp h1).symm
  · intro k
    rw [k] at e
    have e : rq r (toQ p) * p.w = 0 := e
    grind
theorem kept_toQ {R : List Row} {p : Pt} (h : 0 < p.w) : Kept R p ↔ KeptQ R (toQ p) :=
  ⟨fun k r hr => (rq_le h r).mpr (k.le r hr), fun k => ⟨h, fun r hr => (rq_le h r).mp (k r hr)⟩⟩
theorem corner_toQ {R : List Row} {p : Pt} (h : 0 < p.w) : Corner R p ↔ CornerQ R (toQ p) := by
  constructor
  · rintro ⟨k, r, hr, s, hs, zr, zs, c⟩
    exact ⟨(kept_toQ h).mp k, r, hr, s, hs, (rq_0 h r).mpr zr, (rq_0 h s).mpr zs, c⟩
  · rintro ⟨k, r, hr, s, hs, zr, zs, c⟩
    exact ⟨(kept_toQ h).mpr k, r, hr, s, hs, (rq_0 h r).mp zr, (rq_0 h s).mp zs, c⟩
theorem rat_frac (x : Rat) : ∃ n d : Int, 0 < d ∧ x * d = n := by
  have hd : (0 : Int) < (x.den : Int) := Int.natCast_pos.mpr x.den_pos
  refine ⟨x.num, x.den, hd, ?_⟩
  have e : (x.num : Rat) / ((x.den : Int) : Rat) = x := by
    rw [← Rat.divInt_eq_div, Rat.num_divInt_den]
  have h : (0 : Rat) < ((x.den : Int) : Rat) := Rat.intCast_pos.mpr hd
  generalize ((x.den : Int) : Rat) = D at *
  rw [← e]
  grind
theorem ofQ (q : Q) : ∃ p : Pt, 0 < p.w ∧ toQ p = q := by
  obtain ⟨n1, d1, h1, e1⟩ := rat_frac q.x
  obtain ⟨n2, d2, h2, e2⟩ := rat_frac q.y
  refine ⟨⟨n1 * d2, n2 * d1, d1 * d2⟩, Int.mul_pos h1 h2, ?_⟩
  have c1 : (0 : Rat) < d1 := Rat.intCast_pos.mpr h1
  have c2 : (0 : Rat) < d2 := Rat.intCast_pos.mpr h2
  obtain ⟨x, y⟩ := q
  have nz : (d1 : Rat) * d2 ≠ 0 := by
    have := mulp c1 c2
    grind
  have x1 : ((n1 * d2 : Int) : Rat) / ((d1 * d2 : Int) : Rat) = x := by
    rw [Rat.intCast_mul, Rat.intCast_mul]
    simp only at e1
    grind
  have y1 : ((n2 * d1 : Int) : Rat) / ((d1 * d2 : Int) : Rat) = y := by
    rw [Rat.intCast_mul, Rat.intCast_mul]
    simp only at e2
    grind
  unfold toQ
  simp only
  rw [x1, y1]
/-- a whole multiple of a way -/
theorem way_frac (α β : Rat) : ∃ (f : Fn) (d : Rat), 0 < d ∧ (f.α : Rat) = d * α ∧ (f.β : Rat) = d * β := by
  obtain ⟨n1, d1, h1, e1⟩ := rat_frac α
  obtain ⟨n2, d2, h2, e2⟩ := rat_frac β
  refine ⟨⟨n1 * d2, n2 * d1⟩, d1 * d2, mulp (Rat.intCast_pos.mpr h1) (Rat.intCast_pos.mpr h2), ?_, ?_⟩
  · show ((n1 * d2 : Int) : Rat) = _
    rw [Rat.intCast_mul, ← e1]
    grind
  · show ((n2 * d1 : Int) : Rat) = _
    rw [Rat.intCast_mul, ← e2]
    grind
theorem fle_toQ {f : Fn} {p q : Pt} (hp : 0 < p.w) (hq : 0 < q.w) : f.le p q ↔ f.α * (toQ p).x + f.β * (toQ p).y ≤ f.α * (toQ q).x + f.β * (toQ q).y := by
  have wp := castw hp
  have wq := castw hq
  have ep : (f.α * (toQ p).x + f.β * (toQ p).y) * p.w = ((f.at p : Int) : Rat) := by
    unfold Fn.at toQ
    rw [Rat.intCast_add, Rat.intCast_mul, Rat.intCast_mul]
    simp only
    grind
  have eq : (f.α * (toQ q).x + f.β * (toQ q).y) * q.w = ((f.at q : Int) : Rat) := by
    unfold Fn.at toQ
    rw [Rat.intCast_add, Rat.intCast_mul, Rat.intCast_mul]
    simp only
    grind
  have key : f.le p q ↔ ((f.at p : Int) : Rat) * q.w ≤ ((f.at q : Int) : Rat) * p.w := by
    unfold Fn.le
    rw [← Rat.intCast_mul, ← Rat.intCast_mul]
    exact Rat.intCast_le_intCast.symm
  rw [key, ← ep, ← eq]
  generalize f.α * (toQ p).x + f.β * (toQ p).y = A
  generalize f.α * (toQ q).x + f.β * (toQ q).y = B
  have w2 := mulp wp wq
  constructor
  · intro h
    apply Classical.byContradiction
    intro n
    have := mulp (show 0 < A - B by grind) w2
    grind
  · intro h
    have := muln (show 0 ≤ B - A by grind) (show 0 ≤ (p.w : Rat) * q.w by grind)
    grind
section
variable {R : List Row}
/-- what holds at the corners holds in the land -/
theorem convex (hR : Held R) (hz : ∀ r ∈ R, ¬ (r.a = 0 ∧ r.b = 0)) (g : Af) (h : ∀ q, CornerQ R q → 0 ≤ g.at q) {q : Q} (k : KeptQ R q) : 0 ≤ g.at q := by
  obtain ⟨p, hp, rfl⟩ := ofQ q
  obtain ⟨f, d, hd, e1, e2⟩ := way_frac (-g.α) (-g.β)
  obtain ⟨c, kc, l⟩ := far_corner hR hz ((kept_toQ hp).mpr k) f
  have wc := kc.kept.pos
  have h1 := (fle_toQ hp wc).mp l
  have h2 := h _ ((corner_toQ wc).mp kc)
  rw [e1, e2] at h1
  unfold Af.at at h2 ⊢
  generalize (toQ p).x = px at *
  generalize (toQ p).y = py at *
  generalize (toQ c).x = cx at *
  generalize (toQ c).y = cy at *
  have h3 : d * (g.α * cx + g.β * cy) ≤ d * (g.α * px + g.β * py) := by grind
  have h4 : g.α * cx + g.β * cy ≤ g.α * px + g.β * py := by
    apply Classical.byContradiction
    intro n
    have := mulp hd (show 0 < (g.α * cx + g.β * cy) - (g.α * px + g.β * py) by grind)
    grind
  grind
theorem dualQ (hR : Held R) {q : Q} (k : KeptQ R q) {α β : Rat} (hf : ¬ (α = 0 ∧ β = 0)) (hm : ∀ z, KeptQ R z → α * z.x + β * z.y ≤ α * q.x + β * q.y) :
    ∃ r ∈ R, ∃ s ∈ R, ∃ u v m : Rat, rq r q = 0 ∧ rq s q = 0 ∧ 0 < u ∧ 0 ≤ v ∧ 0 < m ∧ u * r.a + v * s.a = m * α ∧ u * r.b + v * s.b = m * β := by
  obtain ⟨p, hp, rfl⟩ := ofQ q
  obtain ⟨f, d, hd, e1, e2⟩ := way_frac α β
  have nz : ¬ (f.α = 0 ∧ f.β = 0) := by
    rintro ⟨z1, z2⟩
    rw [z1] at e1
    rw [z2] at e2
    have y1 : 0 = d * α := e1
    have y2 : 0 = d * β := e2
    exact hf ⟨by grind, by grind⟩
  obtain ⟨r, s, u, v, m, D⟩ := dual_of hR ((kept_toQ hp).mpr k) nz (fun z kz => by
    refine (fle_toQ kz.pos hp).mpr ?_
    have h1 := hm _ ((kept_toQ kz.pos).mp kz)
    rw [e1, e2]
    generalize (toQ p).x = px at *
    generalize (toQ p).y = py at *
    generalize (toQ z).x = zx at *
    generalize (toQ z).y = zy at *
    have := muln (show 0 ≤ d by grind) (show 0 ≤ (α * px + β * py) - (α * zx + β * zy) by grind)
    grind)
  have ea : ((u * r.a + v * s.a : Int) : Rat) = ((m * f.α : Int) : Rat) := congrArg _ D.ea
  have eb : ((u * r.b + v * s.b : Int) : Rat) = ((m * f.β : Int) : Rat) := congrArg _ D.eb
  rw [Rat.intCast_add, Rat.intCast_mul, Rat.intCast_mul, Rat.intCast_mul, e1] at ea
  rw [Rat.intCast_add, Rat.intCast_mul, Rat.intCast_mul, Rat.intCast_mul, e2] at eb
  refine ⟨r, D.hr, s, D.hs, u, v, m * d, (rq_0 hp r).mpr D.zr, (rq_0 hp s).mpr D.zs, Rat.intCast_pos.mpr D.up, ?_, mulp (Rat.intCast_pos.mpr D.pos) hd, by grind, by grind⟩
  have : ((0 : Int) : Rat) ≤ (v : Rat) := Rat.intCast_le_intCast.mpr D.vn
  exact this
end
/-! ### T as an affine function -/
def tf (p q : Q) : Af := ⟨-(q.y - p.y), q.x - p.x, -(q.x - p.x) * p.y + p.x * (q.y - p.y)⟩
theorem tf_at (p q z : Q) : (tf p q).at z = T p q z := by
  unfold tf Af.at T
  grind
def rf (r : Row) : Af := ⟨r.a, r.b, -r.c⟩
theorem rf_at (r : Row) (z : Q) : (rf r).at z = rq r z := by
  unfold rf Af.at rq
  grind
theorem cross_rat (r s : Row) : ((cross r s : Int) : Rat) = r.a * s.b - r.b * s.a := by
  unfold cross
  rw [Rat.intCast_sub, Rat.intCast_mul, Rat.intCast_mul]
theorem cross_0 {r s : Row} : cross r s = 0 ↔ (r.a : Rat) * s.b - r.b * s.a = 0 := by
  rw [← cross_rat]
  constructor
  · intro h
    rw [h]
    rfl
  · intro h
    have h : ((cross r s : Int) : Rat) = ((0 : Int) : Rat) := h
    exact Rat.intCast_inj.mp h
theorem nz_rat {r : Row} (h : ¬ (r.a = 0 ∧ r.b = 0)) : ¬ ((r.a : Rat) = 0 ∧ (r.b : Rat) = 0) := by
  rintro ⟨h1, h2⟩
  have h1 : (r.a : Rat) = ((0 : Int) : Rat) := h1
  have h2 : (r.b : Rat) = ((0 : Int) : Rat) := h2
  exact h ⟨Rat.intCast_inj.mp h1, Rat.intCast_inj.mp h2⟩
end LG

/-! The two parts' areas come together to the whole's. Plain Lean, my own. -/
namespace LG
/-- the area within corners, times two; none of fewer than three -/
def Ar (l : List Q) : Rat := if 3 ≤ l.length then S l else 0
theorem three_of {α : Type} [DecidableEq α] {l : List α} {a b c : α} (ha : a ∈ l) (hb : b ∈ l) (hc : c ∈ l) (ab : a ≠ b) (ac : a ≠ c) (bc : b ≠ c) : 3 ≤ l.length := by
  match l, ha, hb, hc with
  | [], h, _, _ => cases h
  | [x], h1, h2, _ => exact absurd ((by simpa using h1 : a = x).trans (by simpa using h2 : b = x).symm) ab
  | [x, y], h1, h2, h3 =>
    have h1 : a = x ∨ a = y := by simpa using h1
    have h2 : b = x ∨ b = y := by simpa using h2
    have h3 : c = x ∨ c = y := by simpa using h3
    exfalso
    rcases h1 with h1 | h1 <;> rcases h2 with h2 | h2 <;> rcases h3 with h3 | h3 <;> first | exact ab (h1.trans h2.symm) | exact ac (h1.trans h3.symm) | exact bc (h2.trans h3.symm)
  | _ :: _ :: _ :: _, _, _, _ => simp
theorem three_in {l : List Q} (h : GC l) (h3 : 3 ≤ l.length) : ∃ a b c, a ∈ l ∧ b ∈ l ∧ c ∈ l ∧ 0 < T a b c ∧ a ≠ b ∧ a ≠ c ∧ b ≠ c := by
  have nd := h.nodup h3
  match l, h3 with
  | a :: b :: c :: l, _ =>
    have t : 0 < T a b c := (List.pairwise_cons.mp h.1).1 c (by simp)
    refine ⟨a, b, c, by simp, by simp, by simp, t, ?_, ?_, ?_⟩
    · rintro rfl; rw [(T_self a c).2.2] at t; exact absurd t (by grind)
    · rintro rfl; rw [(T_self a b).1] at t; exact absurd t (by grind)
    · rintro rfl; rw [(T_self a b).2.1] at t; exact absurd t (by grind)
theorem len_of {l l' : List Q} (h : GC l) (h3 : 3 ≤ l.length) (m : ∀ q ∈ l, q ∈ l') : 3 ≤ l'.length := by
  obtain ⟨a, b, c, ha, hb, hc, _, ab, ac, bc⟩ := three_in h h3
  exact three_of (m a ha) (m b hb) (m c hc) ab ac bc
def neg (m : Row) : Row := ⟨-m.a, -m.b, -m.c⟩
theorem rq_neg (m : Row) (q : Q) : rq (neg m) q = -(rq m q) := by
  unfold rq neg
  simp only [Rat.intCast_neg]
  grind
theorem cross_neg (r m : Row) : cross r (neg m) = -(cross r m) ∧ cross (neg m) r = -(cross m r) := by
  unfold cross neg
  constructor <;> simp only <;> grind
theorem cross_swap (r m : Row) : cross m r = -(cross r m) := by
  unfold cross
  grind
/-- all on one line -/
theorem flat_line {m : Row} (hm : ¬ (m.a = 0 ∧ m.b = 0)) {p q r : Q} (hp : rq m p = 0) (hq : rq m q = 0) (hr : rq m r = 0) : T p q r = 0 := by
  have nz := nz_rat hm
  unfold rq at hp hq hr
  unfold T
  by_cases h : (m.a : Rat) = 0
  · have h2 : (m.b : Rat) ≠ 0 := fun z => nz ⟨h, z⟩
    grind
  · grind
section
variable {R : List Row}
/-- an area that is none, where all that is kept lies on a line -/
theorem Ar_flat {l : List Q} (g : 3 ≤ l.length → GC l) (f : ∀ p ∈ l, ∀ q ∈ l, ∀ r ∈ l, T p q r = 0) : Ar l = 0 := by
  unfold Ar
  split
  · rename_i h3
    obtain ⟨a, b, c, ha, hb, hc, t, _⟩ := three_in (g h3) h3
    rw [f a ha b hb c hc] at t
    exact absurd t (by grind)
  · rfl
theorem Ar_same {l l' : List Q} (g : 3 ≤ l.length → GC l) (g' : 3 ≤ l'.length → GC l') (m : ∀ q, q ∈ l ↔ q ∈ l') : Ar l = Ar l' := by
  unfold Ar
  by_cases h3 : 3 ≤ l.length
  · have h3' := len_of (g h3) h3 (fun q hq => (m q).mp hq)
    rw [if_pos h3, if_pos h3']
    exact S_eq (g h3) (g' h3') h3 h3' m
  · have h3' : ¬ 3 ≤ l'.length := fun h => h3 (len_of (g' h) h (fun q hq => (m q).mpr hq))
    rw [if_neg h3, if_neg h3']
/-- fewer than three corners: the land lies on a line -/
theorem thin (hR : Held R) (hz : ∀ r ∈ R, ¬ (r.a = 0 ∧ r.b = 0)) {cs : List Q} (h0 : ∀ q, q ∈ cs ↔ CornerQ R q) (h3 : ¬ 3 ≤ cs.length) {p q r : Q} (kp : KeptQ R p) (kq : KeptQ R q) (kr : KeptQ R r) : T p q r = 0 := by
  have one : ∀ c, (∀ x ∈ cs, x = c) → T p q r = 0 := by
    intro c hc
    have eq : ∀ z, KeptQ R z → z = c := by
      intro z kz
      have a := convex hR hz ⟨1, 0, -c.x⟩ (fun x hx => by rw [hc x ((h0 x).mpr hx)]; unfold Af.at; simp only; grind) kz
      have b := convex hR hz ⟨-1, 0, c.x⟩ (fun x hx => by rw [hc x ((h0 x).mpr hx)]; unfold Af.at; simp only; grind) kz
      have d := convex hR hz ⟨0, 1, -c.y⟩ (fun x hx => by rw [hc x ((h0 x).mpr hx)]; unfold Af.at; simp only; grind) kz
      have e := convex hR hz ⟨0, -1, c.y⟩ (fun x hx => by rw [hc x ((h0 x).mpr hx)]; unfold Af.at; simp only; grind) kz
      unfold Af.at at a b d e
      simp only at a b d e
      obtain ⟨x, y⟩ := z
      obtain ⟨cx, cy⟩ := c
      simp only at a b d e
      rw [show x = cx by grind, show y = cy by grind]
    rw [eq p kp, eq q kq, (T_self c r).2.2]
  match cs, h3 with
  | [], _ => exact one p (fun x hx => by cases hx)
  | [c], _ => exact one c (fun x hx => by simpa using hx)
  | [c, d], _ =>
    by_cases e : c = d
    · exact one c (fun x hx => by
        have : x = c ∨ x = d := by simpa using hx
        rcases this with h | h
        · exact h
        · rw [h, e])
    · have on : ∀ z, KeptQ R z → T c d z = 0 := by
        intro z kz
        have two : ∀ x, CornerQ R x → T c d x = 0 := fun x hx => by
          have : x = c ∨ x = d := by simpa using (h0 x).mpr hx
          rcases this with h | h
          · rw [h, (T_self c d).1]
          · rw [h, (T_self c d).2.1]
        have a := convex hR hz (tf c d) (fun x hx => by rw [tf_at, two x hx]; exact Rat.le_refl) kz
        have b := convex hR hz (tf d c) (fun x hx => by
          have : T d c x = -(T c d x) := by unfold T; grind
          rw [tf_at, this, two x hx]
          grind) kz
        rw [tf_at] at a b
        have : T d c z = -(T c d z) := by unfold T; grind
        grind
      have a := on p kp
      have b := on q kq
      have f := on r kr
      obtain ⟨cx, cy⟩ := c
      obtain ⟨dx, dy⟩ := d
      unfold T at a b f ⊢
      simp only at a b f ⊢
      by_cases ex : dx - cx = 0
      · by_cases ey : dy - cy = 0
        · exact absurd (by rw [show cx = dx by grind, show cy = dy by grind]) e
        · grind
      · grind
  | a :: b :: c :: l, h => exact absurd (by simp) h
/-- corners stay where a half-plane cuts nothing off -/
theorem same_corners (hR : Held R) (hz : ∀ r ∈ R, ¬ (r.a = 0 ∧ r.b = 0)) {m : Row} (hm : ¬ (m.a = 0 ∧ m.b = 0)) (h : ∀ q, KeptQ R q → rq m q ≤ 0) (q : Q) : CornerQ (m :: R) q ↔ CornerQ R q := by
  constructor
  · rintro ⟨k, r, hr, s, hs, zr, zs, c⟩
    have kR : KeptQ R q := fun t ht => k t (List.mem_cons_of_mem _ ht)
    -- m through q, and another one
    have withm : ∀ r ∈ R, rq r q = 0 → rq m q = 0 → cross r m ≠ 0 → CornerQ R q := by
      intro r hr zr zm c
      obtain ⟨r1, h1, s1, h2, u, v, M, z1, z2, up, vn, Mp, ea, eb⟩ := dualQ hR kR (nz_rat hm) (fun z kz => by
        have := h z kz
        unfold rq at this zm
        grind)
      by_cases c1 : cross r r1 = 0
      · by_cases c2 : cross r1 s1 = 0
        · exfalso
          have n1 := nz_rat (hz r1 h1)
          have c1 := cross_0.mp c1
          have c2 := cross_0.mp c2
          have c3 : (r.a : Rat) * m.b - r.b * m.a ≠ 0 := fun z => c (cross_0.mpr z)
          apply c3
          have e1 : M * ((r.a : Rat) * m.b - r.b * m.a) = u * (r.a * r1.b - r.b * r1.a) + v * (r.a * s1.b - r.b * s1.a) := by grind
          have e2 : (r.a : Rat) * s1.b - r.b * s1.a = 0 := by
            by_cases z : (r1.a : Rat) = 0
            · have : (r1.b : Rat) ≠ 0 := fun y => n1 ⟨z, y⟩
              grind
            · grind
          rw [c1, e2] at e1
          grind
        · exact ⟨kR, r1, h1, s1, h2, z1, z2, c2⟩
      · exact ⟨kR, r, hr, r1, h1, zr, z1, c1⟩
    rcases List.mem_cons.mp hr with e | hr'
    · rcases List.mem_cons.mp hs with e2 | hs'
      · subst e
        subst e2
        exact absurd (by unfold cross; grind) c
      · subst e
        exact withm s hs' zs zr (fun z => c (by rw [cross_swap, z]; rfl))
    · rcases List.mem_cons.mp hs with e2 | hs'
      · subst e2
        exact withm r hr' zr zs c
      · exact ⟨kR, r, hr', s, hs', zr, zs, c⟩
  · rintro ⟨k, r, hr, s, hs, zr, zs, c⟩
    refine ⟨fun t ht => ?_, r, List.mem_cons_of_mem _ hr, s, List.mem_cons_of_mem _ hs, zr, zs, c⟩
    rcases List.mem_cons.mp ht with e | ht
    · subst e; exact h q k
    · exact k t ht
/-- a half-plane that cuts nothing off: its part is the whole, the other is none -/
theorem one_side (hR : Held R) (hz : ∀ r ∈ R, ¬ (r.a = 0 ∧ r.b = 0)) {m : Row} (hm : ¬ (m.a = 0 ∧ m.b = 0)) {cs c1 c2 : List Q} (h0 : ∀ q, q ∈ cs ↔ CornerQ R q) (h1 : ∀ q, q ∈ c1 ↔ CornerQ (m :: R) q)
    (h2 : ∀ q, q ∈ c2 → KeptQ R q ∧ 0 ≤ rq m q) (g0 : 3 ≤ cs.length → GC cs) (g1 : 3 ≤ c1.length → GC c1) (g2 : 3 ≤ c2.length → GC c2) (h : ∀ q ∈ cs, rq m q ≤ 0) : Ar c1 = Ar cs ∧ Ar c2 = 0 := by
  have all : ∀ q, KeptQ R q → rq m q ≤ 0 := by
    intro q k
    have := convex hR hz ⟨-m.a, -m.b, m.c⟩ (fun x hx => by
      have := h x ((h0 x).mpr hx)
      unfold rq at this
      unfold Af.at
      simp only
      grind) k
    unfold Af.at at this
    unfold rq
    simp only at this
    grind
  refine ⟨Ar_same g1 g0 (fun q => by rw [h1, h0, same_corners hR hz hm all]), Ar_flat g2 (fun p hp q hq r hr => ?_)⟩
  have on : ∀ x ∈ c2, rq m x = 0 := fun x hx => by
    have := h2 x hx
    have := all x this.1
    grind
  exact flat_line hm (on p hp) (on q hq) (on r hr)
end
end LG

/-! The two parts' areas come together to the whole's, where the line cuts the land. Plain Lean, my own. -/
namespace LG
/-! ### turning the ring so that it begins on this side and ends beyond -/
theorem last_beyond {f : Af} : ∀ l : List Q, (∃ x ∈ l, 0 < f.at x) → ∃ l1 z l2, l = l1 ++ z :: l2 ∧ 0 < f.at z ∧ ∀ y ∈ l2, f.at y ≤ 0
  | [], h => by obtain ⟨x, hx, _⟩ := h; cases hx
  | a :: l, h => by
    by_cases c : ∃ x ∈ l, 0 < f.at x
    · obtain ⟨l1, z, l2, e, p, n⟩ := last_beyond l c
      exact ⟨a :: l1, z, l2, by rw [e]; rfl, p, n⟩
    · obtain ⟨x, hx, p⟩ := h
      rcases List.mem_cons.mp hx with e | k
      · subst e
        exact ⟨[], x, l, rfl, p, fun y hy => by
          apply Classical.byContradiction
          intro n
          exact c ⟨y, hy, by grind⟩⟩
      · exact absurd ⟨x, k, p⟩ c
theorem first_beyond {f : Af} : ∀ l : List Q, (∃ x ∈ l, 0 < f.at x) → ∃ A b B, l = A ++ b :: B ∧ 0 < f.at b ∧ ∀ y ∈ A, f.at y ≤ 0
  | [], h => by obtain ⟨x, hx, _⟩ := h; cases hx
  | a :: l, h => by
    by_cases c : 0 < f.at a
    · exact ⟨[], a, l, rfl, c, fun y hy => by cases hy⟩
    · have : ∃ x ∈ l, 0 < f.at x := by
        obtain ⟨x, hx, p⟩ := h
        rcases List.mem_cons.mp hx with e | k
        · subst e; exact absurd p c
        · exact ⟨x, k, p⟩
      obtain ⟨A, b, B, e, p, n⟩ := first_beyond l this
      refine ⟨a :: A, b, B, by rw [e]; rfl, p, fun y hy => ?_⟩
      rcases List.mem_cons.mp hy with e | k
      · subst e; grind
      · exact n y k
/-- four in a ring -/
theorem quad (f : Af) (a b c d : Q) : T b c d * f.at a + T a b d * f.at c = T a c d * f.at b + T a b c * f.at d := by
  unfold T Af.at
  grind
/-- a ring that begins on this side and ends beyond goes over but once -/
theorem over_once {f : Af} {a b c z : Q} {l1 l2 l3 : List Q} (h : GC (a :: (l1 ++ b :: (l2 ++ c :: (l3 ++ [z]))))) (ha : f.at a ≤ 0) (hb : 0 < f.at b) (hc : f.at c ≤ 0) (hz : 0 < f.at z) : False := by
  have t1 : 0 < T a b c := GC.three (l1 := []) (l2 := l1) (l3 := l2) (l4 := l3 ++ [z]) h
  have t2 : 0 < T a b z := GC.three (l1 := []) (l2 := l1) (l3 := l2 ++ c :: l3) (l4 := []) (by simpa using h)
  have t3 : 0 < T a c z := GC.three (l1 := []) (l2 := l1 ++ b :: l2) (l3 := l3) (l4 := []) (by simpa using h)
  have t4 : 0 < T b c z := GC.three (l1 := a :: l1) (l2 := l2) (l3 := l3) (l4 := []) (by simpa using h)
  have e := quad f a b c z
  have m1 := muln (show 0 ≤ T b c z by grind) (show 0 ≤ -(f.at a) by grind)
  have m2 := muln (show 0 ≤ T a b z by grind) (show 0 ≤ -(f.at c) by grind)
  have m3 := mulp t3 hb
  have m4 := mulp t1 hz
  grind
theorem turned {f : Af} {l : List Q} (h : GC l) (hp : ∃ x ∈ l, 0 < f.at x) (hn : ∃ x ∈ l, f.at x < 0) :
    ∃ a0 A b0 B, GC ((a0 :: A) ++ (b0 :: B)) ∧ (∀ q, q ∈ (a0 :: A) ++ (b0 :: B) ↔ q ∈ l) ∧ ((a0 :: A) ++ (b0 :: B)).length = l.length ∧ (∀ a ∈ a0 :: A, f.at a ≤ 0) ∧ (∀ b ∈ b0 :: B, 0 < f.at b) := by
  -- begins on this side
  obtain ⟨y, t, g, m, n, fy⟩ : ∃ y t, GC (y :: t) ∧ (∀ q, q ∈ y :: t ↔ q ∈ l) ∧ (y :: t).length = l.length ∧ f.at y ≤ 0 := by
    obtain ⟨y, hy, fy⟩ := hn
    obtain ⟨m1, m2, e⟩ := List.append_of_mem hy
    rw [e] at h
    refine ⟨y, m2 ++ m1, h.rot, fun q => ?_, ?_, by grind⟩
    · rw [e]
      simp only [List.mem_cons, List.mem_append]
      constructor
      · rintro (k | k | k)
        · exact .inr (.inl k)
        · exact .inr (.inr k)
        · exact .inl k
      · rintro (k | k | k)
        · exact .inr (.inr k)
        · exact .inl k
        · exact .inr (.inl k)
    · rw [e]
      simp only [List.length_cons, List.length_append]
      omega
  -- ends beyond
  obtain ⟨a0, l', z, g, m, n, fa, fz⟩ : ∃ a0 l' z, GC (a0 :: (l' ++ [z])) ∧ (∀ q, q ∈ a0 :: (l' ++ [z]) ↔ q ∈ l) ∧ (a0 :: (l' ++ [z])).length = l.length ∧ f.at a0 ≤ 0 ∧ 0 < f.at z := by
    have : ∃ x ∈ y :: t, 0 < f.at x := by
      obtain ⟨x, hx, p⟩ := hp
      exact ⟨x, (m x).mpr hx, p⟩
    obtain ⟨l1, z, l2, e, fz, l2n⟩ := last_beyond _ this
    cases l1 with
    | nil =>
      have e1 : y = z := by injection e
      rw [e1] at fy
      exact absurd fz (by grind)
    | cons y' l1 =>
      have e1 : y = y' := by injection e
      subst e1
      have e2 : t = l1 ++ z :: l2 := by injection e
      subst e2
      cases l2 with
      | nil => exact ⟨y, l1, z, g, m, n, fy, fz⟩
      | cons c l2 =>
        have g2 : GC ((y :: (l1 ++ [z])) ++ (c :: l2)) := by simpa using g
        have g3 := g2.rot
        refine ⟨c, l2 ++ (y :: l1), z, by simpa using g3, fun q => ?_, ?_, l2n c List.mem_cons_self, fz⟩
        · rw [← m q]
          simp only [List.mem_cons, List.mem_append, List.not_mem_nil, or_false]
          constructor
          · rintro (k | (k | k | k) | k)
            · exact .inr (.inr (.inr (.inl k)))
            · exact .inr (.inr (.inr (.inr k)))
            · exact .inl k
            · exact .inr (.inl k)
            · exact .inr (.inr (.inl k))
          · rintro (k | k | k | k | k)
            · exact .inr (.inl (.inr (.inl k)))
            · exact .inr (.inl (.inr (.inr k)))
            · exact .inr (.inr k)
            · exact .inl k
            · exact .inr (.inl (.inl k))
        · rw [← n]
          simp only [List.length_cons, List.length_append, List.length_nil]
          omega
  -- and goes over once
  have : ∃ x ∈ a0 :: (l' ++ [z]), 0 < f.at x := ⟨z, by simp, fz⟩
  obtain ⟨A', b0, B, e, fb, fA⟩ := first_beyond _ this
  cases A' with
  | nil =>
    have e1 : a0 = b0 := by injection e
    rw [e1] at fa
    exact absurd fb (by grind)
  | cons a0' A =>
    have e1 : a0 = a0' := by injection e
    subst e1
    rw [e] at g m n
    refine ⟨a0, A, b0, B, g, m, n, fA, fun b hb => ?_⟩
    rcases List.mem_cons.mp hb with e3 | k
    · subst e3; exact fb
    · apply Classical.byContradiction
      intro nb
      have nb : f.at b ≤ 0 := by grind
      obtain ⟨x, w, e4⟩ := List.append_of_mem k
      subst e4
      have e5 : l' ++ [z] = A ++ b0 :: (x ++ b :: w) := by injection e
      -- the last one is z
      rcases lastD_split b w with e6 | ⟨w', e6⟩
      · subst e6
        have e7 : (l' ++ [z]).getLast? = (A ++ b0 :: (x ++ [b])).getLast? := by rw [e5]
        have e8 : A ++ b0 :: (x ++ [b]) = (A ++ b0 :: x) ++ [b] := by simp
        rw [e8, List.getLast?_concat, List.getLast?_concat] at e7
        have e9 : z = b := Option.some.inj e7
        rw [e9] at fz
        grind
      · generalize lastD b w = z' at e6
        subst e6
        have e7 : (l' ++ [z]).getLast? = (A ++ b0 :: (x ++ b :: (w' ++ [z']))).getLast? := by rw [e5]
        have e8 : A ++ b0 :: (x ++ b :: (w' ++ [z'])) = (A ++ b0 :: (x ++ b :: w')) ++ [z'] := by simp
        rw [e8, List.getLast?_concat, List.getLast?_concat] at e7
        have e9 : z = z' := Option.some.inj e7
        subst e9
        exact over_once (l1 := A) (l2 := x) (l3 := w') (by simpa using g) fa fb nb fz
/-! ### along an edge a line of the land runs -/
section
variable {R : List Row}
theorem rq_mid (r : Row) (p q : Q) : rq r ⟨(p.x + q.x) / 2, (p.y + q.y) / 2⟩ = (rq r p + rq r q) / 2 := by
  unfold rq
  grind
theorem edge_row (hR : Held R) (hz : ∀ r ∈ R, ¬ (r.a = 0 ∧ r.b = 0)) {p q : Q} (kp : KeptQ R p) (kq : KeptQ R q) (ne : q ≠ p) (h : ∀ c, CornerQ R c → 0 ≤ T p q c) : ∃ r ∈ R, rq r p = 0 ∧ rq r q = 0 := by
  have km : KeptQ R ⟨(p.x + q.x) / 2, (p.y + q.y) / 2⟩ := fun r hr => by
    rw [rq_mid]
    have a := kp r hr
    have b := kq r hr
    grind
  have left : ∀ z, KeptQ R z → 0 ≤ T p q z := fun z kz => by
    have := convex hR hz (tf p q) (fun c kc => by rw [tf_at]; exact h c kc) kz
    rw [tf_at] at this
    exact this
  have nz : ¬ ((q.y - p.y) = 0 ∧ -(q.x - p.x) = 0) := by
    rintro ⟨a, b⟩
    apply ne
    obtain ⟨px, py⟩ := p
    obtain ⟨qx, qy⟩ := q
    simp only at a b
    rw [show qx = px by grind, show qy = py by grind]
  obtain ⟨r, hr, s, hs, u, v, m, z1, z2, _⟩ := dualQ hR km nz (fun z kz => by
    have := left z kz
    unfold T at this
    simp only
    grind)
  refine ⟨r, hr, ?_⟩
  rw [rq_mid] at z1
  have a := kp r hr
  have b := kq r hr
  constructor <;> grind
/-- three in a line: two linear functions go alike -/
theorem alike (g h : Af) {u v q : Q} (t : T u v q = 0) : (h.at v - h.at u) * (g.at q - g.at u) = (h.at q - h.at u) * (g.at v - g.at u) := by
  unfold T at t
  unfold Af.at
  grind
theorem flat_af {f : Af} (nz : ¬ (f.α = 0 ∧ f.β = 0)) {u v q : Q} (hu : f.at u = 0) (hv : f.at v = 0) (hq : f.at q = 0) : T u v q = 0 := by
  unfold Af.at at hu hv hq
  unfold T
  by_cases h : f.α = 0
  · have h2 : f.β ≠ 0 := fun z => nz ⟨h, z⟩
    grind
  · grind
def xf : Af := ⟨1, 0, 0⟩
def yf : Af := ⟨0, 1, 0⟩
theorem xf_at (q : Q) : xf.at q = q.x := by unfold xf Af.at; grind
theorem yf_at (q : Q) : yf.at q = q.y := by unfold yf Af.at; grind
/-- where all that lies ahead of u and behind v on a line is cut off, and a line through q cuts it: q is u or v -/
theorem on_line {f g1 g2 r : Af} (nz : ¬ (f.α = 0 ∧ f.β = 0)) (nr : f.α * r.β - f.β * r.α ≠ 0) {u v q : Q} (fu : f.at u = 0) (fv : f.at v = 0) (fq : f.at q = 0) (u1 : g1.at u = 0) (v1 : 0 < g1.at v) (u2 : 0 < g2.at u) (v2 : g2.at v = 0) (q1 : 0 ≤ g1.at q) (q2 : 0 ≤ g2.at q)
    (ru : r.at u ≤ 0) (rv : r.at v ≤ 0) (rq : r.at q = 0) : q = u ∨ q = v := by
  have t := flat_af nz fu fv fq
  have er := alike r g1 t
  have e2 := alike g2 g1 t
  have ex := alike xf g1 t
  have ey := alike yf g1 t
  rw [xf_at, xf_at, xf_at] at ex
  rw [yf_at, yf_at, yf_at] at ey
  by_cases c1 : g1.at q = 0
  · left
    obtain ⟨ux, uy⟩ := u
    obtain ⟨qx, qy⟩ := q
    simp only at ex ey
    rw [u1, c1] at ex ey
    rw [show qx = ux by grind, show qy = uy by grind]
  by_cases c2 : g2.at q = 0
  · right
    have e3 : g1.at q = g1.at v := by
      rw [c2, v2, u1] at e2
      grind
    obtain ⟨vx, vy⟩ := v
    obtain ⟨qx, qy⟩ := q
    simp only at ex ey
    rw [u1, e3] at ex ey
    rw [show qx = vx by grind, show qy = vy by grind]
  exfalso
  have p1 : 0 < g1.at q := by grind
  have p2 : 0 < g2.at q := by grind
  -- g1 q < g1 v
  have lt : 0 < g1.at v - g1.at q := by
    have m := mulp v1 p2
    have e3 : (g1.at v - g1.at q) * g2.at u = g1.at v * g2.at q := by
      rw [v2, u1] at e2
      grind
    apply Classical.byContradiction
    intro n
    have := muln (show 0 ≤ -(g1.at v - g1.at q) by grind) (show 0 ≤ g2.at u by grind)
    grind
  have e4 : (g1.at v - g1.at q) * r.at u + g1.at q * r.at v = 0 := by
    rw [rq, u1] at er
    grind
  have m1 := muln (show 0 ≤ g1.at v - g1.at q by grind) (show 0 ≤ -(r.at u) by grind)
  have m2 := muln (show 0 ≤ g1.at q by grind) (show 0 ≤ -(r.at v) by grind)
  have e5 : (g1.at v - g1.at q) * -(r.at u) = -((g1.at v - g1.at q) * r.at u) := by grind
  have e6 : g1.at q * -(r.at v) = -(g1.at q * r.at v) := by grind
  rw [e5] at m1
  rw [e6] at m2
  have z1 : r.at u = 0 := by
    have : (g1.at v - g1.at q) * r.at u = 0 := by
      generalize (g1.at v - g1.at q) * r.at u = x at *
      generalize g1.at q * r.at v = y at *
      grind
    grind
  have z2 : r.at v = 0 := by
    have : g1.at q * r.at v = 0 := by
      generalize (g1.at v - g1.at q) * r.at u = x at *
      generalize g1.at q * r.at v = y at *
      grind
    grind
  have ne : ¬ (v.x = u.x ∧ v.y = u.y) := by
    rintro ⟨a, b⟩
    have : g1.at v = g1.at u := by unfold Af.at; rw [a, b]
    rw [this, u1] at v1
    exact absurd v1 (by grind)
  apply nr
  unfold Af.at at fu fv z1 z2
  by_cases c : v.x = u.x
  · have d : v.y ≠ u.y := fun k => ne ⟨c, k⟩
    grind
  · grind
end
end LG

/-! Two opposite half-planes: the areas of what they leave come together. Plain Lean, my own. -/
namespace LG
theorem path_at (a : Q) (l : List Q) (b : Q) (m : List Q) : (lastD a l, b) ∈ path a (l ++ b :: m) := by
  induction l generalizing a with
  | nil => exact List.mem_cons_self
  | cons c l ih => exact List.mem_cons_of_mem _ (ih c)
theorem pairs_at (a : Q) (l : List Q) (b : Q) (m : List Q) : (lastD a l, b) ∈ pairs ((a :: l) ++ (b :: m)) ∧ (lastD b m, a) ∈ pairs ((a :: l) ++ (b :: m)) := by
  constructor
  · exact List.mem_append_left _ (path_at a l b m)
  · refine List.mem_append_right _ ?_
    have e : lastD a (l ++ b :: m) = lastD b m := lastD_app a l b m
    show (lastD b m, a) ∈ [(lastD a (l ++ b :: m), a)]
    rw [e]
    exact List.mem_cons_self
theorem apart {r s m : Row} (hm : ¬ (m.a = 0 ∧ m.b = 0)) (c : cross r s ≠ 0) : cross r m ≠ 0 ∨ cross s m ≠ 0 := by
  apply Classical.byContradiction
  intro n
  have n1 : cross r m = 0 := Classical.byContradiction fun k => n (.inl k)
  have n2 : cross s m = 0 := Classical.byContradiction fun k => n (.inr k)
  apply c
  unfold cross at n1 n2 ⊢
  by_cases za : m.a = 0
  · have zb : m.b ≠ 0 := fun k => hm ⟨za, k⟩
    have e : m.b * (r.a * s.b - r.b * s.a) = 0 := by grind
    rcases Int.mul_eq_zero.mp e with k | k
    · exact absurd k zb
    · exact k
  · have e : m.a * (r.a * s.b - r.b * s.a) = 0 := by grind
    rcases Int.mul_eq_zero.mp e with k | k
    · exact absurd k za
    · exact k
section
variable {R : List Row}
theorem rq_cut {m : Row} {p q : Q} (hp : rq m p ≤ 0) (hq : 0 < rq m q) (s : Row) : rq s (cutp (rf m) p q) * (rq m q - rq m p) = rq m q * rq s p + (-(rq m p)) * rq s q := by
  have d : rq m q - rq m p ≠ 0 := by grind
  have e1 := rf_at m p
  have e2 := rf_at m q
  have e3 : rq s (cutp (rf m) p q) = s.a * ((p.x * (rf m).at q - q.x * (rf m).at p) / ((rf m).at q - (rf m).at p)) + s.b * ((p.y * (rf m).at q - q.y * (rf m).at p) / ((rf m).at q - (rf m).at p)) - s.c := rfl
  rw [e3, e1, e2]
  generalize rq m p = P at *
  generalize rq m q = M at *
  unfold rq
  grind
theorem pos_of_mul {a b : Rat} (hb : 0 < b) (h : 0 < a * b) : 0 < a := by
  apply Classical.byContradiction
  intro n
  have := muln (show 0 ≤ -a by grind) (show 0 ≤ b by grind)
  grind
theorem nonpos_of_mul {a b : Rat} (hb : 0 < b) (h : a * b ≤ 0) : a ≤ 0 := by
  apply Classical.byContradiction
  intro n
  have := mulp (show 0 < a by grind) hb
  grind
/-- where the line crosses an edge: a corner of either part -/
theorem cut_corner (hz : ∀ r ∈ R, ¬ (r.a = 0 ∧ r.b = 0)) {m : Row} {p q : Q} (kp : KeptQ R p) (kq : KeptQ R q) (hp : rq m p ≤ 0) (hq : 0 < rq m q) {r : Row} (hr : r ∈ R) (rp : rq r p = 0) (rq' : rq r q = 0) :
    rq m (cutp (rf m) p q) = 0 ∧ KeptQ R (cutp (rf m) p q) ∧ CornerQ (m :: R) (cutp (rf m) p q) ∧ CornerQ (neg m :: R) (cutp (rf m) p q) := by
  have d : 0 < rq m q - rq m p := by grind
  have k : KeptQ R (cutp (rf m) p q) := fun s hs => by
    have e := rq_cut hp hq s
    apply nonpos_of_mul d
    rw [e]
    have m1 := muln (show 0 ≤ rq m q by grind) (show 0 ≤ -(rq s p) by have := kp s hs; grind)
    have m2 := muln (show 0 ≤ -(rq m p) by grind) (show 0 ≤ -(rq s q) by have := kq s hs; grind)
    grind
  have z : rq m (cutp (rf m) p q) = 0 := by
    have := cutp_0 (f := rf m) (p := p) (q := q) (by rw [rf_at]; exact hp) (by rw [rf_at]; exact hq)
    rw [rf_at] at this
    exact this
  have zr : rq r (cutp (rf m) p q) = 0 := by
    have e := rq_cut hp hq r
    rw [rp, rq'] at e
    grind
  have c : cross r m ≠ 0 := by
    intro c
    have c := cross_0.mp c
    have nz := nz_rat (hz r hr)
    clear z zr k
    unfold rq at rp rq' d
    have nd : (m.a * q.x + m.b * q.y - m.c) - (m.a * p.x + m.b * p.y - m.c) ≠ 0 := fun k => by
      rw [k] at d
      exact absurd d (by grind)
    by_cases za : (r.a : Rat) = 0
    · have zb : (r.b : Rat) ≠ 0 := fun y => nz ⟨za, y⟩
      rw [za] at rp rq' c
      have e : (r.b : Rat) * ((m.a * q.x + m.b * q.y - m.c) - (m.a * p.x + m.b * p.y - m.c)) = 0 := by
        clear nd d hp hq
        grind
      rcases Rat.mul_eq_zero.mp e with k | k
      · exact zb k
      · exact nd k
    · have e : (r.a : Rat) * ((m.a * q.x + m.b * q.y - m.c) - (m.a * p.x + m.b * p.y - m.c)) = 0 := by
        clear nd d hp hq
        grind
      rcases Rat.mul_eq_zero.mp e with k | k
      · exact za k
      · exact nd k
  have c2 : cross r (neg m) ≠ 0 := by
    rw [(cross_neg r m).1]
    omega
  refine ⟨z, k, ⟨fun s hs => ?_, r, List.mem_cons_of_mem _ hr, m, List.mem_cons_self, zr, z, c⟩, ⟨fun s hs => ?_, r, List.mem_cons_of_mem _ hr, neg m, List.mem_cons_self, zr, by rw [rq_neg, z]; rfl, c2⟩⟩
  · rcases List.mem_cons.mp hs with e | hs
    · subst e; rw [z]; exact Rat.le_refl
    · exact k s hs
  · rcases List.mem_cons.mp hs with e | hs
    · subst e; rw [rq_neg, z]; exact Rat.le_refl
    · exact k s hs
/-- the two parts' areas come together to the whole's -/
theorem area_add (hR : Held R) (hz : ∀ r ∈ R, ¬ (r.a = 0 ∧ r.b = 0)) {m : Row} (hm : ¬ (m.a = 0 ∧ m.b = 0)) {cs c1 c2 : List Q} (h0 : ∀ q, q ∈ cs ↔ CornerQ R q) (h1 : ∀ q, q ∈ c1 ↔ CornerQ (m :: R) q)
    (h2 : ∀ q, q ∈ c2 ↔ CornerQ (neg m :: R) q) (g0 : 3 ≤ cs.length → GC cs) (g1 : 3 ≤ c1.length → GC c1) (g2 : 3 ≤ c2.length → GC c2) : Ar c1 + Ar c2 = Ar cs := by
  have k1 : ∀ q, q ∈ c1 → KeptQ R q ∧ rq m q ≤ 0 := fun q hq => ⟨fun s hs => ((h1 q).mp hq).kept s (List.mem_cons_of_mem _ hs), ((h1 q).mp hq).kept m List.mem_cons_self⟩
  have k2 : ∀ q, q ∈ c2 → KeptQ R q ∧ 0 ≤ rq m q := fun q hq => ⟨fun s hs => ((h2 q).mp hq).kept s (List.mem_cons_of_mem _ hs), by
    have := ((h2 q).mp hq).kept (neg m) List.mem_cons_self
    rw [rq_neg] at this
    grind⟩
  have hm' : ¬ ((neg m).a = 0 ∧ (neg m).b = 0) := fun k => hm ⟨by have := k.1; unfold neg at this; simp only at this; omega, by have := k.2; unfold neg at this; simp only at this; omega⟩
  by_cases h3 : 3 ≤ cs.length
  · -- on one side
    by_cases s1 : ∀ q ∈ cs, rq m q ≤ 0
    · obtain ⟨a, b⟩ := one_side hR hz hm h0 h1 k2 g0 g1 g2 s1
      rw [a, b]
      exact Rat.add_zero _
    by_cases s2 : ∀ q ∈ cs, 0 ≤ rq m q
    · obtain ⟨a, b⟩ := one_side hR hz hm' h0 h2 (fun q hq => ⟨(k1 q hq).1, by rw [rq_neg]; have := (k1 q hq).2; grind⟩) g0 g2 g1 (fun q hq => by rw [rq_neg]; have := s2 q hq; grind)
      rw [a, b]
      exact Rat.zero_add _
    have hp : ∃ x ∈ cs, 0 < (rf m).at x := by
      apply Classical.byContradiction
      intro n
      apply s1
      intro q hq
      apply Classical.byContradiction
      intro k
      exact n ⟨q, hq, by rw [rf_at]; grind⟩
    have hn : ∃ x ∈ cs, (rf m).at x < 0 := by
      apply Classical.byContradiction
      intro n
      apply s2
      intro q hq
      apply Classical.byContradiction
      intro k
      exact n ⟨q, hq, by rw [rf_at]; grind⟩
    obtain ⟨a0, A, b0, B, g, mem, len, hA, hB⟩ := turned (g0 h3) hp hn
    have hn' : ∃ a ∈ a0 :: A, (rf m).at a < 0 := by
      obtain ⟨x, hx, p⟩ := hn
      rcases List.mem_append.mp ((mem x).mpr hx) with k | k
      · exact ⟨x, k, p⟩
      · have := hB x k
        exact absurd p (by grind)
    have l3 : 3 ≤ ((a0 :: A) ++ (b0 :: B)).length := by rw [len]; exact h3
    obtain ⟨L1, L2, G1, G2, n1, n2, M1, M2, sum⟩ := cut g l3 hA hn' hB
    have gb := cut_beyond g l3 hA hn' hB
    have la := lastD_mem a0 A
    have lb := lastD_mem b0 B
    obtain ⟨pe2, pe1⟩ := pairs_at a0 A b0 B
    have f1 := follows_of g l3 pe1
    have f2 := follows_of g l3 pe2
    have fa0 := hA a0 List.mem_cons_self
    have fla := hA _ la
    have fb0 := hB b0 List.mem_cons_self
    have fz := hB _ lb
    have corner : ∀ q, q ∈ (a0 :: A) ++ (b0 :: B) ↔ CornerQ R q := fun q => (mem q).trans (h0 q)
    have ca0 := (corner a0).mp (by simp)
    have cla := (corner (lastD a0 A)).mp (List.mem_append_left _ la)
    have cb0 := (corner b0).mp (by simp)
    have cz := (corner (lastD b0 B)).mp (List.mem_append_right _ lb)
    have left : ∀ {p q : Q}, Follows ((a0 :: A) ++ (b0 :: B)) p q → ∀ c, CornerQ R c → 0 ≤ T p q c := fun {p q} F c hc => by
      by_cases e1 : c = p
      · rw [e1, (T_self p q).1]; exact Rat.le_refl
      by_cases e2 : c = q
      · rw [e2, (T_self p q).2.1]; exact Rat.le_refl
      · have := F.2.2.2 c ((corner c).mpr hc) e1 e2
        grind
    obtain ⟨r1, hr1, r1z, r1a⟩ := edge_row hR hz cz.kept ca0.kept f1.2.2.1 (left f1)
    obtain ⟨r2, hr2, r2a, r2b⟩ := edge_row hR hz cla.kept cb0.kept f2.2.2.1 (left f2)
    have fa0' := fa0
    have fla' := fla
    have fb0' := fb0
    have fz' := fz
    rw [rf_at] at fa0' fla' fb0' fz'
    obtain ⟨u0, ku, cu1, cu2⟩ := cut_corner hz ca0.kept cz.kept fa0' fz' hr1 r1a r1z
    obtain ⟨v0, kv, cv1, cv2⟩ := cut_corner hz cla.kept cb0.kept fla' fb0' hr2 r2a r2b
    -- how u and v lie to the two edges
    have du : 0 < (rf m).at (lastD b0 B) - (rf m).at a0 := by grind
    have dv : 0 < (rf m).at b0 - (rf m).at (lastD a0 A) := by grind
    have hgb := List.pairwise_append.mp gb.1
    have u1 : T (lastD b0 B) a0 (cutp (rf m) a0 (lastD b0 B)) = 0 := by
      have e := T_cut fa0 fz (lastD b0 B) a0
      rw [(T_self _ a0).1, (T_self (lastD b0 B) a0).2.1] at e
      grind
    have v2 : T (lastD a0 A) b0 (cutp (rf m) (lastD a0 A) b0) = 0 := by
      have e := T_cut fla fb0 (lastD a0 A) b0
      rw [(T_self _ b0).1, (T_self (lastD a0 A) b0).2.1] at e
      grind
    have v1 : 0 < T (lastD b0 B) a0 (cutp (rf m) (lastD a0 A) b0) := by
      have t := hgb.2.2 _ lb (cutp (rf m) a0 (lastD b0 B)) (by simp)
      have e := T_cut fa0 fz (cutp (rf m) (lastD a0 A) b0) (lastD b0 B)
      rw [(T_self _ (lastD b0 B)).2.1] at e
      have t2 := mulp t du
      rw [e] at t2
      rw [← T_rot]
      apply pos_of_mul fz
      grind
    have u2 : 0 < T (lastD a0 A) b0 (cutp (rf m) a0 (lastD b0 B)) := by
      have t := hgb.2.2 b0 List.mem_cons_self (cutp (rf m) a0 (lastD b0 B)) (by simp)
      rw [T_rot] at t
      have e := T_cut fla fb0 b0 (cutp (rf m) a0 (lastD b0 B))
      rw [(T_self b0 _).1] at e
      have t2 := mulp t dv
      rw [e] at t2
      rw [T_rot]
      apply pos_of_mul fb0
      grind
    have leftk : ∀ {p q : Q}, Follows ((a0 :: A) ++ (b0 :: B)) p q → ∀ c, KeptQ R c → 0 ≤ (tf p q).at c := fun {p q} F c hc =>
      convex hR hz (tf p q) (fun c kc => by rw [tf_at]; exact left F c kc) hc
    have nzf : ¬ ((rf m).α = 0 ∧ (rf m).β = 0) := nz_rat hm
    have key : ∀ q, KeptQ R q → rq m q = 0 → ∀ r ∈ R, rq r q = 0 → cross r m ≠ 0 → q = cutp (rf m) a0 (lastD b0 B) ∨ q = cutp (rf m) (lastD a0 A) b0 := by
      intro q kq zq r hr zr c
      refine on_line (f := rf m) (g1 := tf (lastD b0 B) a0) (g2 := tf (lastD a0 A) b0) (r := rf r) nzf ?_ ?_ ?_ ?_ ?_ ?_ ?_ ?_ (leftk f1 q kq) (leftk f2 q kq) ?_ ?_ ?_
      · intro k
        apply c
        refine cross_0.mpr ?_
        have k : (m.a : Rat) * r.b - m.b * r.a = 0 := k
        grind
      · rw [rf_at]; exact u0
      · rw [rf_at]; exact v0
      · rw [rf_at]; exact zq
      · rw [tf_at]; exact u1
      · rw [tf_at]; exact v1
      · rw [tf_at]; exact u2
      · rw [tf_at]; exact v2
      · rw [rf_at]; exact ku r hr
      · rw [rf_at]; exact kv r hr
      · rw [rf_at]; exact zr
    have key2 : ∀ q, CornerQ R q → rq m q = 0 → q = cutp (rf m) a0 (lastD b0 B) ∨ q = cutp (rf m) (lastD a0 A) b0 := by
      rintro q ⟨k, r, hr, s, hs, zr, zs, c⟩ zq
      rcases apart hm c with d | d
      · exact key q k zq r hr zr d
      · exact key q k zq s hs zs d
    have E1 : Ar c1 = Ar L1 := by
      refine Ar_same g1 (fun _ => G1) fun q => ?_
      rw [h1, M1]
      constructor
      · rintro ⟨k, r, hr, s, hs, zr, zs, c⟩
        have kR : KeptQ R q := fun t ht => k t (List.mem_cons_of_mem _ ht)
        have km := k m List.mem_cons_self
        rcases List.mem_cons.mp hr with e | hr'
        · rcases List.mem_cons.mp hs with e2 | hs'
          · subst e
            subst e2
            exact absurd (by unfold cross; grind) c
          · subst e
            exact .inr (key q kR zr s hs' zs (fun z => c (by rw [cross_swap, z]; rfl)))
        · rcases List.mem_cons.mp hs with e2 | hs'
          · subst e2
            exact .inr (key q kR zs r hr' zr c)
          · left
            rcases List.mem_append.mp ((corner q).mpr ⟨kR, r, hr', s, hs', zr, zs, c⟩) with k | k
            · exact k
            · have := hB q k
              rw [rf_at] at this
              exact absurd km (by grind)
      · rintro (k | k | k)
        · obtain ⟨kk, r, hr, s, hs, zr, zs, c⟩ := (corner q).mp (List.mem_append_left _ k)
          refine ⟨fun t ht => ?_, r, List.mem_cons_of_mem _ hr, s, List.mem_cons_of_mem _ hs, zr, zs, c⟩
          rcases List.mem_cons.mp ht with e | ht
          · subst e
            have := hA q k
            rw [rf_at] at this
            exact this
          · exact kk t ht
        · rw [k]; exact cu1
        · rw [k]; exact cv1
    have E2 : Ar c2 = Ar L2 := by
      refine Ar_same g2 (fun _ => G2) fun q => ?_
      rw [h2, M2]
      constructor
      · rintro ⟨k, r, hr, s, hs, zr, zs, c⟩
        have kR : KeptQ R q := fun t ht => k t (List.mem_cons_of_mem _ ht)
        have km := k (neg m) List.mem_cons_self
        rw [rq_neg] at km
        rcases List.mem_cons.mp hr with e | hr'
        · rcases List.mem_cons.mp hs with e2 | hs'
          · subst e
            subst e2
            exact absurd (by unfold cross; grind) c
          · subst e
            rw [rq_neg] at zr
            exact .inr (key q kR (by grind) s hs' zs (fun z => c (by rw [(cross_neg s m).2, cross_swap, z]; rfl)))
        · rcases List.mem_cons.mp hs with e2 | hs'
          · subst e2
            rw [rq_neg] at zs
            exact .inr (key q kR (by grind) r hr' zr (fun z => c (by rw [(cross_neg r m).1, z]; rfl)))
          · have cq : CornerQ R q := ⟨kR, r, hr', s, hs', zr, zs, c⟩
            rcases List.mem_append.mp ((corner q).mpr cq) with k | k
            · have := hA q k
              rw [rf_at] at this
              exact .inr (key2 q cq (by grind))
            · exact .inl k
      · rintro (k | k | k)
        · obtain ⟨kk, r, hr, s, hs, zr, zs, c⟩ := (corner q).mp (List.mem_append_right _ k)
          refine ⟨fun t ht => ?_, r, List.mem_cons_of_mem _ hr, s, List.mem_cons_of_mem _ hs, zr, zs, c⟩
          rcases List.mem_cons.mp ht with e | ht
          · subst e
            have := hB q k
            rw [rf_at] at this
            rw [rq_neg]
            grind
          · exact kk t ht
        · rw [k]; exact cu2
        · rw [k]; exact cv2
    have E0 : Ar cs = Ar ((a0 :: A) ++ (b0 :: B)) := Ar_same g0 (fun _ => g) fun q => (mem q).symm
    rw [E1, E2, E0]
    unfold Ar
    rw [if_pos n1, if_pos n2, if_pos l3]
    exact sum
  · -- all on one line
    have a1 : Ar c1 = 0 := Ar_flat g1 fun p hp q hq r hr => thin hR hz h0 h3 (k1 p hp).1 (k1 q hq).1 (k1 r hr).1
    have a2 : Ar c2 = 0 := Ar_flat g2 fun p hp q hq r hr => thin hR hz h0 h3 (k2 p hp).1 (k2 q hq).1 (k2 r hr).1
    have a0 : Ar cs = 0 := by
      unfold Ar
      rw [if_neg h3]
    rw [a1, a2, a0]
    exact Rat.add_zero 0
end
end LG

/-! What is told of a land: its corners in their order; its area. Plain Lean, my own. -/
namespace LG
/-! ### lowest terms -/
def LowP (p : Pt) : Prop := 0 < p.w ∧ Nat.gcd p.x.natAbs (Nat.gcd p.y.natAbs p.w.natAbs) = 1
theorem low_eq {p q : Pt} (hp : LowP p) (hq : LowP q) (s : Sim p q) : p = q := by
  obtain ⟨px, py, pw⟩ := p
  obtain ⟨qx, qy, qw⟩ := q
  obtain ⟨p0, p1⟩ := hp
  obtain ⟨q0, q1⟩ := hq
  have hx := s.x
  have hy := s.y
  simp only at p0 p1 q0 q1 hx hy
  have e1 : Nat.gcd (px * qw).natAbs (Nat.gcd (py * qw).natAbs (pw * qw).natAbs) = qw.natAbs := by
    rw [Int.natAbs_mul, Int.natAbs_mul, Int.natAbs_mul, Nat.gcd_mul_right, Nat.gcd_mul_right, p1, Nat.one_mul]
  have e2 : Nat.gcd (qx * pw).natAbs (Nat.gcd (qy * pw).natAbs (qw * pw).natAbs) = pw.natAbs := by
    rw [Int.natAbs_mul, Int.natAbs_mul, Int.natAbs_mul, Nat.gcd_mul_right, Nat.gcd_mul_right, q1, Nat.one_mul]
  have e3 : pw * qw = qw * pw := Int.mul_comm pw qw
  rw [hx, hy, e3] at e1
  have e4 : pw = qw := by
    have := e2.symm.trans e1
    omega
  subst e4
  rw [Int.eq_of_mul_eq_mul_right (show pw ≠ 0 by omega) hx, Int.eq_of_mul_eq_mul_right (show pw ≠ 0 by omega) hy]
theorem sim_toQ {p q : Pt} (hp : 0 < p.w) (hq : 0 < q.w) (s : Sim p q) : toQ p = toQ q := by
  have wp := castw hp
  have wq := castw hq
  have hx : ((p.x * q.w : Int) : Rat) = ((q.x * p.w : Int) : Rat) := congrArg _ s.x
  have hy : ((p.y * q.w : Int) : Rat) = ((q.y * p.w : Int) : Rat) := congrArg _ s.y
  rw [Rat.intCast_mul, Rat.intCast_mul] at hx hy
  unfold toQ
  have e1 : (p.x : Rat) / p.w = q.x / q.w := by grind
  have e2 : (p.y : Rat) / p.w = q.y / q.w := by grind
  rw [e1, e2]
theorem toQ_sim {p q : Pt} (hp : 0 < p.w) (hq : 0 < q.w) (e : toQ p = toQ q) : Sim p q := by
  have wp := castw hp
  have wq := castw hq
  have hx : (p.x : Rat) / p.w = q.x / q.w := congrArg Q.x e
  have hy : (p.y : Rat) / p.w = q.y / q.w := congrArg Q.y e
  have h1 : (p.x : Rat) * q.w = q.x * p.w := by grind
  have h2 : (p.y : Rat) * q.w = q.y * p.w := by grind
  rw [← Rat.intCast_mul, ← Rat.intCast_mul] at h1 h2
  exact ⟨Rat.intCast_inj.mp h1, Rat.intCast_inj.mp h2⟩
theorem low_toQ {p q : Pt} (hp : LowP p) (hq : LowP q) (e : toQ p = toQ q) : p = q := low_eq hp hq (toQ_sim hp.1 hq.1 e)
theorem tri_toQ {p q r : Pt} (hp : 0 < p.w) (hq : 0 < q.w) (hr : 0 < r.w) : T (toQ p) (toQ q) (toQ r) * (p.w * q.w * r.w) = ((tri p q r : Int) : Rat) := by
  have wp := castw hp
  have wq := castw hq
  have wr := castw hr
  have e : ((tri p q r : Int) : Rat) = p.x * (q.y * r.w - r.y * q.w) - p.y * (q.x * r.w - r.x * q.w) + p.w * (q.x * r.y - r.x * q.y) := by
    unfold tri
    simp only [Rat.intCast_sub, Rat.intCast_add, Rat.intCast_mul]
  rw [e]
  unfold T toQ
  simp only
  grind
theorem tri_pos {p q r : Pt} (hp : 0 < p.w) (hq : 0 < q.w) (hr : 0 < r.w) : 0 < T (toQ p) (toQ q) (toQ r) ↔ 0 < tri p q r := by
  have e := tri_toQ hp hq hr
  have w : 0 < (p.w : Rat) * q.w * r.w := mulp (mulp (castw hp) (castw hq)) (castw hr)
  constructor
  · intro h
    have := mulp h w
    rw [e] at this
    exact Rat.intCast_pos.mp this
  · intro h
    have := Rat.intCast_pos.mpr h
    rw [← e] at this
    exact pos_of_mul w this
/-! ### a ring is convex: any three in their order turn to the left -/
theorem around (a b c d e : Q) : T a b d * T a e c = T a b c * T a e d + T a c d * T a e b := by
  unfold T
  grind
theorem gc_of : ∀ {l : List Q}, (∀ i j k : Nat, ∀ (hi : i < j) (hj : j < k) (hk : k < l.length), 0 < T (l[i]'(by omega)) (l[j]'(by omega)) (l[k]'hk)) → GC l
  | [], _ => trivial
  | a :: l, h => by
    refine ⟨List.pairwise_iff_getElem.mpr fun i j hi hj lt => ?_, gc_of fun i j k hi hj hk => ?_⟩
    · have := h 0 (i + 1) (j + 1) (by omega) (by omega) (by simp only [List.length_cons]; omega)
      exact this
    · have := h (i + 1) (j + 1) (k + 1) (by omega) (by omega) (by simp only [List.length_cons]; omega)
      exact this
def at0 (l : List Pt) (k : Nat) : Pt := l.getD k ⟨0, 0, 1⟩
theorem at0_get {l : List Pt} {k : Nat} (h : k < l.length) : at0 l k = l[k] := by
  unfold at0
  rw [List.getD_eq_getElem?_getD, List.getElem?_eq_getElem h]
  rfl
theorem ring_three {n : Nat} {c : Nat → Pt} (h : Ring n c) {i j k : Nat} (hi : i < j) (hj : j < k) (hk : k < n) : 0 < T (toQ (c i)) (toQ (c j)) (toQ (c k)) := by
  have pos := h.pos
  have edge : ∀ {j m : Nat}, j + 1 < n → m < n → m ≠ j → m ≠ j + 1 → 0 < T (toQ (c j)) (toQ (c (j + 1))) (toQ (c m)) := by
    intro j m hj hm n1 n2
    have e : prev n (j + 1) = j := by
      unfold prev
      rw [if_neg (by omega)]
      omega
    have := h.left (j + 1) m hj hm (by rw [e]; exact n1) n2
    rw [e] at this
    exact (tri_pos (pos j (by omega)) (pos (j + 1) hj) (pos m hm)).mpr this
  obtain ⟨m, rfl⟩ : ∃ m, k = j + 1 + m := ⟨k - (j + 1), by omega⟩
  clear hj
  induction m with
  | zero =>
    have := edge (j := j) (m := i) hk (by omega) (by omega) (by omega)
    rw [T_rot]
    exact this
  | succ m ih =>
    have ih := ih (by omega)
    have s := edge (j := j + 1 + m) (m := i) hk (by omega) (by omega) (by omega)
    rw [← T_rot] at s
    have k1 := edge (j := i) (m := j + 1 + m) (by omega) (by omega) (by omega) (by omega)
    have k2 := edge (j := i) (m := j + 1 + (m + 1)) (by omega) hk (by omega) (by omega)
    have k3 : 0 ≤ T (toQ (c i)) (toQ (c (i + 1))) (toQ (c j)) := by
      by_cases e : j = i + 1
      · rw [e, (T_self _ _).2.1]
        exact Rat.le_refl
      · have := edge (j := i) (m := j) (by omega) (by omega) (by omega) e
        grind
    have id := around (toQ (c i)) (toQ (c j)) (toQ (c (j + 1 + m))) (toQ (c (j + 1 + (m + 1)))) (toQ (c (i + 1)))
    have m1 := mulp ih k2
    have m2 := muln (show 0 ≤ T (toQ (c i)) (toQ (c (j + 1 + m))) (toQ (c (j + 1 + (m + 1)))) by
      have e : j + 1 + m + 1 = j + 1 + (m + 1) := by omega
      rw [e] at s
      grind) k3
    apply pos_of_mul k1
    rw [id]
    grind
theorem ring_gc {l : List Pt} (h : Ring l.length (at0 l)) : GC (l.map toQ) := by
  refine gc_of fun i j k hi hj hk => ?_
  rw [List.length_map] at hk
  have := ring_three h hi hj hk
  rw [at0_get (show i < l.length by omega), at0_get (show j < l.length by omega), at0_get hk] at this
  rw [List.getElem_map, List.getElem_map, List.getElem_map]
  exact this
/-! ### the corners as they are told -/
def edgesR (n : Int) : List Row := [⟨-1, 0, 0⟩, ⟨0, -1, 0⟩, ⟨1, 0, n⟩, ⟨0, 1, n⟩]
def rowsOf (n : Int) (fs : List Row) : List Row := fs ++ edgesR n
structure Told (R : List Row) (qs : List Pt) : Prop where
  low : ∀ q ∈ qs, LowP q
  corner : ∀ q ∈ qs, Corner R q
  all : ∀ q, Corner R q → ∃ c ∈ qs, Sim q c
  nodup : qs.Nodup
  first : ∀ a t, qs = a :: t → ∀ q ∈ t, lower a q
  ring : 3 ≤ qs.length → Ring qs.length (at0 qs)
section
variable {R : List Row} {qs qs' : List Pt}
theorem Told.mem (h : Told R qs) (h' : Told R qs') {q : Pt} (k : q ∈ qs) : q ∈ qs' := by
  obtain ⟨c, hc, s⟩ := h'.all q (h.corner q k)
  rw [low_eq (h.low q k) (h'.low c hc) s]
  exact hc
theorem Told.perm (h : Told R qs) (h' : Told R qs') : qs.Perm qs' := (List.perm_ext_iff_of_nodup h.nodup h'.nodup).mpr fun q => ⟨h.mem h', h'.mem h⟩
theorem Told.gc (h : Told R qs) (h3 : 3 ≤ qs.length) : GC (qs.map toQ) := ring_gc (h.ring h3)
theorem lower_asymm {p q : Pt} (h : lower p q) (k : lower q p) : False := by
  unfold lower at h k
  by_cases e : p.y * q.w ≠ q.y * p.w
  · rw [if_pos e] at h
    rw [if_pos (Ne.symm e)] at k
    omega
  · rw [if_neg e] at h
    have e2 : ¬ q.y * p.w ≠ p.y * q.w := fun n => e (Ne.symm n)
    rw [if_neg e2] at k
    omega
theorem path_split {a : Q} {l l1 l2 : List Q} {p q : Q} (e : a :: l = l1 ++ p :: q :: l2) : (p, q) ∈ path a l := by
  induction l1 generalizing a l with
  | nil =>
    have e1 : a = p := by injection e
    have e2 : l = q :: l2 := by injection e
    subst e1
    subst e2
    exact List.mem_cons_self
  | cons b l1 ih =>
    have e2 : l = l1 ++ p :: q :: l2 := by injection e
    cases l with
    | nil =>
      have := congrArg List.length e2
      simp at this
    | cons c l => exact List.mem_cons_of_mem _ (ih e2)
/-- rings of the same corners that begin alike are alike -/
theorem gc_same {l l' : List Q} (g : GC l) (g' : GC l') (n3 : 3 ≤ l.length) (n3' : 3 ≤ l'.length) (len : l.length = l'.length) (m : ∀ q, q ∈ l ↔ q ∈ l') (hd : l.head? = l'.head?) : l = l' := by
  have key : ∀ k : Nat, k ≤ l.length → l.take k = l'.take k := by
    intro k
    induction k with
    | zero => intro _; simp
    | succ k ih =>
      intro hk
      have ih := ih (by omega)
      rw [List.take_succ, List.take_succ, ih]
      congr 2
      cases k with
      | zero =>
        rw [← List.head?_eq_getElem?, ← List.head?_eq_getElem?]
        exact hd
      | succ k =>
        have h1 : k + 1 < l.length := hk
        have h2 : k + 1 < l'.length := by omega
        rw [List.getElem?_eq_getElem h1, List.getElem?_eq_getElem h2]
        congr 1
        have eq : l[k] = l'[k] := by
          have t : (l.take (k + 1))[k]? = (l'.take (k + 1))[k]? := by rw [ih]
          rw [List.getElem?_take_of_lt (by omega), List.getElem?_take_of_lt (by omega), List.getElem?_eq_getElem (by omega), List.getElem?_eq_getElem (by omega)] at t
          exact Option.some.inj t
        have pr : ∀ {x : List Q} (hx : k + 1 < x.length), (x[k]'(by omega), x[k + 1]'hx) ∈ pairs x := by
          intro x hx
          have e : x = x.take k ++ x[k]'(by omega) :: x[k + 1]'hx :: x.drop (k + 2) := by
            rw [← List.drop_eq_getElem_cons hx, ← List.drop_eq_getElem_cons (show k < x.length by omega), List.take_append_drop]
          cases x with
          | nil => simp at hx
          | cons a t => exact List.mem_append_left _ (path_split e)
        have f := follows_of g n3 (pr h1)
        have f' := follows_of g' n3' (pr h2)
        rw [← eq] at f'
        exact follows_one (f.iff m) f'
  have := key l.length (Nat.le_refl _)
  rw [List.take_length, len, List.take_length] at this
  exact this
theorem map_inj {l l' : List Pt} (h : ∀ q ∈ l, LowP q) (h' : ∀ q ∈ l', LowP q) (e : l.map toQ = l'.map toQ) : l = l' := by
  induction l generalizing l' with
  | nil =>
    cases l' with
    | nil => rfl
    | cons a l' => cases e
  | cons a l ih =>
    cases l' with
    | nil => cases e
    | cons b l' =>
      have e1 : toQ a = toQ b := by injection e
      have e2 : l.map toQ = l'.map toQ := by injection e
      rw [low_toQ (h a List.mem_cons_self) (h' b List.mem_cons_self) e1, ih (fun q hq => h q (List.mem_cons_of_mem _ hq)) (fun q hq => h' q (List.mem_cons_of_mem _ hq)) e2]
/-- the corners are told one way only -/
theorem Told.unique (h : Told R qs) (h' : Told R qs') : qs = qs' := by
  have pm := h.perm h'
  have len := pm.length_eq
  cases qs with
  | nil =>
    cases qs' with
    | nil => rfl
    | cons a t => simp at len
  | cons a t =>
    cases qs' with
    | nil => simp at len
    | cons b t' =>
      have ab : a = b := by
        apply Classical.byContradiction
        intro n
        have h1 : b ∈ t := (List.mem_cons.mp (h'.mem h (q := b) List.mem_cons_self)).resolve_left (fun e => n e.symm)
        have h2 : a ∈ t' := (List.mem_cons.mp (h.mem h' (q := a) List.mem_cons_self)).resolve_left n
        exact lower_asymm (h.first a t rfl b h1) (h'.first b t' rfl a h2)
      subst ab
      by_cases n3 : 3 ≤ (a :: t).length
      · refine map_inj h.low h'.low (gc_same (h.gc n3) (h'.gc (by omega)) (by rw [List.length_map]; exact n3) (by rw [List.length_map]; omega) (by rw [List.length_map, List.length_map, len]) (fun q => ?_) rfl)
        constructor
        · intro k
          obtain ⟨p, hp, e⟩ := List.mem_map.mp k
          exact List.mem_map.mpr ⟨p, h.mem h' hp, e⟩
        · intro k
          obtain ⟨p, hp, e⟩ := List.mem_map.mp k
          exact List.mem_map.mpr ⟨p, h'.mem h hp, e⟩
      · match t, t', pm, len, n3 with
        | [], [], _, _, _ => rfl
        | [x], [y], pm, _, _ =>
          have := (List.perm_cons a).mp pm
          have : x = y := by simpa using this
          rw [this]
        | _ :: _ :: _, _, _, _, n3 => exact absurd (by simp) n3
theorem Told.mapQ (h : Told R qs) (q : Q) : q ∈ qs.map toQ ↔ CornerQ R q := by
  constructor
  · intro k
    obtain ⟨p, hp, rfl⟩ := List.mem_map.mp k
    exact (corner_toQ (h.low p hp).1).mp (h.corner p hp)
  · intro k
    obtain ⟨p, hp, rfl⟩ := ofQ q
    obtain ⟨c, hc, s⟩ := h.all p ((corner_toQ hp).mpr k)
    rw [sim_toQ hp (h.low c hc).1 s]
    exact List.mem_map_of_mem hc
end
/-! ### the area -/
def fan (a : Q) : Q → List Q → Rat
  | _, [] => 0
  | b, c :: l => T a b c + fan a c l
theorem fan_eq (a b : Q) (l : List Q) : cr a b + psum b l + cr (lastD b l) a = fan a b l := by
  induction l generalizing b with
  | nil =>
    show cr a b + 0 + cr b a = 0
    unfold cr
    grind
  | cons c l ih =>
    have e := ih c
    show cr a b + (cr b c + psum c l) + cr (lastD c l) a = T a b c + fan a c l
    rw [← e]
    unfold cr T
    grind
theorem fan_pos {a : Q} : ∀ {b : Q} {l : List Q}, (b :: l).Pairwise (fun b c => 0 < T a b c) → 0 ≤ fan a b l
  | _, [], _ => Rat.le_refl
  | b, c :: l, h => by
    have h1 := List.pairwise_cons.mp h
    have h2 := h1.1 c List.mem_cons_self
    have h3 := fan_pos h1.2
    show 0 ≤ T a b c + fan a c l
    grind
theorem S_nonneg {l : List Q} (h : GC l) (h3 : 3 ≤ l.length) : 0 ≤ S l := by
  match l, h3 with
  | a :: b :: l, _ =>
    have e : S (a :: b :: l) = fan a b l := by
      rw [S_cons, ← fan_eq]
      show cr a b + psum b l + cr (lastD b l) a = _
      rfl
    rw [e]
    exact fan_pos h.1
theorem Ar_nonneg {l : List Q} (h : 3 ≤ l.length → GC l) : 0 ≤ Ar l := by
  unfold Ar
  split
  · rename_i h3
    exact S_nonneg (h h3) h3
  · exact Rat.le_refl
theorem Told.gc' {R : List Row} {qs : List Pt} (h : Told R qs) (h3 : 3 ≤ (qs.map toQ).length) : GC (qs.map toQ) := h.gc (by rw [List.length_map] at h3; exact h3)
theorem held_rows (n : Int) (fs : List Row) : Held (rowsOf n fs) :=
  held_box (n := n) (List.mem_append_right _ (by simp [edgesR])) (List.mem_append_right _ (by simp [edgesR])) (List.mem_append_right _ (by simp [edgesR])) (List.mem_append_right _ (by simp [edgesR]))
theorem edges_nz {n : Int} : ∀ r ∈ edgesR n, ¬ (r.a = 0 ∧ r.b = 0) := by
  intro r hr
  simp only [edgesR, List.mem_cons, List.not_mem_nil, or_false] at hr
  rcases hr with e | e | e | e <;> subst e <;> simp only <;> omega
theorem rows_nz {n : Int} {fs : List Row} (h : ∀ r ∈ fs, ¬ (r.a = 0 ∧ r.b = 0)) : ∀ r ∈ rowsOf n fs, ¬ (r.a = 0 ∧ r.b = 0) := by
  intro r hr
  rcases List.mem_append.mp hr with k | k
  · exact h r k
  · exact edges_nz r k
theorem kept_mem {R R' : List Row} (m : ∀ r, r ∈ R ↔ r ∈ R') {q : Q} : KeptQ R q ↔ KeptQ R' q := ⟨fun k r hr => k r ((m r).mpr hr), fun k r hr => k r ((m r).mp hr)⟩
theorem corner_mem {R R' : List Row} (m : ∀ r, r ∈ R ↔ r ∈ R') {q : Q} : CornerQ R q ↔ CornerQ R' q := by
  constructor
  · rintro ⟨k, r, hr, s, hs, z⟩
    exact ⟨(kept_mem m).mp k, r, (m r).mp hr, s, (m s).mp hs, z⟩
  · rintro ⟨k, r, hr, s, hs, z⟩
    exact ⟨(kept_mem m).mpr k, r, (m r).mpr hr, s, (m s).mpr hs, z⟩
theorem mem_more {n : Int} {fs : List Row} {m r : Row} : r ∈ rowsOf n (fs ++ [m]) ↔ r ∈ m :: rowsOf n fs := by
  unfold rowsOf
  simp only [List.mem_append, List.mem_cons, List.not_mem_nil, or_false]
  constructor
  · rintro ((h | h) | h)
    · exact .inr (.inl h)
    · exact .inl h
    · exact .inr (.inr h)
  · rintro (h | h | h)
    · exact .inl (.inr h)
    · exact .inl (.inl h)
    · exact .inr h
/-- the parts left by one more fence and by its opposite -/
theorem parts_add {n : Int} {fs : List Row} {m : Row} {q0 q1 q2 : List Pt} (hf : ∀ r ∈ fs, ¬ (r.a = 0 ∧ r.b = 0)) (hm : ¬ (m.a = 0 ∧ m.b = 0)) (t0 : Told (rowsOf n fs) q0) (t1 : Told (rowsOf n (fs ++ [m])) q1) (t2 : Told (rowsOf n (fs ++ [neg m])) q2) :
    Ar (q1.map toQ) + Ar (q2.map toQ) = Ar (q0.map toQ) :=
  area_add (held_rows n fs) (rows_nz hf) hm t0.mapQ (fun q => (t1.mapQ q).trans (corner_mem fun r => mem_more)) (fun q => (t2.mapQ q).trans (corner_mem fun r => mem_more)) t0.gc' t1.gc' t2.gc'
theorem Told.none {R : List Row} (hR : Held R) (hz : ∀ r ∈ R, ¬ (r.a = 0 ∧ r.b = 0)) {qs : List Pt} (h : Told R qs) : qs = [] ↔ ∀ p, ¬ Kept R p := by
  constructor
  · rintro rfl
    refine no_land hR hz fun q kq => ?_
    obtain ⟨c, hc, _⟩ := h.all q kq
    cases hc
  · intro k
    cases qs with
    | nil => rfl
    | cons a t => exact absurd (h.corner a List.mem_cons_self).kept (k a)
theorem parts_none {n : Int} {fs : List Row} {m : Row} {q0 q1 q2 : List Pt} (hf : ∀ r ∈ fs, ¬ (r.a = 0 ∧ r.b = 0)) (hm : ¬ (m.a = 0 ∧ m.b = 0)) (t0 : Told (rowsOf n fs) q0) (t1 : Told (rowsOf n (fs ++ [m])) q1) (t2 : Told (rowsOf n (fs ++ [neg m])) q2) :
    (q1 ++ q2 = []) ↔ q0 = [] := by
  have hm' : ¬ ((neg m).a = 0 ∧ (neg m).b = 0) := fun k => hm ⟨by have := k.1; unfold neg at this; simp only at this; omega, by have := k.2; unfold neg at this; simp only at this; omega⟩
  have nz : ∀ m' : Row, ¬ (m'.a = 0 ∧ m'.b = 0) → ∀ r ∈ rowsOf n (fs ++ [m']), ¬ (r.a = 0 ∧ r.b = 0) := fun m' hm' => rows_nz fun r hr => by
    rcases List.mem_append.mp hr with k | k
    · exact hf r k
    · have e : r = m' := by simpa using k
      rw [e]
      exact hm'
  have n0 := t0.none (held_rows n fs) (rows_nz hf)
  have n1 := t1.none (held_rows n _) (nz m hm)
  have n2 := t2.none (held_rows n _) (nz (neg m) hm')
  have sub : ∀ {m' : Row} {p : Pt}, Kept (rowsOf n (fs ++ [m'])) p → Kept (rowsOf n fs) p := fun k => ⟨k.pos, fun r hr => k.le r (mem_more.mpr (List.mem_cons_of_mem _ hr))⟩
  have put : ∀ {m' : Row} {p : Pt}, Kept (rowsOf n fs) p → rch m' p ≤ 0 → Kept (rowsOf n (fs ++ [m'])) p := fun k h => ⟨k.pos, fun r hr => by
    rcases List.mem_cons.mp (mem_more.mp hr) with e | hr
    · rw [e]; exact h
    · exact k.le r hr⟩
  rw [List.append_eq_nil_iff, n0, n1, n2]
  constructor
  · rintro ⟨k1, k2⟩ p kp
    by_cases c : rch m p ≤ 0
    · exact k1 p (put kp c)
    · refine k2 p (put kp ?_)
      have : rch (neg m) p = -(rch m p) := by unfold rch neg; grind
      omega
  · intro k
    exact ⟨fun p kp => k p (sub kp), fun p kp => k p (sub kp)⟩
/-- every corner of a part is kept by the fences -/
theorem parts_kept {n : Int} {fs : List Row} {m : Row} {q1 : List Pt} (t1 : Told (rowsOf n (fs ++ [m])) q1) {q : Pt} (h : q ∈ q1) : Kept (rowsOf n fs) q := by
  have k := (t1.corner q h).kept
  exact ⟨k.pos, fun r hr => k.le r (mem_more.mpr (List.mem_cons_of_mem _ hr))⟩
end LG

/-! How great a corner's numbers are. Plain Lean, my own. -/
namespace LG
theorem low_small {p m : Pt} (hp : LowP p) (hm : 0 < m.w) (s : Sim p m) : p.x.natAbs ≤ m.x.natAbs ∧ p.y.natAbs ≤ m.y.natAbs ∧ p.w.natAbs ≤ m.w.natAbs := by
  obtain ⟨px, py, pw⟩ := p
  obtain ⟨mx, my, mw⟩ := m
  obtain ⟨p0, p1⟩ := hp
  have hx := s.x
  have hy := s.y
  simp only at p0 p1 hx hy hm
  have e1 : Nat.gcd (px * mw).natAbs (Nat.gcd (py * mw).natAbs (pw * mw).natAbs) = mw.natAbs := by
    rw [Int.natAbs_mul, Int.natAbs_mul, Int.natAbs_mul, Nat.gcd_mul_right, Nat.gcd_mul_right, p1, Nat.one_mul]
  have d : pw.natAbs ∣ mw.natAbs := by
    rw [← e1, hx, hy]
    refine Nat.dvd_gcd ?_ (Nat.dvd_gcd ?_ ?_)
    · rw [Int.natAbs_mul]; exact Nat.dvd_mul_left _ _
    · rw [Int.natAbs_mul]; exact Nat.dvd_mul_left _ _
    · rw [Int.natAbs_mul]; exact Nat.dvd_mul_right _ _
  obtain ⟨k, hk⟩ := Int.natAbs_dvd_natAbs.mp d
  subst hk
  have k0 : k ≠ 0 := fun z => by rw [z, Int.mul_zero] at hm; omega
  have ex : mx = px * k := by
    apply Int.eq_of_mul_eq_mul_right (show pw ≠ 0 by omega)
    grind
  have ey : my = py * k := by
    apply Int.eq_of_mul_eq_mul_right (show pw ≠ 0 by omega)
    grind
  rw [ex, ey]
  have k1 : 0 < k.natAbs := Int.natAbs_pos.mpr k0
  refine ⟨?_, ?_, ?_⟩ <;> simp only <;> rw [Int.natAbs_mul] <;> exact Nat.le_mul_of_pos_right _ k1
/-- bounds of a row -/
def Small (A C : Nat) (r : Row) : Prop := r.a.natAbs ≤ A ∧ r.b.natAbs ≤ A ∧ r.c.natAbs ≤ C
theorem two_small {a b c d A C : Nat} {x y z t : Int} (hx : x.natAbs ≤ a) (hy : y.natAbs ≤ b) (hz : z.natAbs ≤ c) (ht : t.natAbs ≤ d) : (x * y - z * t).natAbs ≤ a * b + c * d := by
  have h1 : (x * y).natAbs ≤ a * b := by rw [Int.natAbs_mul]; exact Nat.mul_le_mul hx hy
  have h2 : (z * t).natAbs ≤ c * d := by rw [Int.natAbs_mul]; exact Nat.mul_le_mul hz ht
  omega
theorem corner_small {R : List Row} {A C : Nat} (h : ∀ r ∈ R, Small A C r) {p : Pt} (lp : LowP p) (k : OnTwo R p) : p.x.natAbs ≤ C * A + A * C ∧ p.y.natAbs ≤ A * C + C * A ∧ p.w.natAbs ≤ A * A + A * A := by
  obtain ⟨r, hr, s, hs, zr, zs, c⟩ := k
  obtain ⟨r1, r2, r3⟩ := h r hr
  obtain ⟨s1, s2, s3⟩ := h s hs
  obtain ⟨h1, h2, h3⟩ := low_small lp (meet_pos c) (meet_sim c zr zs)
  have b1 : (r.c * s.b - r.b * s.c).natAbs ≤ C * A + A * C := two_small (A := A) (C := C) r3 s2 r2 s3
  have b2 : (r.a * s.c - r.c * s.a).natAbs ≤ A * C + C * A := two_small (A := A) (C := C) r1 s3 r3 s1
  have b3 : (cross r s).natAbs ≤ A * A + A * A := two_small (A := A) (C := C) r1 s2 r2 s1
  unfold meet at h1 h2 h3
  split at h1
  · rename_i q
    rw [if_pos q] at h2 h3
    simp only at h1 h2 h3
    exact ⟨by omega, by omega, by omega⟩
  · rename_i q
    rw [if_neg q] at h2 h3
    simp only at h1 h2 h3
    exact ⟨by omega, by omega, by omega⟩
/-! ### how many corners there are -/
theorem nodup_len {α : Type} [DecidableEq α] {l m : List α} (h : l.Nodup) (s : ∀ x ∈ l, x ∈ m) : l.length ≤ m.length := by
  induction l generalizing m with
  | nil => simp
  | cons a l ih =>
    have hn := List.nodup_cons.mp h
    have ha := s a List.mem_cons_self
    have := ih (m := m.erase a) hn.2 fun x hx => by
      have ne : x ≠ a := fun e => hn.1 (e ▸ hx)
      exact (List.mem_erase_of_ne ne).mpr (s x (List.mem_cons_of_mem _ hx))
    rw [List.length_erase_of_mem ha] at this
    have p := List.length_pos_of_mem ha
    rw [List.length_cons]
    omega
theorem flat_len {α β : Type} (f : α → List β) (k : Nat) : ∀ l : List α, (∀ a ∈ l, (f a).length = k) → (l.flatMap f).length = l.length * k
  | [], _ => by simp
  | a :: l, h => by
    rw [List.flatMap_cons, List.length_append, h a List.mem_cons_self, flat_len f k l fun b hb => h b (List.mem_cons_of_mem _ hb), List.length_cons, Nat.succ_mul, Nat.add_comm]
theorem Told.few {R : List Row} {qs : List Pt} (h : Told R qs) : qs.length ≤ R.length * R.length := by
  have nd : (qs.map toQ).Nodup := by
    refine List.nodup_iff_pairwise_ne.mpr ?_
    refine List.pairwise_map.mpr ?_
    refine (List.pairwise_iff_forall_sublist.mpr fun {a b} sub => ?_)
    intro e
    have ma := sub.subset (show a ∈ [a, b] by simp)
    have mb := sub.subset (show b ∈ [a, b] by simp)
    have eq := low_toQ (h.low a ma) (h.low b mb) e
    have nd2 := h.nodup.sublist sub
    rw [eq] at nd2
    simp at nd2
  have l : ((R.flatMap fun r => R.map fun s => meet r s).map toQ).length = R.length * R.length := by
    rw [List.length_map]
    exact flat_len _ _ R fun r _ => List.length_map ..
  rw [← l, ← List.length_map (f := toQ)]
  refine nodup_len nd fun x hx => ?_
  obtain ⟨q, hq, rfl⟩ := List.mem_map.mp hx
  have k := h.corner q hq
  obtain ⟨r, hr, s, hs, zr, zs, c⟩ := k.two
  have sm := meet_sim c zr zs
  refine List.mem_map.mpr ⟨meet r s, List.mem_flatMap.mpr ⟨r, hr, List.mem_map.mpr ⟨s, hs, rfl⟩⟩, ?_⟩
  exact (sim_toQ k.kept.pos (meet_pos c) sm).symm
end LG

/-! No more corners than rows; the area, corner by corner. Plain Lean, my own. -/
namespace LG
theorem follows_third {l : List Q} (g : GC l) (h3 : 3 ≤ l.length) {p q : Q} : ∃ c ∈ l, c ≠ p ∧ c ≠ q := by
  obtain ⟨a, b, c, ha, hb, hc, _, ab, ac, bc⟩ := three_in g h3
  by_cases e1 : a = p
  · by_cases e2 : b = q
    · exact ⟨c, hc, fun e => ac (e1.trans e.symm), fun e => bc (e2.trans e.symm)⟩
    · exact ⟨b, hb, fun e => ab (e1.trans e.symm), e2⟩
  · by_cases e2 : a = q
    · by_cases e3 : b = p
      · exact ⟨c, hc, fun e => bc (e3.trans e.symm), fun e => ac (e2.trans e.symm)⟩
      · exact ⟨b, hb, e3, fun e => ab (e2.trans e.symm)⟩
    · exact ⟨a, ha, e1, e2⟩
theorem ring_few {R : List Row} (hR : Held R) (hz : ∀ r ∈ R, ¬ (r.a = 0 ∧ r.b = 0)) {l : List Q} (h0 : ∀ q, q ∈ l ↔ CornerQ R q) (g : GC l) (h3 : 3 ≤ l.length) : l.length ≤ R.length := by
  have ex : ∀ k : Q × Q, k ∈ pairs l → ∃ r ∈ R, rq r k.1 = 0 ∧ rq r k.2 = 0 := by
    rintro ⟨p, q⟩ hk
    have f := follows_of g h3 hk
    refine edge_row hR hz ((h0 p).mp f.1).kept ((h0 q).mp f.2.1).kept f.2.2.1 fun c hc => ?_
    by_cases e1 : c = p
    · rw [e1, (T_self p q).1]; exact Rat.le_refl
    by_cases e2 : c = q
    · rw [e2, (T_self p q).2.1]; exact Rat.le_refl
    · have := f.2.2.2 c ((h0 c).mpr hc) e1 e2
      grind
  let f : Q × Q → Row := fun k => if h : k ∈ pairs l then Classical.choose (ex k h) else ⟨0, 0, 0⟩
  have fR : ∀ k ∈ pairs l, f k ∈ R ∧ rq (f k) k.1 = 0 ∧ rq (f k) k.2 = 0 := by
    intro k hk
    have e : f k = Classical.choose (ex k hk) := dif_pos hk
    rw [e]
    exact Classical.choose_spec (ex k hk)
  have nd : (pairs l).Pairwise fun k k' => k.1 ≠ k'.1 := by
    have := g.nodup h3
    rw [← pairs_fst l] at this
    exact List.pairwise_map.mp (List.nodup_iff_pairwise_ne.mp this)
  have apart : ∀ k ∈ pairs l, ∀ k' ∈ pairs l, k.1 ≠ k'.1 → f k ≠ f k' := by
    rintro ⟨p, q⟩ hk ⟨p', q'⟩ hk' ne e
    have ne : p ≠ p' := ne
    obtain ⟨r1, z1, z2⟩ := fR _ hk
    obtain ⟨_, z3, z4⟩ := fR _ hk'
    rw [← e] at z3 z4
    have nz := hz _ r1
    have F := follows_of g h3 hk
    have F' := follows_of g h3 hk'
    by_cases e2 : p' = q
    · subst e2
      by_cases e3 : q' = p
      · subst e3
        obtain ⟨c, hc, c1, c2⟩ := follows_third g h3 (p := q') (q := p')
        have a := F.2.2.2 c hc c1 c2
        have b := F'.2.2.2 c hc c2 c1
        have : T p' q' c = -(T q' p' c) := by unfold T; grind
        grind
      · have a := F.2.2.2 q' F'.2.1 e3 F'.2.2.1
        rw [flat_line nz z1 z2 z4] at a
        exact absurd a (by grind)
    · have a := F.2.2.2 p' F'.1 (fun e => ne e.symm) e2
      rw [flat_line nz z1 z2 z3] at a
      exact absurd a (by grind)
  have nd2 : ((pairs l).map f).Nodup := by
    refine List.nodup_iff_pairwise_ne.mpr (List.pairwise_map.mpr ?_)
    have both : (pairs l).Pairwise fun k k' => k ∈ pairs l ∧ k' ∈ pairs l := by
      refine List.pairwise_iff_forall_sublist.mpr fun {a b} s => ⟨s.subset (by simp), s.subset (by simp)⟩
    exact (nd.and both).imp fun {a b} h => apart a h.2.1 b h.2.2 h.1
  have len : ((pairs l).map f).length = l.length := by
    rw [List.length_map]
    have := congrArg List.length (pairs_fst l)
    rw [List.length_map] at this
    exact this
  rw [← len]
  exact nodup_len nd2 fun r hr => by
    obtain ⟨k, hk, rfl⟩ := List.mem_map.mp hr
    exact (fR k hk).1
theorem Told.few' {R : List Row} (hR : Held R) (hz : ∀ r ∈ R, ¬ (r.a = 0 ∧ r.b = 0)) {qs : List Pt} (h : Told R qs) (h3 : 3 ≤ qs.length) : qs.length ≤ R.length := by
  have := ring_few hR hz h.mapQ (h.gc h3) (by rw [List.length_map]; exact h3)
  rw [List.length_map] at this
  exact this
/-! ### the area by turns -/
def atQ (l : List Q) (k : Nat) : Q := l.getD k ⟨0, 0⟩
theorem atQ_get {l : List Q} {k : Nat} (h : k < l.length) : atQ l k = l[k] := by
  unfold atQ
  rw [List.getD_eq_getElem?_getD, List.getElem?_eq_getElem h]
  rfl
def areaTo (l : List Q) : Nat → Rat
  | 0 => 0
  | i + 1 => areaTo l i + cr (atQ l (prev l.length i)) (atQ l i)
theorem lastD_take (a : Q) (t : List Q) {i : Nat} (h : i ≤ t.length) : lastD a (t.take i) = atQ (a :: t) i := by
  induction i generalizing a t with
  | zero => rfl
  | succ i ih =>
    cases t with
    | nil => simp at h
    | cons b t => exact ih b t (by simpa using h)
theorem areaTo_path (a : Q) (t : List Q) {i : Nat} (h : i ≤ t.length) : areaTo (a :: t) (i + 1) = cr (lastD a t) a + psum a (t.take i) := by
  induction i with
  | zero =>
    have e : atQ (a :: t) (prev (a :: t).length 0) = lastD a t := by
      have := lastD_take a t (Nat.le_refl t.length)
      rw [List.take_length] at this
      rw [this]
      rfl
    show 0 + cr (atQ (a :: t) (prev (a :: t).length 0)) a = cr (lastD a t) a + 0
    rw [e, Rat.zero_add, Rat.add_zero]
  | succ i ih =>
    have ih := ih (by omega)
    show areaTo (a :: t) (i + 1) + cr (atQ (a :: t) (prev (a :: t).length (i + 1))) (atQ (a :: t) (i + 1)) = _
    have e1 : prev (a :: t).length (i + 1) = i := by unfold prev; rw [if_neg (by omega)]; omega
    have hl : i < t.length := by omega
    have e2 : t.take (i + 1) = t.take i ++ [t[i]] := by
      rw [List.take_add_one, List.getElem?_eq_getElem hl]
      rfl
    have e3 : atQ (a :: t) (i + 1) = t[i] := by
      rw [atQ_get (by simp only [List.length_cons]; omega)]
      rfl
    rw [ih, e1, e2, psum_app, lastD_take a t (by omega), e3]
    show _ = cr (lastD a t) a + (psum a (t.take i) + cr (atQ (a :: t) i) t[i] + 0)
    grind
theorem areaTo_all {l : List Q} (h : l ≠ []) : areaTo l l.length = S l := by
  cases l with
  | nil => exact absurd rfl h
  | cons a t =>
    show areaTo (a :: t) (t.length + 1) = _
    rw [areaTo_path a t (Nat.le_refl _), List.take_length, S_cons]
    grind
/-- two fractions in lowest terms -/
theorem low_frac {m b n c : Int} (hb : 0 < b) (hc : 0 < c) (g : Nat.gcd m.natAbs b.natAbs = 1) (k : Nat.gcd n.natAbs c.natAbs = 1) (e : m * c = n * b) : m = n ∧ b = c := by
  have e1 : Nat.gcd (m * c).natAbs (b * c).natAbs = c.natAbs := by rw [Int.natAbs_mul, Int.natAbs_mul, Nat.gcd_mul_right, g, Nat.one_mul]
  have e2 : Nat.gcd (n * b).natAbs (c * b).natAbs = b.natAbs := by rw [Int.natAbs_mul, Int.natAbs_mul, Nat.gcd_mul_right, k, Nat.one_mul]
  rw [e, Int.mul_comm b c, e2] at e1
  have : b = c := by omega
  subst this
  exact ⟨Int.eq_of_mul_eq_mul_right (by omega) e, rfl⟩
/-- one turn of the sum, by whole numbers -/
theorem area_turn {p q : Pt} (hp : 0 < p.w) (hq : 0 < q.w) {m b : Int} {s : Rat} (hb : 0 < b) (h : (m : Rat) = s * b) :
    ((m * p.w * q.w + (p.x * q.y - q.x * p.y) * b : Int) : Rat) = (s + cr (toQ p) (toQ q)) * ((b * p.w * q.w : Int) : Rat) := by
  have wp := castw hp
  have wq := castw hq
  simp only [Rat.intCast_add, Rat.intCast_sub, Rat.intCast_mul]
  unfold cr toQ
  simp only
  grind
theorem frac_div {m b g : Int} {s : Rat} (hg : 0 < g) (dm : g ∣ m) (db : g ∣ b) (h : (m : Rat) = s * b) : ((m.fdiv g : Int) : Rat) = s * ((b.fdiv g : Int) : Rat) := by
  obtain ⟨x, rfl⟩ := dm
  obtain ⟨y, rfl⟩ := db
  rw [Int.mul_fdiv_cancel_left x (by omega), Int.mul_fdiv_cancel_left y (by omega)]
  have g0 : (0 : Rat) < (g : Rat) := Rat.intCast_pos.mpr hg
  rw [Rat.intCast_mul, Rat.intCast_mul] at h
  have e : (g : Rat) * ((x : Rat) - s * (y : Rat)) = 0 := by grind
  rcases Rat.mul_eq_zero.mp e with k | k
  · rw [k] at g0
    exact absurd g0 (by decide)
  · clear h e
    grind
end LG

/-! Corners stand in convex position; by turns round the lowest they make a ring. Plain Lean, my own. -/
namespace LG
theorem divp {a b : Rat} (ha : 0 < a) (hb : 0 < b) : 0 < a / b := by
  apply pos_of_mul hb
  have : a / b * b = a := by grind
  rw [this]
  exact ha
section
variable {R : List Row}
/-- a corner is no mean of kept spots that are not it: where weights above 0 of kept spots come to it, the rows through it go through these -/
theorem mean_zero {r : Row} {a b c q : Q} {u v w : Rat} (hu : 0 < u) (hv : 0 < v) (hw : 0 < w) (ex : (u + v + w) * q.x = u * a.x + v * b.x + w * c.x) (ey : (u + v + w) * q.y = u * a.y + v * b.y + w * c.y) (ka : rq r a ≤ 0) (kb : rq r b ≤ 0) (kc : rq r c ≤ 0) (z : rq r q = 0) : rq r a = 0 ∧ rq r b = 0 ∧ rq r c = 0 := by
  have e : u * rq r a + v * rq r b + w * rq r c = (u + v + w) * rq r q := by
    unfold rq
    grind
  rw [z, Rat.mul_zero] at e
  have m1 := muln (show 0 ≤ u by grind) (show 0 ≤ -(rq r a) by grind)
  have m2 := muln (show 0 ≤ v by grind) (show 0 ≤ -(rq r b) by grind)
  have m3 := muln (show 0 ≤ w by grind) (show 0 ≤ -(rq r c) by grind)
  have z1 : u * rq r a = 0 := by
    have e1 : u * -(rq r a) = -(u * rq r a) := by grind
    have e2 : v * -(rq r b) = -(v * rq r b) := by grind
    have e3 : w * -(rq r c) = -(w * rq r c) := by grind
    rw [e1] at m1
    rw [e2] at m2
    rw [e3] at m3
    generalize u * rq r a = x at *
    generalize v * rq r b = y at *
    generalize w * rq r c = t at *
    grind
  have z2 : v * rq r b = 0 := by
    have e2 : v * -(rq r b) = -(v * rq r b) := by grind
    have e3 : w * -(rq r c) = -(w * rq r c) := by grind
    rw [e2] at m2
    rw [e3] at m3
    rw [z1] at e
    generalize v * rq r b = y at *
    generalize w * rq r c = t at *
    grind
  have z3 : w * rq r c = 0 := by
    rw [z1, z2] at e
    grind
  refine ⟨?_, ?_, ?_⟩
  · rcases Rat.mul_eq_zero.mp z1 with k | k
    · rw [k] at hu; exact absurd hu (by decide)
    · exact k
  · rcases Rat.mul_eq_zero.mp z2 with k | k
    · rw [k] at hv; exact absurd hv (by decide)
    · exact k
  · rcases Rat.mul_eq_zero.mp z3 with k | k
    · rw [k] at hw; exact absurd hw (by decide)
    · exact k
/-- two rows that don't run the same way go through one spot only -/
theorem two_rows {r s : Row} {p q : Q} (c : cross r s ≠ 0) (z1 : rq r p = 0) (z2 : rq s p = 0) (z3 : rq r q = 0) (z4 : rq s q = 0) : p = q := by
  have c : (r.a : Rat) * s.b - r.b * s.a ≠ 0 := fun z => c (cross_0.mpr z)
  obtain ⟨px, py⟩ := p
  obtain ⟨qx, qy⟩ := q
  unfold rq at z1 z2 z3 z4
  simp only at z1 z2 z3 z4
  have ex : ((r.a : Rat) * s.b - r.b * s.a) * (px - qx) = 0 := by grind
  have ey : ((r.a : Rat) * s.b - r.b * s.a) * (py - qy) = 0 := by grind
  have hx : px = qx := by
    rcases Rat.mul_eq_zero.mp ex with k | k
    · exact absurd k c
    · grind
  have hy : py = qy := by
    rcases Rat.mul_eq_zero.mp ey with k | k
    · exact absurd k c
    · grind
  rw [hx, hy]
/-- a corner lies within no triangle of kept spots, nor between -/
theorem corner_out {a b c q : Q} (kq : CornerQ R q) (ka : KeptQ R a) (kb : KeptQ R b) (kc : KeptQ R c) {u v w : Rat} (hu : 0 < u) (hv : 0 < v) (hw : 0 < w) (ex : (u + v + w) * q.x = u * a.x + v * b.x + w * c.x) (ey : (u + v + w) * q.y = u * a.y + v * b.y + w * c.y) : a = q := by
  obtain ⟨k, r, hr, s, hs, zr, zs, cr⟩ := kq
  have h1 := mean_zero hu hv hw ex ey (ka r hr) (kb r hr) (kc r hr) zr
  have h2 := mean_zero hu hv hw ex ey (ka s hs) (kb s hs) (kc s hs) zs
  exact two_rows cr h1.1 h2.1 zr zs
/-- on one line, apart: one of three lies between -/
theorem between {a b c : Q} (t : T a b c = 0) (ab : a ≠ b) (ac : a ≠ c) (bc : b ≠ c) : ∃ m p q : Q, ((m = a ∧ p = b ∧ q = c) ∨ (m = b ∧ p = a ∧ q = c) ∨ (m = c ∧ p = a ∧ q = b)) ∧ ∃ s : Rat, 0 < s ∧ s < 1 ∧ m.x = s * p.x + (1 - s) * q.x ∧ m.y = s * p.y + (1 - s) * q.y := by
  -- along the way from a to b, c lies at k
  have hk : ∃ k : Rat, c.x - a.x = k * (b.x - a.x) ∧ c.y - a.y = k * (b.y - a.y) := by
    unfold T at t
    by_cases h : b.x - a.x = 0
    · have hy : b.y - a.y ≠ 0 := fun z => ab (by
        obtain ⟨ax, ay⟩ := a
        obtain ⟨bx, by'⟩ := b
        simp only at h z
        rw [show ax = bx by grind, show ay = by' by grind])
      refine ⟨(c.y - a.y) / (b.y - a.y), ?_, ?_⟩
      · rw [h]
        rw [h] at t
        have : (c.x - a.x) * (b.y - a.y) = 0 := by grind
        rcases Rat.mul_eq_zero.mp this with z | z
        · rw [z]; grind
        · exact absurd z hy
      · grind
    · refine ⟨(c.x - a.x) / (b.x - a.x), ?_, ?_⟩
      · grind
      · grind
  obtain ⟨k, kx, ky⟩ := hk
  have k0 : k ≠ 0 := fun z => ac (by
    rw [z] at kx ky
    obtain ⟨ax, ay⟩ := a
    obtain ⟨cx, cy⟩ := c
    simp only at kx ky
    rw [show ax = cx by grind, show ay = cy by grind])
  have k1 : k ≠ 1 := fun z => bc (by
    rw [z] at kx ky
    obtain ⟨bx, by'⟩ := b
    obtain ⟨cx, cy⟩ := c
    simp only at kx ky
    rw [show bx = cx by grind, show by' = cy by grind])
  by_cases h1 : k < 0
  · -- a between b and c: a = s b + (1-s) c, s = -k / (1 - k)
    refine ⟨a, b, c, .inl ⟨rfl, rfl, rfl⟩, (-k) / (1 - k), ?_, ?_, ?_, ?_⟩
    · exact divp (by grind) (by grind)
    · have : 1 - (-k) / (1 - k) = 1 / (1 - k) := by grind
      have p : 0 < 1 / (1 - k) := divp (by decide) (by grind)
      grind
    · grind
    · grind
  by_cases h2 : k < 1
  · refine ⟨c, a, b, .inr (.inr ⟨rfl, rfl, rfl⟩), 1 - k, by grind, by grind, by grind, by grind⟩
  · refine ⟨b, a, c, .inr (.inl ⟨rfl, rfl, rfl⟩), (k - 1) / k, ?_, ?_, ?_, ?_⟩
    · exact divp (by grind) (by grind)
    · have : 1 - (k - 1) / k = 1 / k := by grind
      have p : 0 < 1 / k := divp (by decide) (by grind)
      grind
    · grind
    · grind
/-- no three corners on a line -/
theorem corners_apart {a b c : Q} (ka : CornerQ R a) (kb : CornerQ R b) (kc : CornerQ R c) (ab : a ≠ b) (ac : a ≠ c) (bc : b ≠ c) : T a b c ≠ 0 := by
  intro t
  obtain ⟨m, p, q, hm, s, s0, s1, ex, ey⟩ := between t ab ac bc
  have go : CornerQ R m → CornerQ R p → CornerQ R q → p = m := fun km kp kq =>
    corner_out (a := p) (b := p) (c := q) (u := s / 2) (v := s / 2) (w := 1 - s) km kp.kept kp.kept kq.kept (divp s0 (by decide)) (divp s0 (by decide)) (by grind) (by grind) (by grind)
  rcases hm with ⟨rfl, rfl, rfl⟩ | ⟨rfl, rfl, rfl⟩ | ⟨rfl, rfl, rfl⟩
  · exact ab (go ka kb kc).symm
  · exact ab (go kb ka kc)
  · exact ac (go kc ka kb)
/-- round one corner by turns: then it is a ring -/
theorem sorted_gc {a : Q} : ∀ {t : List Q}, CornerQ R a → (∀ q ∈ t, CornerQ R q) → t.Pairwise (fun b c => 0 < T a b c) → GC (a :: t) := by
  have tail : ∀ {t : List Q}, CornerQ R a → (∀ q ∈ t, CornerQ R q) → t.Pairwise (fun b c => 0 < T a b c) → GC t := by
    intro t
    induction t with
    | nil => intros; trivial
    | cons b t ih =>
      intro ka kt h
      have h' := List.pairwise_cons.mp h
      refine ⟨?_, ih ka (fun q hq => kt q (List.mem_cons_of_mem _ hq)) h'.2⟩
      refine List.pairwise_iff_forall_sublist.mpr fun {c d} s => ?_
      have mc := s.subset (show c ∈ [c, d] by simp)
      have md := s.subset (show d ∈ [c, d] by simp)
      have t1 := h'.1 c mc
      have t2 := h'.1 d md
      have t3 : 0 < T a c d := (List.pairwise_iff_forall_sublist.mp h'.2) s
      have kb := kt b List.mem_cons_self
      have kc := kt c (List.mem_cons_of_mem _ mc)
      have kd := kt d (List.mem_cons_of_mem _ md)
      have bc : b ≠ c := fun e => by rw [e, (T_self a c).2.1] at t1; exact absurd t1 (by decide)
      have bd : b ≠ d := fun e => by rw [e, (T_self a d).2.1] at t2; exact absurd t2 (by decide)
      have cd : c ≠ d := fun e => by rw [e, (T_self a d).2.1] at t3; exact absurd t3 (by decide)
      have nz := corners_apart kb kc kd bc bd cd
      apply Classical.byContradiction
      intro n
      have neg : T b c d < 0 := by grind
      -- c within the triangle a b d
      have ac : a = c := corner_out (a := a) (b := b) (c := d) (u := -(T b c d)) (v := T a c d) (w := T a b c) kc ka.kept kb.kept kd.kept (by grind) t3 t1 (by unfold T; grind) (by unfold T; grind)
      rw [ac, (T_self c d).2.2] at t3
      exact absurd t3 (by decide)
  intro t ka kt h
  exact ⟨h, tail ka kt h⟩
end
theorem gc_three : ∀ {l : List Q}, GC l → ∀ i j k : Nat, ∀ (hi : i < j) (hj : j < k) (hk : k < l.length), 0 < T (l[i]'(by omega)) (l[j]'(by omega)) (l[k]'hk)
  | [], _, _, _, _, _, _, hk => by simp at hk
  | a :: l, h, 0, j + 1, k + 1, hi, hj, hk => by
    have := List.pairwise_iff_getElem.mp h.1 j k (by simp only [List.length_cons] at hk; omega) (by simp only [List.length_cons] at hk; omega) (by omega)
    exact this
  | a :: l, h, i + 1, j + 1, k + 1, hi, hj, hk => gc_three h.2 i j k (by omega) (by omega) (by simp only [List.length_cons] at hk; omega)
/-- a convex list is a ring -/
theorem gc_ring {l : List Pt} (hp : ∀ q ∈ l, 0 < q.w) (h3 : 3 ≤ l.length) (g : GC (l.map toQ)) : Ring l.length (at0 l) := by
  have pos : ∀ k, k < l.length → 0 < (at0 l k).w := fun k hk => by
    rw [at0_get hk]
    exact hp _ (List.getElem_mem hk)
  have three : ∀ i j k : Nat, i < j → j < k → k < l.length → 0 < tri (at0 l i) (at0 l j) (at0 l k) := by
    intro i j k hi hj hk
    have := gc_three g i j k hi hj (by rw [List.length_map]; exact hk)
    rw [List.getElem_map, List.getElem_map, List.getElem_map] at this
    rw [at0_get (show i < l.length by omega), at0_get (show j < l.length by omega), at0_get hk]
    exact (tri_pos (hp _ (List.getElem_mem _)) (hp _ (List.getElem_mem _)) (hp _ (List.getElem_mem _))).mp this
  refine ⟨h3, pos, fun k j hk hj n1 n2 => ?_⟩
  unfold prev at n1 ⊢
  by_cases z : k = 0
  · subst z
    rw [if_pos rfl] at n1 ⊢
    have := three 0 j (l.length - 1) (by omega) (by omega) (by omega)
    rw [tri_rot]
    exact this
  · rw [if_neg z] at n1 ⊢
    rcases Nat.lt_trichotomy j (k - 1) with c | c | c
    · have := three j (k - 1) k c (by omega) hk
      rw [← tri_rot]
      exact this
    · exact absurd c n1
    · exact three (k - 1) k j (by omega) (by omega) hj
/-- what is told of a land: its corners, once each, in lowest terms, the lowest first, the others by turns round it -/
theorem told_of {R : List Row} {a : Pt} {t : List Pt} (low : ∀ q ∈ a :: t, LowP q) (corner : ∀ q ∈ a :: t, Corner R q) (all : ∀ q, Corner R q → ∃ c ∈ a :: t, Sim q c) (nd : (a :: t).Nodup) (first : ∀ q ∈ t, lower a q) (sorted : t.Pairwise fun b c => 0 < tri a b c) : Told R (a :: t) := by
  refine ⟨low, corner, all, nd, fun a' t' e q hq => ?_, fun h3 => ?_⟩
  · have e1 : a = a' := by injection e
    have e2 : t = t' := by injection e
    subst e1
    subst e2
    exact first q hq
  · refine gc_ring (fun q hq => (low q hq).1) h3 ?_
    have pos : ∀ q ∈ a :: t, 0 < q.w := fun q hq => (low q hq).1
    rw [List.map_cons]
    refine sorted_gc (R := R) ((corner_toQ (pos a List.mem_cons_self)).mp (corner a List.mem_cons_self)) (fun q hq => ?_) ?_
    · obtain ⟨p, hp, rfl⟩ := List.mem_map.mp hq
      exact (corner_toQ (pos p (List.mem_cons_of_mem _ hp))).mp (corner p (List.mem_cons_of_mem _ hp))
    · refine List.pairwise_map.mpr (List.pairwise_iff_forall_sublist.mpr fun {b c} s => ?_)
      have mb := s.subset (show b ∈ [b, c] by simp)
      have mc := s.subset (show c ∈ [b, c] by simp)
      exact (tri_pos (pos a List.mem_cons_self) (pos b (List.mem_cons_of_mem _ mb)) (pos c (List.mem_cons_of_mem _ mc))).mpr ((List.pairwise_iff_forall_sublist.mp sorted) s)
theorem told_nil {R : List Row} (h : ∀ q, ¬ Corner R q) : Told R [] :=
  ⟨(fun q hq => nomatch hq), (fun q hq => nomatch hq), (fun q hq => absurd hq (h q)), List.nodup_nil, (fun a t e => nomatch e), (fun h3 => absurd h3 (by decide))⟩
/-! ### turns round the lowest are an order -/
/-- three corners, apart: they turn -/
theorem tri_apart {R : List Row} {a b c : Pt} (la : LowP a) (lb : LowP b) (lc : LowP c) (ka : Corner R a) (kb : Corner R b) (kc : Corner R c) (ab : a ≠ b) (ac : a ≠ c) (bc : b ≠ c) : tri a b c ≠ 0 := by
  intro z
  have e := tri_toQ la.1 lb.1 lc.1
  rw [z] at e
  have w : 0 < (a.w : Rat) * b.w * c.w := mulp (mulp (castw la.1) (castw lb.1)) (castw lc.1)
  refine corners_apart ((corner_toQ la.1).mp ka) ((corner_toQ lb.1).mp kb) ((corner_toQ lc.1).mp kc) (fun e => ab (low_toQ la lb e)) (fun e => ac (low_toQ la lc e)) (fun e => bc (low_toQ lb lc e)) ?_
  have e : T (toQ a) (toQ b) (toQ c) * (a.w * b.w * c.w) = 0 := e
  rcases Rat.mul_eq_zero.mp e with k | k
  · exact k
  · rw [k] at w
    exact absurd w (by decide)
/-- how far b lies above a, times the two w; and to the right -/
def up (a b : Pt) : Int := b.y * a.w - a.y * b.w
def rt (a b : Pt) : Int := b.x * a.w - a.x * b.w
theorem lower_up {a b : Pt} : lower a b ↔ 0 < up a b ∨ (up a b = 0 ∧ 0 < rt a b) := by
  unfold lower up rt
  by_cases c : a.y * b.w ≠ b.y * a.w
  · rw [if_pos c]
    omega
  · rw [if_neg c]
    omega
theorem tri_up (a b c : Pt) : tri a b c * a.w = rt a b * up a c - up a b * rt a c := by
  unfold tri rt up
  grind
/-- by turns round the lowest: an order -/
theorem turn_trans {a b c d : Pt} (wa : 0 < a.w) (lb : lower a b) (lc : lower a c) (ld : lower a d) (h1 : 0 < tri a b c) (h2 : 0 < tri a c d) : 0 < tri a b d := by
  have e1 := tri_up a b c
  have e2 := tri_up a c d
  have e3 := tri_up a b d
  have p1 := Int.mul_pos h1 wa
  have p2 := Int.mul_pos h2 wa
  rw [e1] at p1
  rw [e2] at p2
  rw [lower_up] at lb lc ld
  have goal : 0 < rt a b * up a d - up a b * rt a d := by
    generalize rt a b = bx at *
    generalize rt a c = cx at *
    generalize rt a d = dx at *
    generalize up a b = bu at *
    generalize up a c = cu at *
    generalize up a d = du at *
    -- c above a
    have cu0 : 0 < cu := by
      rcases lc with h | ⟨h, k⟩
      · exact h
      · exfalso
        rw [h, Int.mul_zero] at p1
        have : 0 ≤ bu * cx := Int.mul_nonneg (by omega) (by omega)
        omega
    have du0 : 0 < du := by
      rcases ld with h | ⟨h, k⟩
      · exact h
      · exfalso
        rw [h, Int.mul_zero] at p2
        have : 0 ≤ cu * dx := Int.mul_nonneg (by omega) (by omega)
        omega
    have id : (bx * du - bu * dx) * cu = (bx * cu - bu * cx) * du + (cx * du - cu * dx) * bu := by grind
    have m1 := Int.mul_pos p1 du0
    have m2 := Int.mul_nonneg (show 0 ≤ cx * du - cu * dx by omega) (show 0 ≤ bu by omega)
    apply Classical.byContradiction
    intro n
    have := Int.mul_nonpos_of_nonpos_of_nonneg (show bx * du - bu * dx ≤ 0 by omega) (show 0 ≤ cu by omega)
    omega
  rw [← e3] at goal
  apply Classical.byContradiction
  intro n
  have := Int.mul_nonpos_of_nonpos_of_nonneg (show tri a b d ≤ 0 by omega) (show 0 ≤ a.w by omega)
  omega
end LG

/-! The shapes of what shows that nothing is left, and that nothing lies farther. Plain Lean, my own. -/
namespace LG
def Nz (r : Row) : Prop := ¬ (r.a = 0 ∧ r.b = 0)
def ddot (r s : Row) : Int := r.a * s.a + r.b * s.b
theorem ddot_pos {r : Row} (h : Nz r) : 0 < ddot r r := by
  unfold Nz at h
  unfold ddot
  have s1 : 0 ≤ r.a * r.a := by rcases Int.le_total 0 r.a with h | h; exact Int.mul_nonneg h h; exact Int.mul_nonneg_of_nonpos_of_nonpos h h
  have s2 : 0 ≤ r.b * r.b := by rcases Int.le_total 0 r.b with h | h; exact Int.mul_nonneg h h; exact Int.mul_nonneg_of_nonpos_of_nonpos h h
  have s3 : r.a * r.a ≠ 0 ∨ r.b * r.b ≠ 0 := by
    by_cases z : r.a = 0
    · right
      intro e
      rcases Int.mul_eq_zero.mp e with k | k <;> exact h ⟨z, k⟩
    · left
      intro e
      rcases Int.mul_eq_zero.mp e with k | k <;> exact z k
  omega
theorem ddot_ne {r s : Row} (hr : Nz r) (hs : Nz s) (c : cross r s = 0) : ddot r s ≠ 0 := by
  intro z
  have id : ddot r s * ddot r s + cross r s * cross r s = ddot r r * ddot s s := by unfold ddot cross; grind
  rw [z, c] at id
  have := Int.mul_pos (ddot_pos hr) (ddot_pos hs)
  omega
/-- two rows that run against each other, and leave nothing between -/
structure Why2 (R : List Row) (r s : Row) (p q : Int) : Prop where
  hr : r ∈ R
  hs : s ∈ R
  pp : 0 < p
  qp : 0 < q
  ea : p * r.a + q * s.a = 0
  eb : p * r.b + q * s.b = 0
  ec : p * r.c + q * s.c < 0
theorem Why2.cross {R : List Row} {r s : Row} {p q : Int} (h : Why2 R r s p q) : cross r s = 0 := by
  have a := h.ea
  have b := h.eb
  have q0 := h.qp
  have e : q * LG.cross r s = 0 := by unfold LG.cross; grind
  rcases Int.mul_eq_zero.mp e with k | k
  · omega
  · exact k
/-- three rows in turn, each to the left of the one ahead, that leave nothing among them -/
structure Why3 (R : List Row) (r s t : Row) : Prop where
  hr : r ∈ R
  hs : s ∈ R
  ht : t ∈ R
  x : 0 < cross s t
  y : 0 < cross t r
  z : 0 < cross r s
  ec : cross s t * r.c + cross t r * s.c + cross r s * t.c < 0
theorem why3_sum (r s t : Row) : cross s t * r.a + cross t r * s.a + cross r s * t.a = 0 ∧ cross s t * r.b + cross t r * s.b + cross r s * t.b = 0 := by
  unfold cross
  constructor <;> grind
theorem neg_of_mul {k x : Int} (hk : 0 < k) (h : k * x < 0) : x < 0 := by
  apply Classical.byContradiction
  intro n
  have := Int.mul_nonneg (show 0 ≤ k by omega) (show 0 ≤ x by omega)
  omega
/-- one row against two that run as one another -/
theorem against {R : List Row} {r s t : Row} {u v m : Int} (hr : r ∈ R) (hs : s ∈ R) (ht : t ∈ R) (nr : Nz r) (ns : Nz s) (nt : Nz t) (hu : 0 < u) (hv : 0 < v) (hm : 0 < m) (c1 : cross r s = 0) (c2 : cross t s = 0) (d1 : ddot r s < 0) (d2 : ddot t s < 0)
    (ea : u * r.a + v * s.a + m * t.a = 0) (eb : u * r.b + v * s.b + m * t.b = 0) (ec : u * r.c + v * s.c + m * t.c < 0) : ∃ r s p q, Why2 R r s p q := by
  have ss := ddot_pos ns
  -- |s|^2 r = (r.s) s
  have ra : ddot s s * r.a = ddot r s * s.a := by unfold cross at c1; unfold ddot; grind
  have rb : ddot s s * r.b = ddot r s * s.b := by unfold cross at c1; unfold ddot; grind
  have ta : ddot s s * t.a = ddot t s * s.a := by unfold cross at c2; unfold ddot; grind
  have tb : ddot s s * t.b = ddot t s * s.b := by unfold cross at c2; unfold ddot; grind
  have sv : v * ddot s s = -(u * ddot r s + m * ddot t s) := by
    have : u * ddot r s + v * ddot s s + m * ddot t s = 0 := by unfold ddot; grind
    omega
  generalize hS : ddot s s = S at *
  generalize hA : ddot r s = A at *
  generalize hB : ddot t s = B at *
  have e : u * (S * r.c + -A * s.c) + m * (S * t.c + -B * s.c) < 0 := by
    have id : u * (S * r.c + -A * s.c) + m * (S * t.c + -B * s.c) = S * (u * r.c + m * t.c) + (v * S) * s.c := by
      rw [sv]
      grind
    have id2 : S * (u * r.c + m * t.c) + (v * S) * s.c = S * (u * r.c + v * s.c + m * t.c) := by grind
    rw [id, id2]
    exact Int.mul_neg_of_pos_of_neg ss ec
  by_cases c : S * r.c + -A * s.c < 0
  · exact ⟨r, s, S, -A, hr, hs, ss, by omega, by grind, by grind, c⟩
  · refine ⟨t, s, S, -B, ht, hs, ss, by omega, by grind, by grind, ?_⟩
    have := Int.mul_nonneg (show 0 ≤ u by omega) (show 0 ≤ S * r.c + -A * s.c by omega)
    exact neg_of_mul hm (by omega)
theorem why_shape {R : List Row} (hz : ∀ r ∈ R, Nz r) {r s t : Row} {u v m : Int} (h : Why R r s t u v m) : (∃ r s p q, Why2 R r s p q) ∨ ∃ r s t, Why3 R r s t := by
  obtain ⟨hr, hs, ht, up, vn, mp, ea, eb, ec⟩ := h
  by_cases v0 : v = 0
  · subst v0
    exact .inl ⟨r, t, u, m, hr, ht, up, mp, by omega, by omega, by omega⟩
  have vp : 0 < v := by omega
  have e1 : u * cross r s = m * cross s t := by unfold cross; grind
  have e2 : u * cross t r = v * cross s t := by unfold cross; grind
  rcases Int.lt_trichotomy (cross s t) 0 with x | x | x
  · -- the other way round
    right
    have z : cross r s < 0 := neg_of_mul up (by rw [e1]; exact Int.mul_neg_of_pos_of_neg mp x)
    have y : cross t r < 0 := neg_of_mul up (by rw [e2]; exact Int.mul_neg_of_pos_of_neg vp x)
    have sw : ∀ a b : Row, cross a b = -(cross b a) := fun a b => by unfold cross; grind
    refine ⟨r, t, s, hr, ht, hs, by rw [sw]; omega, by rw [sw]; omega, by rw [sw]; omega, ?_⟩
    rw [sw t s, sw s r, sw r t]
    refine neg_of_mul up ?_
    have id : u * (-(cross s t) * r.c + -(cross r s) * t.c + -(cross t r) * s.c) = -(cross s t) * (u * r.c + v * s.c + m * t.c) := by
      have : u * (-(cross s t) * r.c + -(cross r s) * t.c + -(cross t r) * s.c) = -(cross s t) * (u * r.c) - (u * cross r s) * t.c - (u * cross t r) * s.c := by grind
      rw [this, e1, e2]
      grind
    rw [id]
    exact Int.mul_neg_of_pos_of_neg (by omega) ec
  · -- all run the same way
    left
    have z : cross r s = 0 := by
      rw [x, Int.mul_zero] at e1
      rcases Int.mul_eq_zero.mp e1 with k | k
      · omega
      · exact k
    have y : cross t r = 0 := by
      rw [x, Int.mul_zero] at e2
      rcases Int.mul_eq_zero.mp e2 with k | k
      · omega
      · exact k
    have nr := hz r hr
    have ns := hz s hs
    have nt := hz t ht
    have sw : ∀ {a b : Row}, cross a b = 0 → cross b a = 0 := fun {a b} h => by unfold cross at h ⊢; grind
    have dsym : ∀ a b : Row, ddot a b = ddot b a := fun a b => by unfold ddot; grind
    have d1 := ddot_ne nr ns z
    have d2 := ddot_ne ns nt x
    have d3 := ddot_ne nt nr y
    have sum : u * ddot r r + v * ddot r s + m * ddot t r = 0 := by unfold ddot; grind
    have sum2 : u * ddot r s + v * ddot s s + m * ddot s t = 0 := by unfold ddot; grind
    have sum3 : u * ddot t r + v * ddot s t + m * ddot t t = 0 := by unfold ddot; grind
    have rr := Int.mul_pos up (ddot_pos nr)
    have ss := Int.mul_pos vp (ddot_pos ns)
    have tt := Int.mul_pos mp (ddot_pos nt)
    by_cases a : ddot r s < 0
    · by_cases b : ddot t r < 0
      · -- r against s and t
        exact against (r := s) (s := r) (t := t) hs hr ht ns nr nt vp up mp (sw z) y (by rw [dsym]; exact a) b (by omega) (by omega) (by omega)
      · -- s against r and t
        have c : ddot s t < 0 := by
          have p := Int.mul_pos mp (show 0 < ddot t r by omega)
          -- v (t.s) = -(m |t|^2 + u (t.r))
          have p2 := Int.mul_pos up (show 0 < ddot t r by omega)
          exact neg_of_mul vp (by omega)
        exact against (r := r) (s := s) (t := t) hr hs ht nr ns nt up vp mp z (sw x) a (by rw [dsym]; exact c) ea eb ec
    · -- t against r and s
      have b : ddot t r < 0 := by
        have p := Int.mul_pos vp (show 0 < ddot r s by omega)
        exact neg_of_mul mp (by omega)
      have c : ddot s t < 0 := by
        have p := Int.mul_pos up (show 0 < ddot r s by omega)
        exact neg_of_mul mp (by omega)
      exact against (r := r) (s := t) (t := s) hr ht hs nr nt ns up mp vp (sw y) x (by rw [dsym]; exact b) c (by omega) (by omega) (by omega)
  · right
    have z : 0 < cross r s := by
      apply Classical.byContradiction
      intro n
      have := Int.mul_nonpos_of_nonneg_of_nonpos (show 0 ≤ u by omega) (show cross r s ≤ 0 by omega)
      have := Int.mul_pos mp x
      omega
    have y : 0 < cross t r := by
      apply Classical.byContradiction
      intro n
      have := Int.mul_nonpos_of_nonneg_of_nonpos (show 0 ≤ u by omega) (show cross t r ≤ 0 by omega)
      have := Int.mul_pos vp x
      omega
    refine ⟨r, s, t, hr, hs, ht, x, y, z, neg_of_mul up ?_⟩
    have id : u * (cross s t * r.c + cross t r * s.c + cross r s * t.c) = cross s t * (u * r.c + v * s.c + m * t.c) := by
      have : u * (cross s t * r.c + cross t r * s.c + cross r s * t.c) = cross s t * (u * r.c) + (u * cross t r) * s.c + (u * cross r s) * t.c := by grind
      rw [this, e1, e2]
      grind
    rw [id]
    exact Int.mul_neg_of_pos_of_neg x ec
/-- of a field: something is kept, or this -/
theorem nothing_shape {n : Int} (hn : 0 ≤ n) {fs : List Row} (hf : ∀ r ∈ fs, Nz r) (h : ∀ p, ¬ Kept (rowsOf n fs) p) : (∃ r s p q, Why2 (rowsOf n fs) r s p q) ∨ ∃ r s t, Why3 (rowsOf n fs) r s t := by
  have hB : Held (edgesR n) := held_rows n []
  have k0 : Kept (edgesR n) ⟨0, 0, 1⟩ := by
    refine ⟨by decide, fun r hr => ?_⟩
    simp only [edgesR, List.mem_cons, List.not_mem_nil, or_false] at hr
    rcases hr with e | e | e | e <;> rw [e] <;> unfold rch <;> simp only <;> omega
  rcases why_or hB edges_nz k0 fs hf with ⟨p, k⟩ | ⟨r, s, t, u, v, m, w⟩
  · exact absurd k (h p)
  · exact why_shape (rows_nz hf) w
/-! ### nothing lies farther -/
/-- one row that runs as the way -/
structure Far1 (R : List Row) (p : Pt) (f : Fn) (r : Row) (u m : Int) : Prop where
  hr : r ∈ R
  zr : rch r p = 0
  up : 0 < u
  mp : 0 < m
  ea : u * r.a = m * f.α
  eb : u * r.b = m * f.β
/-- two rows with the way between them -/
structure Far2 (R : List Row) (p : Pt) (f : Fn) (r s : Row) : Prop where
  hr : r ∈ R
  hs : s ∈ R
  zr : rch r p = 0
  zs : rch s p = 0
  c : 0 < cross r s
  x : 0 < f.α * s.b - f.β * s.a
  y : 0 < r.a * f.β - r.b * f.α
theorem far2_sum (f : Fn) (r s : Row) : (f.α * s.b - f.β * s.a) * r.a + (r.a * f.β - r.b * f.α) * s.a = cross r s * f.α ∧ (f.α * s.b - f.β * s.a) * r.b + (r.a * f.β - r.b * f.α) * s.b = cross r s * f.β := by
  unfold cross
  constructor <;> grind
theorem pos_of_eq {k x y : Int} (hk : 0 < k) (h : k * x = y) (hy : 0 < y) : 0 < x := by
  apply Classical.byContradiction
  intro n
  have := Int.mul_nonpos_of_nonneg_of_nonpos (show 0 ≤ k by omega) (show x ≤ 0 by omega)
  omega
theorem far_shape {R : List Row} (hz : ∀ r ∈ R, Nz r) {p : Pt} {f : Fn} (hf : ¬ (f.α = 0 ∧ f.β = 0)) {r s : Row} {u v m : Int} (d : Dual R p f r s u v m) : (∃ r u m, Far1 R p f r u m) ∨ ∃ r s, Far2 R p f r s := by
  obtain ⟨hr, hs, pos, up, vn, zr, zs, ea, eb⟩ := d
  by_cases v0 : v = 0
  · subst v0
    exact .inl ⟨r, u, m, hr, zr, up, pos, by omega, by omega⟩
  have vp : 0 < v := by omega
  have ex : u * cross r s = m * (f.α * s.b - f.β * s.a) := by unfold cross; grind
  have ey : v * cross r s = m * (r.a * f.β - r.b * f.α) := by unfold cross; grind
  rcases Int.lt_trichotomy (cross r s) 0 with c | c | c
  · right
    refine ⟨s, r, hs, hr, zs, zr, ?_, ?_, ?_⟩
    · have : cross s r = -(cross r s) := by unfold cross; grind
      omega
    · have h1 : m * (r.a * f.β - r.b * f.α) < 0 := by rw [← ey]; exact Int.mul_neg_of_pos_of_neg vp c
      have := neg_of_mul pos h1
      grind
    · have h1 : m * (f.α * s.b - f.β * s.a) < 0 := by rw [← ex]; exact Int.mul_neg_of_pos_of_neg up c
      have := neg_of_mul pos h1
      grind
  · left
    -- all run the same way; one of the two as the way
    rw [c, Int.mul_zero] at ex ey
    have x0 : f.α * s.b - f.β * s.a = 0 := by
      rcases Int.mul_eq_zero.mp ex.symm with k | k
      · omega
      · exact k
    have y0 : r.a * f.β - r.b * f.α = 0 := by
      rcases Int.mul_eq_zero.mp ey.symm with k | k
      · omega
      · exact k
    have ff : 0 < ddot ⟨f.α, f.β, 0⟩ ⟨f.α, f.β, 0⟩ := ddot_pos hf
    have ff : 0 < f.α * f.α + f.β * f.β := ff
    have sum : u * (r.a * f.α + r.b * f.β) + v * (s.a * f.α + s.b * f.β) = m * (f.α * f.α + f.β * f.β) := by grind
    have mf := Int.mul_pos pos ff
    by_cases h : 0 < r.a * f.α + r.b * f.β
    · exact ⟨r, f.α * f.α + f.β * f.β, r.a * f.α + r.b * f.β, hr, zr, ff, h, by grind, by grind⟩
    · have h2 : 0 < s.a * f.α + s.b * f.β := by
        have h3 := Int.mul_nonpos_of_nonneg_of_nonpos (show 0 ≤ u by omega) (show r.a * f.α + r.b * f.β ≤ 0 by omega)
        exact pos_of_eq vp (y := m * (f.α * f.α + f.β * f.β) - u * (r.a * f.α + r.b * f.β)) (by omega) (by omega)
      exact ⟨s, f.α * f.α + f.β * f.β, s.a * f.α + s.b * f.β, hs, zs, ff, h2, by grind, by grind⟩
  · right
    exact ⟨r, s, hr, hs, zr, zs, c, pos_of_eq pos ex.symm (Int.mul_pos up c), pos_of_eq pos ey.symm (Int.mul_pos vp c)⟩
/-- at the farthest corner -/
theorem farthest_shape {R : List Row} (hR : Held R) (hz : ∀ r ∈ R, Nz r) {qs : List Pt} (t : Told R qs) {q : Pt} (hq : q ∈ qs) {f : Fn} (hf : ¬ (f.α = 0 ∧ f.β = 0)) (most : ∀ p ∈ qs, f.le p q) : (∃ r u m, Far1 R q f r u m) ∨ ∃ r s, Far2 R q f r s := by
  have kq := (t.corner q hq).kept
  obtain ⟨r, s, u, v, m, d⟩ := dual_of hR kq hf fun z kz => by
    obtain ⟨c, kc, l⟩ := far_corner hR hz kz f
    obtain ⟨c', hc', s⟩ := t.all c kc
    exact Fn.le_trans kz.pos kc.kept.pos kq.pos l (Fn.le_trans kc.kept.pos (t.low c' hc').1 kq.pos (s.fle f) (most c' hc'))
  exact far_shape hz hf d
end LG

namespace LG
/-! ### the lowest one; the others by how many lie on the right -/
theorem lower_iff {p q : Pt} : lower p q ↔ p.y * q.w < q.y * p.w ∨ (p.y * q.w = q.y * p.w ∧ p.x * q.w < q.x * p.w) := by
  unfold lower
  by_cases c : p.y * q.w ≠ q.y * p.w
  · rw [if_pos c]
    constructor
    · exact .inl
    · rintro (h | ⟨h, _⟩)
      · exact h
      · exact absurd h c
  · rw [if_neg c]
    have c : p.y * q.w = q.y * p.w := Classical.not_not.mp c
    constructor
    · exact fun h => .inr ⟨c, h⟩
    · rintro (h | ⟨_, h⟩)
      · omega
      · exact h
theorem frac_lt_le {a b c d e f : Int} (hb : 0 < b) (hd : 0 < d) (hf : 0 < f) (h1 : a * d < c * b) (h2 : c * f ≤ e * d) : a * f < e * b := by
  have x1 : a * d * f < c * b * f := Int.mul_lt_mul_of_pos_right h1 hf
  have x2 : c * f * b ≤ e * d * b := Int.mul_le_mul_of_nonneg_right h2 (by omega)
  have e1 : a * d * f = a * f * d := by rw [Int.mul_assoc, Int.mul_comm d f, ← Int.mul_assoc]
  have e2 : c * b * f = c * f * b := by rw [Int.mul_assoc, Int.mul_comm b f, ← Int.mul_assoc]
  have e3 : e * d * b = e * b * d := by rw [Int.mul_assoc, Int.mul_comm d b, ← Int.mul_assoc]
  have : a * f * d < e * b * d := by omega
  exact Int.lt_of_mul_lt_mul_right this (by omega)
theorem frac_le_lt {a b c d e f : Int} (hb : 0 < b) (hd : 0 < d) (hf : 0 < f) (h1 : a * d ≤ c * b) (h2 : c * f < e * d) : a * f < e * b := by
  have x1 : a * d * f ≤ c * b * f := Int.mul_le_mul_of_nonneg_right h1 (by omega)
  have x2 : c * f * b < e * d * b := Int.mul_lt_mul_of_pos_right h2 hb
  have e1 : a * d * f = a * f * d := by rw [Int.mul_assoc, Int.mul_comm d f, ← Int.mul_assoc]
  have e2 : c * b * f = c * f * b := by rw [Int.mul_assoc, Int.mul_comm b f, ← Int.mul_assoc]
  have e3 : e * d * b = e * b * d := by rw [Int.mul_assoc, Int.mul_comm d b, ← Int.mul_assoc]
  have : a * f * d < e * b * d := by omega
  exact Int.lt_of_mul_lt_mul_right this (by omega)
theorem frac_eq {a b c d e f : Int} (hd : 0 < d) (h1 : a * d = c * b) (h2 : c * f = e * d) : a * f = e * b := by
  have e1 : a * f * d = e * b * d := by
    calc a * f * d = a * d * f := by rw [Int.mul_assoc, Int.mul_comm f d, ← Int.mul_assoc]
      _ = c * b * f := by rw [h1]
      _ = c * f * b := by rw [Int.mul_assoc, Int.mul_comm b f, ← Int.mul_assoc]
      _ = e * d * b := by rw [h2]
      _ = e * b * d := by rw [Int.mul_assoc, Int.mul_comm d b, ← Int.mul_assoc]
  exact Int.eq_of_mul_eq_mul_right (by omega) e1
theorem lower_trans {p q r : Pt} (hp : 0 < p.w) (hq : 0 < q.w) (hr : 0 < r.w) (h1 : lower p q) (h2 : lower q r) : lower p r := by
  rw [lower_iff] at h1 h2 ⊢
  rcases h1 with h1 | ⟨e1, h1⟩
  · rcases h2 with h2 | ⟨e2, h2⟩
    · exact .inl (frac_lt_le hp hq hr h1 (by omega))
    · exact .inl (frac_lt_le hp hq hr h1 (by omega))
  · rcases h2 with h2 | ⟨e2, h2⟩
    · exact .inl (frac_le_lt hp hq hr (by omega) h2)
    · exact .inr ⟨frac_eq hq e1 e2, frac_lt_le hp hq hr h1 (by omega)⟩
theorem lower_total {p q : Pt} (lp : LowP p) (lq : LowP q) (ne : p ≠ q) (h : ¬ lower q p) : lower p q := by
  rw [lower_iff] at h ⊢
  by_cases c : p.y * q.w < q.y * p.w
  · exact .inl c
  · have c1 : ¬ q.y * p.w < p.y * q.w := fun z => h (.inl z)
    have ey : p.y * q.w = q.y * p.w := by omega
    refine .inr ⟨ey, ?_⟩
    by_cases d : p.x * q.w < q.x * p.w
    · exact d
    · have d1 : ¬ q.x * p.w < p.x * q.w := fun z => h (.inr ⟨ey.symm, z⟩)
      exact absurd (low_eq lp lq ⟨by omega, ey⟩) ne
theorem tri_swapR (a b c : Pt) : tri a c b = - tri a b c := by
  unfold tri
  grind
theorem tri_twoR (a b : Pt) : tri a b b = 0 := by
  unfold tri
  grind
/-- fewer -/
theorem filter_less {α : Type} {p q : α → Bool} : ∀ {l : List α}, (∀ x ∈ l, p x = true → q x = true) → (∃ x ∈ l, q x = true ∧ p x = false) → (l.filter p).length < (l.filter q).length
  | [], _, ⟨x, hx, _⟩ => absurd hx List.not_mem_nil
  | y :: l, h, ⟨x, hx, h1, h2⟩ => by
    have le : ∀ l : List α, (∀ x ∈ l, p x = true → q x = true) → (l.filter p).length ≤ (l.filter q).length := by
      intro l
      induction l with
      | nil => exact fun _ => Nat.le_refl _
      | cons z l ih =>
        intro h
        have i := ih fun x hx => h x (List.mem_cons_of_mem _ hx)
        rw [List.filter_cons, List.filter_cons]
        by_cases pz : p z = true
        · rw [if_pos pz, if_pos (h z List.mem_cons_self pz)]
          exact Nat.succ_le_succ i
        · rw [if_neg pz]
          split
          · exact Nat.le_trans i (Nat.le_succ _)
          · exact i
    have hl : ∀ x ∈ l, p x = true → q x = true := fun x hx => h x (List.mem_cons_of_mem _ hx)
    rw [List.filter_cons, List.filter_cons]
    rcases List.mem_cons.mp hx with e | e
    · subst e
      rw [if_neg (by rw [h2]; decide), if_pos h1]
      exact Nat.lt_succ_of_le (le l hl)
    · have i := filter_less hl ⟨x, e, h1, h2⟩
      by_cases py : p y = true
      · rw [if_pos py, if_pos (h y List.mem_cons_self py)]
        exact Nat.succ_lt_succ i
      · rw [if_neg py]
        split
        · exact Nat.lt_of_lt_of_le i (Nat.le_succ _)
        · exact i
/-- how many lie on the right of the way from a to b -/
def rightOf (a : Pt) (os : List Pt) (b : Pt) : Nat := (os.filter fun c => decide (tri a b c < 0)).length
theorem right_less {a : Pt} {os : List Pt} (wa : 0 < a.w) (low : ∀ b ∈ os, lower a b) {b c : Pt} (hb : b ∈ os) (hc : c ∈ os) (h : 0 < tri a b c) : rightOf a os b < rightOf a os c := by
  refine filter_less (fun d hd e => ?_) ⟨b, hb, ?_, ?_⟩
  · have e : tri a b d < 0 := of_decide_eq_true e
    have e1 : 0 < tri a d b := by rw [tri_swapR]; omega
    have e2 := turn_trans wa (low d hd) (low b hb) (low c hc) e1 h
    have e3 := tri_swapR a d c
    exact decide_eq_true (by omega)
  · have e3 := tri_swapR a b c
    exact decide_eq_true (by omega)
  · rw [tri_twoR]
    rfl
/-- the corners, the lowest one first, the others in the order of how many lie on the right -/
theorem told_by {R : List Row} {a : Pt} {os ss : List Pt} (low : ∀ q ∈ a :: os, LowP q) (corner : ∀ q ∈ a :: os, Corner R q) (all : ∀ q, Corner R q → ∃ c ∈ a :: os, Sim q c) (nd : (a :: os).Nodup) (first : ∀ q ∈ os, ¬ lower q a)
    (perm : ss.Perm os) (sorted : ss.Pairwise fun b c => rightOf a os b ≤ rightOf a os c) : Told R (a :: ss) := by
  have mem : ∀ q, q ∈ a :: ss ↔ q ∈ a :: os := fun q => (perm.cons a).mem_iff
  have nd' : (a :: ss).Nodup := (perm.cons a).nodup_iff.mpr nd
  have la := low a List.mem_cons_self
  have lows : ∀ q ∈ os, lower a q := fun q hq => lower_total la (low q (List.mem_cons_of_mem _ hq)) (fun e => (List.nodup_cons.mp nd).1 (e ▸ hq)) (first q hq)
  refine told_of (fun q hq => low q ((mem q).mp hq)) (fun q hq => corner q ((mem q).mp hq)) (fun q hq => ?_) nd' (fun q hq => lows q (perm.mem_iff.mp hq)) ?_
  · obtain ⟨c, hc, s⟩ := all q hq
    exact ⟨c, (mem c).mpr hc, s⟩
  · have nds := (List.nodup_cons.mp nd').2
    have anot := (List.nodup_cons.mp nd').1
    have go : ∀ l : List Pt, l.Pairwise (fun b c => rightOf a os b ≤ rightOf a os c) → l.Nodup → (∀ q ∈ l, q ∈ ss) → l.Pairwise fun b c => 0 < tri a b c := by
      intro l
      induction l with
      | nil => exact fun _ _ _ => .nil
      | cons b l ih =>
        intro h1 h2 h3
        obtain ⟨h4, h5⟩ := List.pairwise_cons.mp h1
        obtain ⟨h6, h7⟩ := List.nodup_cons.mp h2
        refine List.pairwise_cons.mpr ⟨fun c hc => ?_, ih h5 h7 fun q hq => h3 q (List.mem_cons_of_mem _ hq)⟩
        have hb := h3 b List.mem_cons_self
        have hcs := h3 c (List.mem_cons_of_mem _ hc)
        have mb := List.mem_cons_of_mem a hb
        have mc := List.mem_cons_of_mem a hcs
        have ap := tri_apart la (low b ((mem b).mp mb)) (low c ((mem c).mp mc)) (corner a List.mem_cons_self) (corner b ((mem b).mp mb)) (corner c ((mem c).mp mc)) (fun e => anot (e ▸ hb)) (fun e => anot (e ▸ hcs)) (fun e => h6 (e ▸ hc))
        by_cases p : 0 < tri a b c
        · exact p
        · have e3 := tri_swapR a b c
          have := right_less la.1 lows (perm.mem_iff.mp hcs) (perm.mem_iff.mp hb) (show 0 < tri a c b by omega)
          have := h4 c hc
          omega
    exact go ss sorted nds fun q hq => hq
theorem corners_few {R : List Row} {qs : List Pt} (low : ∀ q ∈ qs, LowP q) (corner : ∀ q ∈ qs, Corner R q) (nodup : qs.Nodup) : qs.length ≤ R.length * R.length := by
  have nd : (qs.map toQ).Nodup := by
    refine List.nodup_iff_pairwise_ne.mpr ?_
    refine List.pairwise_map.mpr ?_
    refine (List.pairwise_iff_forall_sublist.mpr fun {a b} sub => ?_)
    intro e
    have ma := sub.subset (show a ∈ [a, b] by simp)
    have mb := sub.subset (show b ∈ [a, b] by simp)
    have eq := low_toQ (low a ma) (low b mb) e
    have nd2 := nodup.sublist sub
    rw [eq] at nd2
    simp at nd2
  have l : ((R.flatMap fun r => R.map fun s => meet r s).map toQ).length = R.length * R.length := by
    rw [List.length_map]
    exact flat_len _ _ R fun r _ => List.length_map ..
  rw [← l, ← List.length_map (f := toQ)]
  refine nodup_len nd fun x hx => ?_
  obtain ⟨q, hq, rfl⟩ := List.mem_map.mp hx
  have k := corner q hq
  obtain ⟨r, hr, s, hs, zr, zs, c⟩ := k.two
  have sm := meet_sim c zr zs
  refine List.mem_map.mpr ⟨meet r s, List.mem_flatMap.mpr ⟨r, hr, List.mem_map.mpr ⟨s, hs, rfl⟩⟩, ?_⟩
  exact (sim_toQ k.kept.pos (meet_pos c) sm).symm
end LG

namespace LG
/-! ### the area, from each corner to the one behind it -/
def nxt (n i : Nat) : Nat := if i + 1 = n then 0 else i + 1
theorem nxt_lt {n i : Nat} (h : i < n) : nxt n i < n := by
  unfold nxt
  split <;> omega
def fwd (l : List Q) : Nat → Rat
  | 0 => 0
  | i + 1 => fwd l i + cr (atQ l i) (atQ l (nxt l.length i))
theorem fwd_path (a : Q) (t : List Q) {i : Nat} (h : i ≤ t.length) : fwd (a :: t) i = psum a (t.take i) := by
  induction i with
  | zero => rfl
  | succ i ih =>
    have ih := ih (by omega)
    show fwd (a :: t) i + cr (atQ (a :: t) i) (atQ (a :: t) (nxt (a :: t).length i)) = _
    have hl : i < t.length := by omega
    have e1 : nxt (a :: t).length i = i + 1 := by
      unfold nxt
      rw [if_neg (by rw [List.length_cons]; omega)]
    have e2 : t.take (i + 1) = t.take i ++ [t[i]] := by
      rw [List.take_add_one, List.getElem?_eq_getElem hl]
      rfl
    have e3 : atQ (a :: t) (i + 1) = t[i] := by
      rw [atQ_get (by simp only [List.length_cons]; omega)]
      rfl
    rw [ih, e1, e2, psum_app, lastD_take a t (by omega), e3]
    show _ = psum a (t.take i) + cr (atQ (a :: t) i) t[i] + 0
    grind
theorem fwd_all (l : List Q) : fwd l l.length = S l := by
  cases l with
  | nil => rfl
  | cons a t =>
    show fwd (a :: t) t.length + cr (atQ (a :: t) t.length) (atQ (a :: t) (nxt (t.length + 1) t.length)) = _
    have e : nxt (t.length + 1) t.length = 0 := by
      unfold nxt
      rw [if_pos rfl]
    have l := lastD_take a t (Nat.le_refl _)
    rw [List.take_length] at l
    rw [fwd_path a t (Nat.le_refl _), List.take_length, e, S_cons, l]
    rfl
theorem ar_S (l : List Q) : Ar l = S l := by
  unfold Ar
  split
  · rfl
  · next h =>
    match l, h with
    | [], _ => rfl
    | [a], _ =>
      rw [S_cons]
      show (0 : Rat) = 0 + cr a a
      unfold cr
      grind
    | [a, b], _ =>
      rw [S_cons]
      show (0 : Rat) = (cr a b + 0) + cr b a
      unfold cr
      grind
    | _ :: _ :: _ :: _, h => exact absurd (by simp only [List.length_cons]; omega) h
end LG

namespace LL
open PySem PySem.Spec PySem.Calls PyProof.Rows L2
/-! ### a def of the top, by its name -/
abbrev FnP (K : PySem.W.Frag) (x : Str) (st : Stmt) (fd : FuncData) : Prop := FunD K x x (defArgs st) (defBody st) (defScope st) [] [] (He.ga K x) fd
/-- the def x keeps the promise sp -/
structure Good (P : Program) (w : World) (K : PySem.W.Frag) (mg : Str → Option Value) (base : Heap) (CX : CXT) (k : Nat) (x : Str) (ps : List Str) (sp : Sp) : Prop where
  g : mg x = some (.ref (He.ga K x))
  kp : PySem.W.keepIn K (.ref (He.ga K x)) = true
  ex : ∃ fd, Binds K fd ps [] ∧ FnOk P w K mg base CX k (He.ga K x) fd ps sp
section
variable {X : Cx} {k : Nat} {x : Str} {ps : List Str} {sp : Sp} {e : Expr} {es : List Expr} {t : TA} {p pos : Pos}
/-- a call of a def that lets nothing out -/
theorem pe_own (C : Good X.prog X.w X.K X.mg X.base CX0 k x ps sp) (hr : Room k X.A) (hg : Gl X x) (ha : PA X (e :: es) t) (hdb : (x == ("__debug__" : Str)) = false := by decide)
    (he : starEach (e :: es) X.env = (false, eval e X.env) :: starEach es X.env := by rfl) (hpl : (backTo pos (starEach es X.env)).any (·.1) = false := by rfl) :
    PE X (.Call (.Name x p) (e :: es) [] pos) (tCall sp [] E0 t) := by
  obtain ⟨fd, b, G⟩ := C.ex
  exact pe_call G hr hg C.g C.kp b .nil pass0 ha hdb he hpl
/-- a call of a def that might let an error out, where it lets none out -/
theorem pe_ownL (C : Good X.prog X.w X.K X.mg X.base (L2.CX X.prog X.w) k x ps sp) (hr : Room k X.A) (hg : Gl X x) (ha : PA X (e :: es) t) (hdb : (x == ("__debug__" : Str)) = false := by decide)
    (he : starEach (e :: es) X.env = (false, eval e X.env) :: starEach es X.env := by rfl) (hpl : (backTo pos (starEach es X.env)).any (·.1) = false := by rfl) :
    PE X (.Call (.Name x p) (e :: es) [] pos) (tCall sp [] E0 t) := by
  obtain ⟨fd, b, G⟩ := C.ex
  exact pe_call G hr hg C.g C.kp b .nil passL ha hdb he hpl
/-- .. where an error goes on its way -/
theorem pe_ownR {W : WX} {E : XK} (C : Good X.prog X.w X.K X.mg X.base (L2.CX X.prog X.w) k x ps sp) (hr : Room k X.A) (tk : Takes X W) (hW : ∀ cls d σ H, E cls d H → W cls d σ H) (hg : Gl X x) (ha : PA X (e :: es) t) (hdb : (x == ("__debug__" : Str)) = false := by decide)
    (he : starEach (e :: es) X.env = (false, eval e X.env) :: starEach es X.env := by rfl) (hpl : (backTo pos (starEach es X.env)).any (·.1) = false := by rfl) :
    PE X (.Call (.Name x p) (e :: es) [] pos) (tCall sp [] E t) := by
  obtain ⟨fd, b, G⟩ := C.ex
  exact pe_call G hr hg C.g C.kp b .nil (passes_call tk hW) ha hdb he hpl
/-- .. in a try -/
theorem pe_ownS {W : WX} (C : Good X.prog X.w X.K X.mg X.base (L2.CX X.prog X.w) k x ps sp) (hr : Room k X.A) (tk : Takes X W) (hg : Gl X x) (ha : PA X (e :: es) t) (hdb : (x == ("__debug__" : Str)) = false := by decide)
    (he : starEach (e :: es) X.env = (false, eval e X.env) :: starEach es X.env := by rfl) (hpl : (backTo pos (starEach es X.env)).any (·.1) = false := by rfl) :
    PE X (.Call (.Name x p) (e :: es) [] pos) (tCallS sp (WE W) t) := by
  obtain ⟨fd, b, G⟩ := C.ex
  exact pe_callS G hr hg C.g C.kp b (fun σ => passAt tk σ) ha hdb he hpl
end
/-- what the facts of the head say of a def -/
theorem FnP.mk {fa : List He.Fa} {fn : List He.DefD} {K : PySem.W.Frag} (c : He.SaysD fa fn K) {x : Str} {st : Stmt} (h : (⟨(x, none), x, x, defArgs st, defBody st, defScope st, [], []⟩ : He.DefD) ∈ fn) : ∃ fd, FnP K x st fd := by
  obtain ⟨fd, F⟩ := c.defs h
  exact ⟨fd, F⟩
/-! ### math.gcd of three -/
theorem args_gcd3 (a b c : Value) : argsOk "math.gcd" ⟨[a, b, c], []⟩ := by unfold argsOk; kernel_rfl
theorem run_gcd3 (a : Int) (t : Tok) (b : Int) (u : Tok) (c : Int) (v : Tok) : Gives (Builtin.«math.gcd» ⟨[.int a t, .int b u, .int c v], []⟩) (.int (((((Nat.gcd 0 a.natAbs).gcd b.natAbs).gcd c.natAbs : Nat) : Int))) :=
  .of_wp fun M A E s Q h => by
    obtain ⟨hp, g, d, tk, os⟩ := s
    wp_walk
    exact ⟨_, rfl, h⟩
def rGcd3 : List V → Hp → VK → Prop := fun vs H Q => ∃ a b c : Int, vs = [.int a, .int b, .int c] ∧ Q (.int (((Nat.gcd a.natAbs b.natAbs).gcd c.natAbs : Nat) : Int)) H
theorem call_gcd3 {X : Cx} : CallR X (.builtin "math.gcd") rGcd3 := by
  intro pins s σ H vs us Q I r h
  obtain ⟨a, b, c, rfl, q⟩ := h
  cases r with
  | cons ra r =>
    obtain ⟨t, rfl⟩ := ra
    cases r with
    | cons rb r =>
      obtain ⟨u, rfl⟩ := rb
      cases r with
      | cons rc r =>
        obtain ⟨v, rfl⟩ := rc
        cases r
        have g := run_gcd3 a t b u c v
        rw [Nat.gcd_zero_left] at g
        exact call_function_meets PySem.W.MGF.kind_gcd PySem.W.MGF.plain_gcd PySem.W.MGF.entry_gcd (args_gcd3 _ _ _) g.meets ⟨.int _, H, I.tok _, ⟨_, rfl⟩, q⟩
end LL

namespace LL
open PySem PySem.Spec PySem.Calls PyProof.Rows L2
/-! ### isinstance of a pinned exception -/
theorem call_isP {X : Cx} {a D : Addr} {oe : Obj} (C : ExcC X.K D) (hp : (a, oe) ∈ X.pn) (hz : Zc (.ref D) none oe) (hf : ∃ vs, oe.data = .fields vs) : CallR X (.builtin "isinstance") (rIsE X.K D a) := by
  intro pins s σ H xs us Q I r h
  obtain ⟨c, cv, b, rfl, hcv, hb, q⟩ := h
  cases r with
  | cons rx r2 =>
    cases r2 with
    | cons rc r3 =>
      cases r3
      cases rx
      cases hcv _ rc
      have P1 := (I.pin (a, oe) (List.mem_append_left _ hp)).1
      have J : PySem.W.InstAt s.heap a oe D none := by
        obtain ⟨vs, hv⟩ := hf
        rcases oe with ⟨o1, o2, o3, o4⟩
        rcases hz with ⟨z1, z2⟩
        simp only at z1 z2 hv
        subst z1; subst z2; subst hv
        exact ⟨P1, rfl, rfl, trivial⟩
      have kit := PySem.W.handS_kitx_exc (x := a) (ox := oe) C.hg C.hk C.hs C.hd C.ha C.hn C.ht C.hm
      exact PySem.W.kia_one kit I.kIn J hb (fun z => by cases z) fun tk => ⟨V.bl b, H, I.kept (t' := tk) (fun _ _ z => z), rfl, q⟩
/-! ### a def that is handed the exception which its caller's suite holds -/
/-- what it promises: handed an error of the class at D, it hands back the text ans, and nothing that is tracked changes -/
structure Tells (P : Program) (w : World) (K : PySem.W.Frag) (mg : Str → Option Value) (base : Heap) (x : Str) (D : Addr) (ans : Str) : Prop where
  ex : ∃ (fd : FuncData) (y : Str), Binds K fd [y] [] ∧ ∀ (A : Around) (outer : List Env) (s : Shared) (H : Hp) (args : Args) (p : Addr × Obj) (Q : VK) (E : XK), A.depth < recursionLimit → L2H.PinOk outer H s p → Zc (.ref D) none p.2 → (∃ vs, p.2.data = .fields vs) →
    Env0 P w K mg base A outer s H → BindsTo s fd args ([y].zip [.ref p.1]) → Q (.str ans) H → codeAny (model P w) A (.call (.ref (He.ga K x)) args) (CR CX0 outer P w H s Q E) s
/-- a def's body, run with the exception pinned -/
theorem tells_run {P : Program} {w : World} {K : PySem.W.Frag} {mg : Str → Option Value} {base : Heap} {f : Addr} {name qual : Str} {params : Arguments} {body : List Stmt} {scope : Scope} {dV kV doc pm cdv ct oc : Value} {an od : Option Addr}
    {osl : Array (Option Value)} {N ps : List Str} {A : Around} {outer : List Env} {s : Shared} {H : Hp} {args : Args} {us : List Value} {vs : List V} {Q : VK} {E : XK} {p : Addr × Obj}
    (lk : K.lookup f = some ⟨oc, od, .func (PySem.W.fnOf name qual params body scope dV kV doc pm an cdv ct), osl⟩) (hcd : PySem.W.codeIn K cdv qual = true) (S : FnScope N ps scope) (hl : vs.length = ps.length) (room : A.depth < recursionLimit)
    (hpin : L2H.PinOk outer H s p) (e0 : Env0 P w K mg base A outer s H) (hb : BindsTo s (PySem.W.fnOf name qual params body scope dV kV doc pm an cdv ct) args (ps.zip us)) (r : Vals vs us)
    {t : TS} (ht : PSs (L2H.cxH CX0 P w K mg base N qual scope f cdv A outer s H E p) body t) (hq : t { nx := fun _ H' => Q .non H', rt := Q } (start N vs) H) :
    codeAny (model P w) A (.call (.ref f) args) (CR CX0 outer P w H s Q E) s := by
  have here : ∀ b o, base.get? b = some o → s.heap.get? b = some o := fun b o z => (e0.bs b o z).1
  have kin := e0.mod.kin.keeps here
  have hk : ∀ y ∈ ps.zip us, scope.names.lookup y.1 = some .local ∨ (scope.names.lookup y.1 = some .cell ∧ ((cellsFrom (s.heap.objs.size + 1) scope.names []).lookup y.1).isSome = true) := by
    intro y hy
    have hy1 : y.1 ∈ ps := (List.of_mem_zip (a := y.1) (b := y.2) hy).1
    cases S.par y.1 hy1 with
    | inl z => exact Or.inl z
    | inr z => exact Or.inr ⟨z, PySem.W.cellsFrom_some _ _ _ (Or.inl z)⟩
  apply codeAny_call_function room (kin _ _ lk) rfl S.co S.gen rfl (PySem.W.codeRec_of kin hcd)
  apply hb
  apply wpAny_newFunctionEnv_cells S.kind hk
  rintro env rfl s1 x
  refine ⟨(e0.mod.nolimit.keeps here).keeps x.toInCall.keep, ?_⟩
  apply codeAny_func
  have I := L2H.inv_startH (CX := CX0) (E := E) S hpin e0 hl r x
  refine wpAny_mono (ht.run [] s1 _ H _ I hq) ?_ (fun e s' z => z)
  have back : ∀ {σ' : L2.St} {H' : Hp} {v : V} {u : Value} {s' : Shared}, Inv (L2H.cxH CX0 P w K mg base N qual scope f cdv A outer s H E p) [] σ' H' s' → RelV v u → Q v H' → CE outer P w H s Q u s' := by
    intro σ' H' v u s' J rv q
    exact ⟨v, H', J.os, J.bare, J.base, J.hok, rv, q⟩
  intro fl s' hs
  match fl, hs with
  | .ret u, ⟨v, σ', H', J, rv, q⟩ => exact back J rv q
  | .next, ⟨σ', H', J, q⟩ => exact back (v := V.non) (u := Value.none) J rfl q
  | .brk, ⟨_, _, _, q⟩ => exact q.elim
  | .cont, ⟨_, _, _, q⟩ => exact q.elim
/-- f(e), e the exception that the suite holds (at a; its class cls, its dict d) -/
def tTell (P : Program) (w : World) (K : PySem.W.Frag) (mg : Str → Option Value) (base : Heap) (x : Str) (a : Addr) (cls : Value) (d : Option Addr) (ta : TA) : TE := fun σ H Q => ta σ H fun vs H1 => vs = [.ref a] ∧ d = none ∧ ∃ (D : Addr) (ans : Str), cls = .ref D ∧ Tells P w K mg base x D ans ∧ Q (.str ans) H1
theorem pe_tell {X : Cx} {a : Addr} {oe : Obj} {cls : Value} {d : Option Addr} {pn : List (Addr × Obj)} {x : Str} {e : Expr} {ta : TA} {p pos : Pos} (hm : X.mg x = some (.ref (He.ga X.K x))) (hk : PySem.W.keepIn X.K (.ref (He.ga X.K x)) = true)
    (hz : Zc cls d oe) (hf : ∃ vs, oe.data = .fields vs) (room : X.A.depth < recursionLimit) (hg : Gl X x)
    (ha : PA (X.suite a ((a, oe) :: pn)) [e] ta) (hdb : (x == ("__debug__" : Str)) = false := by decide) (hst : starEach [e] X.env = (false, eval e X.env) :: starEach [] X.env := by rfl) (hpl : (backTo pos (starEach [] X.env)).any (·.1) = false := by rfl) :
    PE (X.suite a ((a, oe) :: pn)) (.Call (.Name x p) [e] [] pos) (tTell X.prog X.w X.K X.mg X.base x a cls d ta) := by
  refine ⟨fun pins s σ H Q I h => ?_⟩
  refine wpAny_Call_Name_kw (ld_glob (X := X.suite a ((a, oe) :: pn)) I hg hm ?_ hdb)
  refine PySem.W.callWith_K (h₀ := X.base) I.ok.mod.kin hk (thn (ha.run pos pins s σ H _ I h) ?_) hst hpl
  rintro us s1 ⟨vs, H1, I1, r, rfl, rfl, D, ans, rfl, T, q⟩
  refine ⟨I1.kIn, ?_⟩
  obtain ⟨fd, y, b, run⟩ := T.ex
  cases r with
  | cons r1 r2 =>
    cases r2
    cases r1
    have P1 := I1.pin (a, oe) (List.mem_append_left _ List.mem_cons_self)
    have pin : L2H.PinOk (X.suite a ((a, oe) :: pn)).stack H1 s1 (a, oe) := by
      refine ⟨P1.1, P1.2.1, fun hm => ?_, P1.2.2.2.2⟩
      cases List.mem_cons.mp (I1.stkSub a hm) with
      | inl z => exact P1.2.2.1 z
      | inr z => exact P1.2.2.2.1 z
    have b1 := b s1 [.ref a] I1.kIn rfl
    refine wpAny_call (codeAny_mono (run _ _ s1 H1 _ (a, oe) Q E0 room pin hz hf I1.env0 b1 q) ?_)
    intro r s' hq
    match r, hq with
    | .ok (.ret u), hq => exact I1.after hq
/-! ### an error's class -/
structure ExcF (K : PySem.W.Frag) (mg : Str → Option Value) (n : Str) : Prop where
  g : mg n = some (.ref (He.ga K n))
  x : PySem.W.excIn K (He.ga K n) He.veBase "ValueError.__new__" = true
  k : PySem.W.keepIn K (.ref (He.ga K n)) = true
  b : PySem.W.subIn K (.ref (He.ga K n)) (.type "BaseException") = some true
  t : PySem.W.typeIn K (.ref (He.ga K n)) = some (.type "type")
theorem ExcF.mk' {K : PySem.W.Frag} {h : Heap} {mg : Str → Option Value} (X : K.In h) (G : h.Ns mainGlobals mg) {x : Str} (c1 : (He.Fa.glo x).ok K = true) (c2 : (He.Fa.exc x).ok K = true) : ExcF K mg x := by
  obtain ⟨h1, h2, h3, h4⟩ := He.exc_ok c2
  exact ⟨He.glo_ok X G c1, h1, h2, h3, h4⟩
/-! ### what isinstance asks of an error of the class at D -/
def excCB (K : PySem.W.Frag) (D : Addr) : Bool := He.eqO (PySem.W.findIn K (.ref D) "__getattribute__") (some (some (.builtin "BaseException.__getattribute__"))) && (He.eqO (PySem.W.findIn K (.ref D) "__getattr__") (some none) &&
  (decide (PySem.W.subIn K (.ref D) (.type "BaseException") = some true) && (PySem.W.hasDictIn K D && (He.eqO (PySem.W.findIn K (.ref D) "__class__") (some (some (.builtin "object.__class__"))) &&
  (He.eqO (PySem.W.specialIn K (.builtin "object.__class__") "__get__") (some (some (.builtin "getset_descriptor.__get__"))) && (decide (PySem.W.takesIn K (.builtin "object.__class__") = some true) && decide (PySem.W.mroIn K D (.type "object") = some true)))))))
theorem excCB_ok {K : PySem.W.Frag} {D : Addr} (h : excCB K D = true) : ExcC K D := by
  obtain ⟨h1, h⟩ := He.ba h
  obtain ⟨h2, h⟩ := He.ba h
  obtain ⟨h3, h⟩ := He.ba h
  obtain ⟨h4, h⟩ := He.ba h
  obtain ⟨h5, h⟩ := He.ba h
  obtain ⟨h6, h⟩ := He.ba h
  obtain ⟨h7, h8⟩ := He.ba h
  exact ⟨He.eqO_ok h1, He.eqO_ok h2, of_decide_eq_true h3, h4, He.eqO_ok h5, He.eqO_ok h6, of_decide_eq_true h7, of_decide_eq_true h8⟩
/-- isinstance's answers for an error of the class x: own classes by name, ValueError -/
def kitsB (K : PySem.W.Frag) (x : Str) (ys : List (Str × Bool)) : Bool := excCB K (He.ga K x) && (decide (PySem.W.kitOne K (.ref (He.ga K x)) (.type "ValueError") = some true) && ys.all fun y => decide (PySem.W.kitOne K (.ref (He.ga K x)) (.ref (He.ga K y.1)) = some y.2))
structure KitsF (K : PySem.W.Frag) (x : Str) (ys : List (Str × Bool)) : Prop where
  c : ExcC K (He.ga K x)
  v : PySem.W.kitOne K (.ref (He.ga K x)) (.type "ValueError") = some true
  y : ∀ y ∈ ys, PySem.W.kitOne K (.ref (He.ga K x)) (.ref (He.ga K y.1)) = some y.2
theorem KitsF.mk' {K : PySem.W.Frag} {x : Str} {ys : List (Str × Bool)} (h : kitsB K x ys = true) : KitsF K x ys := by
  obtain ⟨h1, h⟩ := He.ba h
  obtain ⟨h2, h3⟩ := He.ba h
  exact ⟨excCB_ok h1, of_decide_eq_true h2, fun y hy => of_decide_eq_true (List.all_eq_true.mp h3 y hy)⟩
/-- the module's name x is this built-in -/
def bltB (K : PySem.W.Frag) (x : Str) (id : String) : Bool := He.eqO (PySem.W.nsIn K mainGlobals x) (some (some (.builtin id)))
theorem bltB_ok {K : PySem.W.Frag} {h : Heap} {mg : Str → Option Value} (X : K.In h) (G : h.Ns mainGlobals mg) {x : Str} {id : String} (c : bltB K x id = true) : mg x = some (.builtin id) := PySem.W.mg_of X G (He.eqO_ok c)
/-! ### values: their kinds -/
/-- what a caller hands in: a number, a truth, a text, None, a tuple, a list, a dict -/
inductive Arg (H : Hp) : V → Prop where
  | int (i : Int) : Arg H (.int i)
  | bl (b : Bool) : Arg H (.bl b)
  | str (z : Str) : Arg H (.str z)
  | non : Arg H .non
  | tup {a : Addr} {xs : List V} (e : H a = some (.tup xs)) : Arg H (.ref a)
  | lst {a : Addr} {xs : List V} (e : H a = some (.lst xs)) : Arg H (.ref a)
  | dK {a : Addr} {xs : List (Key × V)} (e : H a = some (.dK xs)) : Arg H (.ref a)
/-- a whole number, and no truth -/
def isNum : V → Bool
  | .int _ => true
  | _ => false
theorem Arg.num {K : PySem.W.Frag} {H : Hp} {v : V} (a : Arg H v) : ∃ (t : Value) (b1 b2 : Bool), TyX K H v t ∧ PySem.W.kitOne K t (.type "int") = some b1 ∧ PySem.W.kitOne K t (.type "bool") = some b2 ∧ (b1 && !b2) = isNum v := by
  cases a with
  | int i => exact ⟨_, true, false, .base (.int i), kit_ty (by decide +kernel), kit_ty (by decide +kernel), rfl⟩
  | bl b => exact ⟨_, true, true, .base (.bl b), kit_ty (by decide +kernel), kit_ty (by decide +kernel), rfl⟩
  | str z => exact ⟨_, false, false, .base (.str z), kit_ty (by decide +kernel), kit_ty (by decide +kernel), rfl⟩
  | non => exact ⟨_, false, false, .base .non, kit_ty (by decide +kernel), kit_ty (by decide +kernel), rfl⟩
  | tup e => exact ⟨_, false, false, .base (.tup e), kit_ty (by decide +kernel), kit_ty (by decide +kernel), rfl⟩
  | lst e => exact ⟨_, false, false, .base (.lst e), kit_ty (by decide +kernel), kit_ty (by decide +kernel), rfl⟩
  | dK e => exact ⟨_, false, false, .base (.dK e), kit_ty (by decide +kernel), kit_ty (by decide +kernel), rfl⟩
/-- isinstance(x, tuple), isinstance(x, list) -/
def isTup (H : Hp) : V → Bool
  | .ref a => (match H a with | some (.tup _) => true | _ => false)
  | _ => false
theorem Arg.tuple {K : PySem.W.Frag} {H : Hp} {v : V} (a : Arg H v) : ∃ (t : Value), TyX K H v t ∧ PySem.W.kitOne K t (.type "tuple") = some (isTup H v) := by
  cases a with
  | int i => exact ⟨_, .base (.int i), kit_ty (r := false) (by decide +kernel)⟩
  | bl b => exact ⟨_, .base (.bl b), kit_ty (r := false) (by decide +kernel)⟩
  | str z => exact ⟨_, .base (.str z), kit_ty (r := false) (by decide +kernel)⟩
  | non => exact ⟨_, .base .non, kit_ty (r := false) (by decide +kernel)⟩
  | tup e => exact ⟨_, .base (.tup e), by simp only [isTup, e]; exact kit_ty (by decide +kernel)⟩
  | lst e => exact ⟨_, .base (.lst e), by simp only [isTup, e]; exact kit_ty (by decide +kernel)⟩
  | dK e => exact ⟨_, .base (.dK e), by simp only [isTup, e]; exact kit_ty (by decide +kernel)⟩
end LL

namespace LL
open PySem PySem.Spec PySem.Calls PyProof.Rows L2
/-! ### promises and readings of small defs -/
/-- is this a whole number, and no truth -/
def sp_num : Sp := fun vs H Q _ => ∃ v, vs = [v] ∧ Arg H v ∧ Q (.bl (isNum v)) H
theorem num_read {K : PySem.W.Frag} {vs : List V} {H : Hp} {Q : VK} {E : XK} {x : Str} (h : sp_num vs H Q E) :
    tRet (tAndV (tCB (rIsi K) (tCons (tVar 0) (tCons (tC (.ty "int")) tNil))) (tNotV (tCB (rIsi K) (tCons (tVar 0) (tCons (tC (.ty "bool")) tNil))))) { nx := fun _ H' => Q .non H', rt := Q } (start [x] vs) H := by
  obtain ⟨v, rfl, a, q⟩ := h
  obtain ⟨t, b1, b2, ty, k1, k2, e⟩ := a.num (K := K)
  refine ⟨_, rfl, _, _, t, _, b1, rfl, .ty _, ty, k1, _, rfl, ?_⟩
  rw [← e] at q
  cases b1 with
  | false => exact iteF q
  | true => exact iteT ⟨_, rfl, _, _, t, _, b2, rfl, .ty _, ty, k2, _, rfl, q⟩
/-! ### lists of numbers -/
def cell (ns : List Int) (k : Int) : Int := ns.getD k.toNat 0
theorem atI_ints {ns : List Int} {k : Int} (h0 : 0 ≤ k) (h : k < ns.length) : atI (ns.map V.int) k = some (.int (cell ns k)) := by
  obtain ⟨n, rfl⟩ : ∃ n : Nat, k = n := ⟨k.toNat, by omega⟩
  have hn : n < ns.length := by omega
  have e : (ns.map V.int)[n]? = some (.int (cell ns n)) := by
    rw [List.getElem?_map, List.getElem?_eq_getElem hn]
    simp [cell, List.getD, List.getElem?_eq_getElem hn]
  exact atI_nat e
def sp_cell (K : PySem.W.Frag) : Sp := fun vs H Q _ => ∃ (a : Addr) (ns : List Int) (k : Int), vs = [.ref a, .int k] ∧ SqL K H a (ns.map V.int) ∧ 0 ≤ k ∧ Q (.int (cell ns k)) H
/-! ### // by any number but 0 -/
def CDivA (_ j : Int) : Prop := j ≠ 0 ∧ j.natAbs.log2 < 9000
theorem op_fdivA {X : Cx} : OpR X (binaryOp .FloorDiv) (rI CDivA fun i j => .int (i.fdiv j)) := opI fun i j _ _ _ _ _ hc q => floordiv_int hc.1 q (.inl (PyProof.noPylong_of_log2 hc.2))
theorem divA {i j : Int} {b : Nat} (h : j ≠ 0) (hb : j.natAbs < 2 ^ b) (h0 : 0 < b) (h9 : b ≤ 9000) : CDivA i j := ⟨h, Nat.lt_of_lt_of_le (PySem.Flt.log2_lt_of h0 hb) h9⟩
/-! ### the greatest common part -/
def sp_shared : Sp := fun vs H Q _ => ∃ a b : Int, vs = [.int a, .int b] ∧ 0 ≤ a ∧ 0 ≤ b ∧ Q (.int ((Nat.gcd a.toNat b.toNat : Nat) : Int)) H
/-- three numbers in lowest terms, the last above 0 -/
def Low (x y b : Int) : Prop := 0 < b ∧ Nat.gcd x.natAbs (Nat.gcd y.natAbs b.natAbs) = 1
instance (x y b : Int) : Decidable (Low x y b) := inferInstanceAs (Decidable (_ ∧ _))
theorem gcd_low {x y b : Int} (hb : b ≠ 0) (s : Int) (hs : s = if b < 0 then -(((Nat.gcd (Nat.gcd x.natAbs y.natAbs) b.natAbs : Nat)) : Int) else ((Nat.gcd (Nat.gcd x.natAbs y.natAbs) b.natAbs : Nat) : Int)) :
    s ≠ 0 ∧ s.natAbs ≤ b.natAbs ∧ Low (x.fdiv s) (y.fdiv s) (b.fdiv s) ∧ x.fdiv s * b = x * b.fdiv s ∧ y.fdiv s * b = y * b.fdiv s := by
  have hn : 0 < b.natAbs := Int.natAbs_pos.mpr hb
  have g0 : 0 < Nat.gcd (Nat.gcd x.natAbs y.natAbs) b.natAbs := Nat.gcd_pos_of_pos_right _ hn
  have dx : Nat.gcd (Nat.gcd x.natAbs y.natAbs) b.natAbs ∣ x.natAbs := Nat.dvd_trans (Nat.gcd_dvd_left _ _) (Nat.gcd_dvd_left _ _)
  have dy : Nat.gcd (Nat.gcd x.natAbs y.natAbs) b.natAbs ∣ y.natAbs := Nat.dvd_trans (Nat.gcd_dvd_left _ _) (Nat.gcd_dvd_right _ _)
  have db : Nat.gcd (Nat.gcd x.natAbs y.natAbs) b.natAbs ∣ b.natAbs := Nat.gcd_dvd_right _ _
  generalize hg : Nat.gcd (Nat.gcd x.natAbs y.natAbs) b.natAbs = g at *
  have sabs : s.natAbs = g := by rw [hs]; split <;> omega
  have s0 : s ≠ 0 := by intro z; rw [z] at sabs; simp at sabs; omega
  have ex : s ∣ x := Int.natAbs_dvd_natAbs.mp (by rw [sabs]; exact dx)
  have ey : s ∣ y := Int.natAbs_dvd_natAbs.mp (by rw [sabs]; exact dy)
  have eb : s ∣ b := Int.natAbs_dvd_natAbs.mp (by rw [sabs]; exact db)
  obtain ⟨x1, rfl⟩ := ex
  obtain ⟨y1, rfl⟩ := ey
  obtain ⟨b1, rfl⟩ := eb
  have f : ∀ z : Int, (s * z).fdiv s = z := fun z => Int.mul_fdiv_cancel_left z s0
  rw [f, f, f]
  have b1p : 0 < b1 := by
    have hb1 : b1 ≠ 0 := fun z => hb (by rw [z, Int.mul_zero])
    by_cases c : s * b1 < 0
    · have sn : s < 0 := by rw [if_pos c] at hs; omega
      by_cases d : b1 < 0
      · have := Int.mul_pos_of_neg_of_neg sn d; omega
      · omega
    · have sp : 0 < s := by rw [if_neg c] at hs; omega
      by_cases d : b1 < 0
      · have := Int.mul_neg_of_pos_of_neg sp d; omega
      · omega
  refine ⟨s0, ?_, ⟨b1p, ?_⟩, ?_, ?_⟩
  · rw [sabs]; exact Nat.le_of_dvd hn db
  · have e : Nat.gcd (Nat.gcd (s * x1).natAbs (s * y1).natAbs) (s * b1).natAbs = s.natAbs * Nat.gcd (Nat.gcd x1.natAbs y1.natAbs) b1.natAbs := by
      rw [Int.natAbs_mul, Int.natAbs_mul, Int.natAbs_mul, Nat.gcd_mul_left, Nat.gcd_mul_left]
    rw [hg, sabs] at e
    have e1 : Nat.gcd (Nat.gcd x1.natAbs y1.natAbs) b1.natAbs = 1 := by
      have : g * 1 = g * Nat.gcd (Nat.gcd x1.natAbs y1.natAbs) b1.natAbs := by rw [Nat.mul_one]; exact e
      exact (Nat.eq_of_mul_eq_mul_left g0 this).symm
    rw [← Nat.gcd_assoc]
    exact e1
  · rw [← Int.mul_assoc, Int.mul_comm x1 s]
  · rw [← Int.mul_assoc, Int.mul_comm y1 s]
theorem natAbs_lt {x : Int} {b n : Nat} (h : x.natAbs ≤ n) (hn : n < 2 ^ b) : x.natAbs < 2 ^ b := Nat.lt_of_le_of_lt h hn
/-- the spot, of numbers that are good; else the refusal -/
def sp_spot_of (K : PySem.W.Frag) : Sp := fun vs H Q E => ∃ x y b : V, vs = [x, y, b] ∧ Arg H x ∧ Arg H y ∧ Arg H b ∧
  (((isNum x && isNum y && isNum b) = false ∨ b = .int 0) → E (.ref (He.ga K "BadSpot")) none H) ∧
  (∀ i j k : Int, x = .int i → y = .int j → b = .int k → k ≠ 0 → k.natAbs < 2 ^ 8000 ∧ ∀ (X Y B : Int) (p : Addr), Low X Y B → X * k = i * B → Y * k = j * B → H p = none → Q (.ref p) (upd H p (.tup [.int X, .int Y, .int B])))
theorem big8000 {n m : Nat} (h : n ≤ m) (hm : m < 2 ^ 200) : n < 2 ^ 8000 := Nat.lt_of_lt_of_le (Nat.lt_of_le_of_lt h hm) (Nat.pow_le_pow_right (by decide) (show 200 ≤ 8000 by decide))
/-! ### heaps, joins -/
/-! ### heaps that keep what stood (a table of code objects may have grown) -/
def lamQ : Str := "corners_between.<locals>.<lambda>"
def TabQ (H : Hp) (ps : Array Value) (q : Str) : Prop := TriplesOk ps.toList ∧ ∀ (pos : Pos) (cv : Value), codeAmong pos ps.toList = some cv → ∃ c, cv = .ref c ∧ H c = some (LamX.CodeO c q)
def KeptO (H H' : Hp) (b : Addr) : HO → Prop
  | .tbl ps => ∃ ps', H' b = some (.tbl ps') ∧ (TabQ H ps lamQ → TabQ H' ps' lamQ)
  | o => H' b = some o
def Same (H H' : Hp) : Prop := ∀ b o, H b = some o → KeptO H H' b o
theorem Same.of {H H' : Hp} (h : ∀ b o, H b = some o → H' b = some o) : Same H H' := fun b o e => by
  cases o with
  | tbl ps => exact ⟨ps, h _ _ e, fun ⟨t, c⟩ => ⟨t, fun pos cv hc => let ⟨d, e1, e2⟩ := c pos cv hc; ⟨d, e1, h _ _ e2⟩⟩⟩
  | _ => exact h _ _ e
theorem Same.not {H H' : Hp} (s : Same H H') {b : Addr} {o : HO} (e : H b = some o) (n : ∀ ps, o ≠ .tbl ps) : H' b = some o := by
  cases o with
  | tbl ps => exact absurd rfl (n ps)
  | _ => exact s b _ e
theorem Same.refl (H : Hp) : Same H H := .of fun _ _ e => e
theorem Same.trans {H H1 H2 : Hp} (a : Same H H1) (b : Same H1 H2) : Same H H2 := fun c o e => by
  cases o with
  | tbl ps =>
    obtain ⟨ps1, e1, k1⟩ := a c _ e
    obtain ⟨ps2, e2, k2⟩ := b c _ e1
    exact ⟨ps2, e2, fun t => k2 (k1 t)⟩
  | _ => exact b c _ (a c _ e)
theorem Same.there {H H' : Hp} (s : Same H H') {b : Addr} {o : HO} (e : H b = some o) : ∃ o', H' b = some o' := by
  cases o with
  | tbl ps =>
    obtain ⟨ps', e', _⟩ := s b _ e
    exact ⟨_, e'⟩
  | _ => exact ⟨_, s b _ e⟩
theorem Same.free {H H' : Hp} (s : Same H H') {l : Addr} (h : H' l = none) : H l = none := by
  cases e : H l with
  | none => rfl
  | some o =>
    obtain ⟨o', e'⟩ := s.there e
    rw [h] at e'
    cases e'
theorem Same.seq {H H' : Hp} (s : Same H H') {K : PySem.W.Frag} {a : Addr} {xs : List V} (h : SqL K H a xs) : SqL K H' a xs := by
  rcases h with (e | ⟨o, e⟩) | h
  · exact .inl (.inl (s _ _ e))
  · exact .inl (.inr ⟨o, s _ _ e⟩)
  · exact .inr h
theorem same_upd {H : Hp} {p : Addr} {o : HO} (h : H p = none) : Same H (upd H p o) := .of fun b z e => (upd_ne (ne_of_none e h)).trans e
theorem seq_cut {t u : TS} {D : Ends} {σ : L2.St} {H : Hp} (R : L2.St → Hp → Prop) (h2 : ∀ σ' H', R σ' H' → u D σ' H') (h1 : (∀ σ' H', R σ' H' → u D σ' H') → t { D with nx := u D } σ H) : tSeq t u D σ H := h1 h2
theorem gName_go {i : Nat} {v : V} {σ : L2.St} {H : Hp} {f b c : L2.St → Hp → Prop} {r : VK} (h : f (σ.set i (some v)) H) : gName i v σ H (Ends.mk f r b c).nx := h
theorem gName_as {i : Nat} {v : V} (u : V) (e : v = u) {σ : L2.St} {H : Hp} {f b c : L2.St → Hp → Prop} {r : VK} (h : f (σ.set i (some u)) H) : gName i v σ H (Ends.mk f r b c).nx := by
  subst e
  exact h
/-- the heap by another name -/
theorem nx_as {σ : L2.St} {H : Hp} {f b c : L2.St → Hp → Prop} {r : VK} (H' : Hp) (e : H = H') (h : f σ H') : (Ends.mk f r b c).nx σ H := by
  subst e
  exact h
theorem next_go {σ : L2.St} {H : Hp} {f b c : L2.St → Hp → Prop} {r : VK} (h : f σ H) : tNext (Ends.mk f r b c) σ H := h
/-- at an if: what follows it is shown once, from R -/
theorem if_cut {c : TT} {t1 t2 u : TS} {D : Ends} {σ : L2.St} {H : Hp} (R : L2.St → Hp → Prop) (h2 : ∀ σ' H', R σ' H' → u D σ' H') (h1 : (∀ σ' H', R σ' H' → u D σ' H') → tIfS c t1 t2 { D with nx := u D } σ H) : tSeq (tIfS c t1 t2) u D σ H := h1 h2
theorem Arg.up {H H' : Hp} {v : V} (s : Same H H') (a : Arg H v) : Arg H' v := by
  cases a with
  | int i => exact .int i
  | bl b => exact .bl b
  | str z => exact .str z
  | non => exact .non
  | tup e => exact .tup (s _ _ e)
  | lst e => exact .lst (s _ _ e)
  | dK e => exact .dK (s _ _ e)
theorem Arg.put {H : Hp} {e : Addr} {xs ys : List V} {v : V} (he : H e = some (.lst xs)) (a : Arg H v) : Arg (upd H e (.lst ys)) v := by
  cases a with
  | int i => exact .int i
  | bl b => exact .bl b
  | str z => exact .str z
  | non => exact .non
  | tup hb => exact .tup ((upd_ne (ne_of hb he (by intro z; cases z))).trans hb)
  | @lst b zs hb =>
    by_cases z : b = e
    · subst z
      exact .lst upd_same
    · exact .lst ((upd_ne z).trans hb)
  | dK hb => exact .dK ((upd_ne (ne_of hb he (by intro z; cases z))).trans hb)
end LL

namespace LL
open PySem PySem.Spec PySem.Calls PyProof.Rows L2
/-! ### numbers within bounds; fences; edges -/
def within : V → Int → Int → Bool
  | .int i, lo, hi => decide (lo ≤ i) && decide (i ≤ hi)
  | _, _, _ => false
theorem within_int {v : V} {lo hi : Int} (h : within v lo hi = true) : ∃ i, v = .int i := by
  cases v <;> first | exact ⟨_, rfl⟩ | cases h
theorem within_le {i lo hi : Int} (h : within (.int i) lo hi = true) : lo ≤ i ∧ i ≤ hi := by
  have h1 : (decide (lo ≤ i) && decide (i ≤ hi)) = true := h
  simpa using h1
theorem within_of {i lo hi : Int} (h1 : lo ≤ i) (h2 : i ≤ hi) : within (.int i) lo hi = true := by
  show (decide (lo ≤ i) && decide (i ≤ hi)) = true
  simp [h1, h2]
theorem within_not {i lo hi : Int} (h : i < lo ∨ hi < i) : within (.int i) lo hi = false := by
  show (decide (lo ≤ i) && decide (i ≤ hi)) = false
  rcases h with h | h
  · rw [decide_eq_false (by omega), Bool.false_and]
  · rw [decide_eq_false (show ¬ i ≤ hi by omega), Bool.and_false]
def sp_within : Sp := fun vs H Q _ => ∃ (v : V) (lo hi : Int), vs = [v, .int lo, .int hi] ∧ Arg H v ∧ Q (.bl (within v lo hi)) H
def sp_slope : Sp := fun vs H Q _ => ∃ v, vs = [v] ∧ Arg H v ∧ Q (.bl (within v (-1000) 1000)) H
def sp_check_size (K : PySem.W.Frag) : Sp := fun vs H Q E => ∃ v, vs = [v] ∧ Arg H v ∧ (within v 1 1000 = false → E (.ref (He.ga K "BadSize")) none H) ∧ (within v 1 1000 = true → Q .non H)
def fenceOk (a b c : V) : Bool := within a (-1000) 1000 && within b (-1000) 1000 && !decide (a = .int 0 ∧ b = .int 0) && within c (-1000000) 1000000
def sp_fence_of (K : PySem.W.Frag) : Sp := fun vs H Q E => ∃ a b c : V, vs = [a, b, c] ∧ Arg H a ∧ Arg H b ∧ Arg H c ∧ (fenceOk a b c = false → E (.ref (He.ga K "BadFence")) none H) ∧ (fenceOk a b c = true → ∀ p, H p = none → Q (.ref p) (upd H p (.tup [a, b, c])))
/-- the four edges stand at l, new over H -/
structure Edges (n : Int) (H H' : Hp) (l p0 p1 p2 p3 : Addr) : Prop where
  same : Same H H'
  new : H l = none
  lst : H' l = some (.lst [.ref p0, .ref p1, .ref p2, .ref p3])
  e0 : H' p0 = some (.tup [.int (-1), .int 0, .int 0])
  e1 : H' p1 = some (.tup [.int 0, .int (-1), .int 0])
  e2 : H' p2 = some (.tup [.int 1, .int 0, .int n])
  e3 : H' p3 = some (.tup [.int 0, .int 1, .int n])
def sp_edges (K : PySem.W.Frag) : Sp := fun vs H Q E => ∃ v, vs = [v] ∧ Arg H v ∧ (within v 1 1000 = false → E (.ref (He.ga K "BadSize")) none H) ∧
  (∀ n, v = .int n → within v 1 1000 = true → ∀ H' l p0 p1 p2 p3, Edges n H H' l p0 p1 p2 p3 → Q (.ref l) H')
/-! ### menus -/
theorem menu_mem {xs : List V} {n m : Int} (hm : 0 < m) (hl : (xs.length : Int) = m) : ∃ v, atI xs (n % m) = some v ∧ v ∈ xs := by
  have h0 := Int.emod_nonneg n (show m ≠ 0 by omega)
  have h1 := Int.emod_lt_of_pos n hm
  obtain ⟨j, hj⟩ : ∃ j : Nat, n % m = j := ⟨(n % m).toNat, by omega⟩
  have lt : j < xs.length := by omega
  rw [hj]
  exact ⟨xs[j], atI_nat (List.getElem?_eq_getElem lt), List.getElem_mem lt⟩
theorem ix3 {k : Int} (h0 : 0 ≤ k) (h3 : k < 3) : ∃ j : Nat, ixN 3 k = some j ∧ j < 3 ∧ k = j := by
  have : k = 0 ∨ k = 1 ∨ k = 2 := by omega
  rcases this with e | e | e <;> rw [e]
  · exact ⟨0, rfl, by decide, rfl⟩
  · exact ⟨1, rfl, by decide, rfl⟩
  · exact ⟨2, rfl, by decide, rfl⟩
/-! ### == of tuples of three numbers, and of lists of these -/
theorem dp_three {K : PySem.W.Frag} {H : Hp} {p : Addr} {a b c : Int} (h : H p = some (.tup [.int a, .int b, .int c])) : Dp K H (.ref p) (.tuple [.int a, .int b, .int c]) :=
  .tup (SqT.of h) (.cons (.int a) (.cons (.int b) (.cons (.int c) .nil)))
end LL

namespace LL
open PySem PySem.Spec PySem.Calls PyProof.Rows L2
/-! ### sizes -/
def Sz (n : Nat) (x : Int) : Prop := x.natAbs < 2 ^ n
theorem Sz.mono {n m : Nat} {x : Int} (h : Sz n x) (l : n ≤ m) : Sz m x := Nat.lt_of_lt_of_le h (Nat.pow_le_pow_right (by decide) l)
theorem Sz.mul {n m : Nat} {x y : Int} (h : Sz n x) (k : Sz m y) : Sz (n + m) (x * y) := wide_lt h k
theorem Sz.add {n : Nat} {x y : Int} (h : Sz n x) (k : Sz n y) : Sz (n + 1) (x + y) := by
  unfold Sz at *
  rw [Nat.pow_succ]
  omega
theorem Sz.sub {n : Nat} {x y : Int} (h : Sz n x) (k : Sz n y) : Sz (n + 1) (x - y) := by
  unfold Sz at *
  rw [Nat.pow_succ]
  omega
theorem Sz.ok {n m : Nat} {x y : Int} (h : Sz n x) (k : Sz m y) (hn : 0 < n) (hm : 0 < m) (l : n + m ≤ 1000000) : CMulW x y := wide_mul h k hn hm l
theorem Sz.of {n : Nat} {x : Int} {b : Nat} (h : x.natAbs ≤ b) (l : b < 2 ^ n) : Sz n x := Nat.lt_of_le_of_lt h l
/-- the numbers of a spot, of a fence -/
structure Sz3 (n : Nat) (x y b : Int) : Prop where
  x : Sz n x
  y : Sz n y
  b : Sz n b
theorem Sz3.mono {n m : Nat} {x y b : Int} (h : Sz3 n x y b) (l : n ≤ m) : Sz3 m x y b := ⟨h.x.mono l, h.y.mono l, h.b.mono l⟩
/-- a tuple of three numbers -/
abbrev Tri (K : PySem.W.Frag) (H : Hp) (p : Addr) (x y b : Int) : Prop := SqT K H p [.int x, .int y, .int b]
/-! ### reach, turn, meeting -/
def reachI (a b c x y d : Int) : Int := a * x + b * y - c * d
def sp_reach (K : PySem.W.Frag) : Sp := fun vs H Q _ => ∃ (p q : Addr) (a b c x y d : Int), vs = [.ref p, .ref q] ∧ Tri K H p a b c ∧ Tri K H q x y d ∧ Sz3 1000 a b c ∧ Sz3 1000 x y d ∧ Q (.int (reachI a b c x y d)) H
def triI (x y b x2 y2 b2 x3 y3 b3 : Int) : Int := x * (y2 * b3 - y3 * b2) - y * (x2 * b3 - x3 * b2) + b * (x2 * y3 - x3 * y2)
def sgn (n : Int) : Int := if 0 < n then 1 else if n < 0 then -1 else 0
def sp_tri (K : PySem.W.Frag) (f : Int → Int) : Sp := fun vs H Q _ => ∃ (p q r : Addr) (x y b x2 y2 b2 x3 y3 b3 : Int), vs = [.ref p, .ref q, .ref r] ∧ Tri K H p x y b ∧ Tri K H q x2 y2 b2 ∧ Tri K H r x3 y3 b3 ∧
  Sz3 1000 x y b ∧ Sz3 1000 x2 y2 b2 ∧ Sz3 1000 x3 y3 b3 ∧ Q (.int (f (triI x y b x2 y2 b2 x3 y3 b3))) H
def sp_meeting (K : PySem.W.Frag) : Sp := fun vs H Q _ => ∃ (p q : Addr) (a b c a2 b2 c2 : Int), vs = [.ref p, .ref q] ∧ Tri K H p a b c ∧ Tri K H q a2 b2 c2 ∧ Sz3 1000 a b c ∧ Sz3 1000 a2 b2 c2 ∧
  (a * b2 - b * a2 = 0 → Q .non H) ∧ (a * b2 - b * a2 ≠ 0 → ∀ (X Y B : Int) (l : Addr), Low X Y B → a * X + b * Y = c * B → a2 * X + b2 * Y = c2 * B → X * (a * b2 - b * a2) = (c * b2 - b * c2) * B → Y * (a * b2 - b * a2) = (a * c2 - c * a2) * B →
    H l = none → Q (.ref l) (upd H l (.tup [.int X, .int Y, .int B])))
theorem meet_on {a b c p q r X Y B : Int} (h0 : a * q - b * p ≠ 0) (hx : X * (a * q - b * p) = (c * q - b * r) * B) (hy : Y * (a * q - b * p) = (a * r - c * p) * B) : a * X + b * Y = c * B ∧ p * X + q * Y = r * B := by
  constructor
  · apply Int.eq_of_mul_eq_mul_right h0
    grind
  · apply Int.eq_of_mul_eq_mul_right h0
    grind
theorem low_abs {x y b : Int} (hb : 0 < b) (s : Int) (hs : s = ((Nat.gcd x.natAbs (Nat.gcd y.natAbs b.natAbs) : Nat) : Int)) :
    s ≠ 0 ∧ 0 < s ∧ s.natAbs ≤ b.natAbs ∧ Low (x.fdiv s) (y.fdiv s) (b.fdiv s) ∧ (x.fdiv s).natAbs ≤ x.natAbs ∧ (y.fdiv s).natAbs ≤ y.natAbs ∧ (b.fdiv s).natAbs ≤ b.natAbs := by
  have e : s = if b < 0 then -(((Nat.gcd (Nat.gcd x.natAbs y.natAbs) b.natAbs : Nat)) : Int) else ((Nat.gcd (Nat.gcd x.natAbs y.natAbs) b.natAbs : Nat) : Int) := by
    rw [if_neg (by omega), hs, Nat.gcd_assoc]
  obtain ⟨s0, sb, low, _, _⟩ := gcd_low (x := x) (y := y) (b := b) (by omega) s e
  have sp : 0 < s := by
    have : 0 ≤ s := by rw [hs]; exact Int.natCast_nonneg _
    omega
  have f : ∀ z : Int, s ∣ z → (z.fdiv s).natAbs ≤ z.natAbs := by
    rintro z ⟨k, rfl⟩
    rw [Int.mul_fdiv_cancel_left k s0, Int.natAbs_mul]
    exact Nat.le_mul_of_pos_left _ (by omega)
  have d1 : s ∣ x := Int.natAbs_dvd_natAbs.mp (by rw [hs, Int.natAbs_natCast]; exact Nat.gcd_dvd_left _ _)
  have d2 : s ∣ y := Int.natAbs_dvd_natAbs.mp (by rw [hs, Int.natAbs_natCast]; exact Nat.dvd_trans (Nat.gcd_dvd_right _ _) (Nat.gcd_dvd_left _ _))
  have d3 : s ∣ b := Int.natAbs_dvd_natAbs.mp (by rw [hs, Int.natAbs_natCast]; exact Nat.dvd_trans (Nat.gcd_dvd_right _ _) (Nat.gcd_dvd_right _ _))
  exact ⟨s0, sp, sb, low, f _ d1, f _ d2, f _ d3⟩
/-- a fence's numbers -/
structure FenceI (a b c : Int) : Prop where
  ha : a.natAbs ≤ 1000
  hb : b.natAbs ≤ 1000
  ab : ¬ (a = 0 ∧ b = 0)
  hc : c.natAbs ≤ 1000000
theorem FenceI.sz {a b c : Int} (h : FenceI a b c) : Sz3 100 a b c := ⟨.of h.ha (by decide), .of h.hb (by decide), .of h.hc (by decide)⟩
def sp_law_fence_by : Sp := fun vs H Q _ => ∃ c s : Int, vs = [.int c, .int s] ∧ 1 ≤ s ∧ s ≤ 1000 ∧ ∀ (H' : Hp) (p : Addr) (x y z : Int), Same H H' → H p = none → H' p = some (.tup [.int x, .int y, .int z]) → FenceI x y z → Q (.ref p) H'
/-- a spot stands at p -/
structure SpotAt (n : Nat) (H : Hp) (p : Addr) (x y b : Int) : Prop where
  at_ : H p = some (.tup [.int x, .int y, .int b])
  low : Low x y b
  sz : Sz3 n x y b
theorem SpotAt.up {n : Nat} {H H' : Hp} {p : Addr} {x y b : Int} (h : SpotAt n H p x y b) (s : Same H H') : SpotAt n H' p x y b := ⟨s _ _ h.at_, h.low, h.sz⟩
theorem SpotAt.mono {n m : Nat} {H : Hp} {p : Addr} {x y b : Int} (h : SpotAt n H p x y b) (l : n ≤ m) : SpotAt m H p x y b := ⟨h.at_, h.low, h.sz.mono l⟩
def sp_law_spot_by : Sp := fun vs H Q _ => ∃ c o s : Int, vs = [.int c, .int o, .int s] ∧ 1 ≤ s ∧ s ≤ 1000 ∧ ∀ (H' : Hp) (p : Addr) (x y b : Int), Same H H' → H p = none → SpotAt 100 H' p x y b → Q (.ref p) H'
theorem abs_nn (i : Int) : 0 ≤ (if i < 0 then -i else i) := by split <;> omega
theorem abs_nat (i : Int) : (if i < 0 then -i else i).toNat = i.natAbs := by split <;> omega
def sp_law_good_spot : Sp := fun vs H Q _ => ∃ (p : Addr) (x y b : Int), vs = [.ref p] ∧ H p = some (.tup [.int x, .int y, .int b]) ∧ Q (.bl (decide (Low x y b))) H
def sp_law_size_by : Sp := fun vs H Q _ => ∃ c : Int, vs = [.int c] ∧ ∀ s : Int, 1 ≤ s → s ≤ 1000 → Q (.int s) H
end LL

namespace LL
open PySem PySem.Spec PySem.Calls PyProof.Rows L2
/-! ### rows and spots on the heap -/
def rowHO (r : LG.Row) : HO := .tup [.int r.a, .int r.b, .int r.c]
def ptHO (q : LG.Pt) : HO := .tup [.int q.x, .int q.y, .int q.w]
/-- at the places ps these things stand -/
abbrev At {α : Type} (f : α → HO) (H : Hp) (ps : List Addr) (xs : List α) : Prop := ps.map H = xs.map fun x => some (f x)
section
variable {α : Type} {f : α → HO} {H H' : Hp} {ps : List Addr} {xs : List α}
theorem At.len (h : At f H ps xs) : ps.length = xs.length := by
  have := congrArg List.length h
  simpa using this
/-- a thing of this kind is a tuple -/
class TupF {α : Type} (f : α → HO) : Prop where
  out : ∀ x, ∃ t, f x = .tup t
theorem At.up [TupF f] (s : Same H H') : ∀ {ps : List Addr} {xs : List α}, At f H ps xs → At f H' ps xs
  | [], [], _ => rfl
  | [], x :: xs, h => by cases h
  | p :: ps, [], h => by cases h
  | p :: ps, x :: xs, h => by
    have h1 : H p = some (f x) := by injection h
    have h2 : At f H ps xs := by injection h
    show H' p :: ps.map H' = some (f x) :: xs.map _
    have h3 : H' p = some (f x) := by
      obtain ⟨t, e⟩ := TupF.out (f := f) x
      rw [e] at h1 ⊢
      exact s _ _ h1
    rw [h3, At.up s h2]
theorem At.get (h : At f H ps xs) {i : Nat} {x : α} (e : xs[i]? = some x) : ∃ p, ps[i]? = some p ∧ H p = some (f x) := by
  have h1 : (ps.map H)[i]? = (xs.map fun x => some (f x))[i]? := by rw [h]
  rw [List.getElem?_map, List.getElem?_map, e] at h1
  cases hp : ps[i]? with
  | none => rw [hp] at h1; cases h1
  | some p =>
    rw [hp] at h1
    exact ⟨p, rfl, Option.some.inj h1⟩
theorem At.get' (h : At f H ps xs) {i : Nat} {p : Addr} (e : ps[i]? = some p) : ∃ x, xs[i]? = some x ∧ H p = some (f x) := by
  have h1 : (ps.map H)[i]? = (xs.map fun x => some (f x))[i]? := by rw [h]
  rw [List.getElem?_map, List.getElem?_map, e] at h1
  cases hp : xs[i]? with
  | none => rw [hp] at h1; cases h1
  | some x =>
    rw [hp] at h1
    exact ⟨x, rfl, Option.some.inj h1⟩
theorem At.app {qs : List Addr} {ys : List α} (h : At f H ps xs) (k : At f H qs ys) : At f H (ps ++ qs) (xs ++ ys) := by
  unfold At
  rw [List.map_append, List.map_append, h, k]
theorem At.one {p : Addr} {x : α} (h : H p = some (f x)) : At f H [p] [x] := by
  unfold At
  rw [List.map_singleton, List.map_singleton, h]
theorem At.take {n : Nat} (h : At f H ps xs) : At f H (ps.take n) (xs.take n) := by
  unfold At
  rw [List.map_take, List.map_take, h]
theorem At.drop {n : Nat} (h : At f H ps xs) : At f H (ps.drop n) (xs.drop n) := by
  unfold At
  rw [List.map_drop, List.map_drop, h]
/-- another list is changed -/
theorem At.put {e : Addr} {vs ws : List V} (he : H e = some (.lst vs)) (ht : ∀ x, ∃ t, f x = .tup t) : ∀ {ps : List Addr} {xs : List α}, At f H ps xs → At f (upd H e (.lst ws)) ps xs
  | [], [], _ => rfl
  | [], x :: xs, h => by cases h
  | p :: ps, [], h => by cases h
  | p :: ps, x :: xs, h => by
    have h1 : H p = some (f x) := by injection h
    have h2 : At f H ps xs := by injection h
    obtain ⟨t, ht'⟩ := ht x
    show upd H e (.lst ws) p :: ps.map (upd H e (.lst ws)) = some (f x) :: xs.map _
    have ne : p ≠ e := by
      rw [ht'] at h1
      exact ne_of h1 he (by intro z; cases z)
    rw [upd_ne ne, h1, At.put he ht h2]
/-- a dict is changed -/
theorem At.putT {e : Addr} {vs ws : List (List Key × V)} (he : H e = some (.dT vs)) (ht : ∀ x, ∃ t, f x = .tup t) : ∀ {ps : List Addr} {xs : List α}, At f H ps xs → At f (upd H e (.dT ws)) ps xs
  | [], [], _ => rfl
  | [], x :: xs, h => by cases h
  | p :: ps, [], h => by cases h
  | p :: ps, x :: xs, h => by
    have h1 : H p = some (f x) := by injection h
    have h2 : At f H ps xs := by injection h
    obtain ⟨t, ht'⟩ := ht x
    show upd H e (.dT ws) p :: ps.map (upd H e (.dT ws)) = some (f x) :: xs.map _
    have ne : p ≠ e := by
      rw [ht'] at h1
      exact ne_of h1 he (by intro z; cases z)
    rw [upd_ne ne, h1, At.putT he ht h2]
end
instance : TupF rowHO := ⟨fun r => ⟨_, rfl⟩⟩
instance : TupF ptHO := ⟨fun r => ⟨_, rfl⟩⟩
theorem row_tup : ∀ r : LG.Row, ∃ t, rowHO r = .tup t := fun r => ⟨_, rfl⟩
theorem pt_tup : ∀ q : LG.Pt, ∃ t, ptHO q = .tup t := fun r => ⟨_, rfl⟩
/-- a list of such things -/
structure LstAt {α : Type} (f : α → HO) (H : Hp) (l : Addr) (ps : List Addr) (xs : List α) : Prop where
  lst : H l = some (.lst (ps.map .ref))
  at_ : At f H ps xs
section
variable {α : Type} {f : α → HO} {H H' : Hp} {l : Addr} {ps : List Addr} {xs : List α}
theorem LstAt.up [TupF f] (h : LstAt f H l ps xs) (s : Same H H') : LstAt f H' l ps xs := ⟨s _ _ h.lst, h.at_.up s⟩
theorem LstAt.len (h : LstAt f H l ps xs) : (ps.map V.ref).length = xs.length := by rw [List.length_map, h.at_.len]
theorem LstAt.seq {K : PySem.W.Frag} (h : LstAt f H l ps xs) : SqL K H l (ps.map V.ref) := SqL.of h.lst
theorem LstAt.get (h : LstAt f H l ps xs) {i : Nat} {x : α} (e : xs[i]? = some x) : ∃ p, (ps.map V.ref)[i]? = some (.ref p) ∧ ps[i]? = some p ∧ H p = some (f x) := by
  obtain ⟨p, hp, hx⟩ := h.at_.get e
  exact ⟨p, by rw [List.getElem?_map, hp]; rfl, hp, hx⟩
theorem LstAt.get' (h : LstAt f H l ps xs) {i : Nat} {v : V} (e : (ps.map V.ref)[i]? = some v) : ∃ p x, v = .ref p ∧ ps[i]? = some p ∧ xs[i]? = some x ∧ H p = some (f x) := by
  rw [List.getElem?_map] at e
  cases hp : ps[i]? with
  | none => rw [hp] at e; cases e
  | some p =>
    rw [hp] at e
    obtain ⟨x, hx, hf⟩ := h.at_.get' hp
    exact ⟨p, x, (Option.some.inj e).symm, rfl, hx, hf⟩
/-- an item by a number of either sign -/
theorem LstAt.atI (h : LstAt f H l ps xs) {i : Int} {x : α} (e : L2.atI xs i = some x) : ∃ p, L2.atI (ps.map V.ref) i = some (.ref p) ∧ H p = some (f x) := by
  unfold L2.atI at e ⊢
  rw [h.len]
  cases hk : ixN xs.length i with
  | none => rw [hk] at e; cases e
  | some j =>
    rw [hk] at e
    obtain ⟨p, hp, _, hx⟩ := h.get (show xs[j]? = some x from e)
    exact ⟨p, hp, hx⟩
end
theorem LstAt.set {α : Type} {f : α → HO} {H : Hp} {l : Addr} {ps : List Addr} {xs : List α} {j : Nat} {p : Addr} {x : α} (h : LstAt f H l ps xs) (hp : H p = some (f x)) (ht : ∀ x, ∃ t, f x = .tup t) : LstAt f (upd H l (.lst ((ps.map V.ref).set j (.ref p)))) l (ps.set j p) (xs.set j x) := by
  have e : At f H (ps.set j p) (xs.set j x) := by
    unfold At
    rw [List.map_set, List.map_set, h.at_, hp]
  exact ⟨by rw [upd_same, List.map_set], e.put h.lst ht⟩
theorem LstAt.push {α : Type} {f : α → HO} {H : Hp} {l : Addr} {ps : List Addr} {xs : List α} {p : Addr} {x : α} (h : LstAt f H l ps xs) (hp : H p = some (f x)) (ht : ∀ x, ∃ t, f x = .tup t) : LstAt f (upd H l (.lst (ps.map V.ref ++ [.ref p]))) l (ps ++ [p]) (xs ++ [x]) :=
  ⟨by rw [upd_same, List.map_append]; rfl, (h.at_.app (.one hp)).put h.lst ht⟩
/-- another list is changed -/
theorem LstAt.put {α : Type} {f : α → HO} {H : Hp} {l e : Addr} {ps : List Addr} {xs : List α} {vs ws : List V} (h : LstAt f H l ps xs) (he : H e = some (.lst vs)) (ne : l ≠ e) (ht : ∀ x, ∃ t, f x = .tup t) : LstAt f (upd H e (.lst ws)) l ps xs := ⟨(upd_ne ne).trans h.lst, h.at_.put he ht⟩
theorem LstAt.putT {α : Type} {f : α → HO} {H : Hp} {l e : Addr} {ps : List Addr} {xs : List α} {vs ws : List (List Key × V)} (h : LstAt f H l ps xs) (he : H e = some (.dT vs)) (ht : ∀ x, ∃ t, f x = .tup t) : LstAt f (upd H e (.dT ws)) l ps xs := ⟨(upd_ne (ne_of h.lst he (by intro z; cases z))).trans h.lst, h.at_.putT he ht⟩
/-- a slice of such a list -/
theorem LstAt.cut {α : Type} {f : α → HO} [TupF f] {H H' : Hp} {l sl : Addr} {ps : List Addr} {xs : List α} {lo hi : Option Int} (h : LstAt f H l ps xs) (s : Same H H') (hs : H' sl = some (.lst (cutV (ps.map V.ref) lo hi))) :
    ∃ (i j : Nat), LstAt f H' sl ((ps.drop i).take j) ((xs.drop i).take j) ∧ cutV (ps.map V.ref) lo hi = ((ps.drop i).take j).map V.ref ∧ i = HT.sIx ps.length 0 lo ∧ j = HT.sIx ps.length ps.length hi - i := by
  have e : cutV (ps.map V.ref) lo hi = ((ps.drop (HT.sIx ps.length 0 lo)).take (HT.sIx ps.length ps.length hi - HT.sIx ps.length 0 lo)).map V.ref := by
    unfold cutV
    rw [List.length_map, List.map_take, List.map_drop]
  exact ⟨_, _, ⟨by rw [hs, e], (h.at_.up s).drop.take⟩, e, rfl, rfl⟩
/-- what a new place holds may be changed -/
theorem upd_new {H H' : Hp} {e : Addr} {o x : HO} (s : Same H H') (n : H e = none) (hx : H' e = some x) (nx : ∀ φ, x ≠ .ext φ := by intro _ z; cases z) : Same H (upd H' e o) := fun b z k => by
  have ne : b ≠ e := ne_of_none k n
  cases z with
  | tbl ps =>
    obtain ⟨ps', e1, t⟩ := s b _ k
    refine ⟨ps', (upd_ne ne).trans e1, fun tq => ?_⟩
    obtain ⟨t1, t2⟩ := t tq
    refine ⟨t1, fun pos cv hc => ?_⟩
    obtain ⟨c, e2, e3⟩ := t2 pos cv hc
    refine ⟨c, e2, ?_⟩
    by_cases z : c = e
    · rw [z, hx] at e3
      exact absurd (Option.some.inj e3) (by unfold LamX.CodeO; exact nx _)
    · exact (upd_ne z).trans e3
  | _ => exact (upd_ne ne).trans (s b _ k)
theorem ixN_last {n : Nat} (h : 0 < n) : ixN n (-1) = some (n - 1) := by
  unfold ixN
  rw [if_neg (by decide), if_pos (by omega)]
  congr 1
  omega
theorem FenceI.opp {a b c : Int} (h : FenceI a b c) : FenceI (0 - a) (0 - b) (0 - c) := ⟨by have := h.ha; omega, by have := h.hb; omega, fun z => h.ab ⟨by omega, by omega⟩, by have := h.hc; omega⟩
abbrev RowL (H : Hp) (l : Addr) (ps : List Addr) (rs : List LG.Row) : Prop := LstAt rowHO H l ps rs
abbrev PtL (H : Hp) (l : Addr) (ps : List Addr) (qs : List LG.Pt) : Prop := LstAt ptHO H l ps qs
def FenceR (r : LG.Row) : Prop := FenceI r.a r.b r.c
def Fences (fs : List LG.Row) : Prop := fs.length ≤ 16 ∧ ∀ r ∈ fs, FenceR r
theorem Fences.nz {fs : List LG.Row} (h : Fences fs) : ∀ r ∈ fs, ¬ (r.a = 0 ∧ r.b = 0) := fun r hr => (h.2 r hr).ab
def SzR (rs : List LG.Row) : Prop := ∀ r ∈ rs, Sz3 1000 r.a r.b r.c
theorem Fences.sz {n : Int} {fs : List LG.Row} (h : Fences fs) (h1 : 1 ≤ n) (h2 : n ≤ 1000) : SzR (LG.rowsOf n fs) := by
  intro r hr
  rcases List.mem_append.mp hr with k | k
  · exact (h.2 r k).sz.mono (by decide)
  · have sn : Sz 1000 n := .of (b := 1000) (by omega) (by decide)
    have s0 : Sz 1000 0 := .of (b := 0) (by decide) (by decide)
    have s1 : Sz 1000 1 := .of (b := 1) (by decide) (by decide)
    have s2 : Sz 1000 (-1) := .of (b := 1) (by decide) (by decide)
    simp only [LG.edgesR, List.mem_cons, List.not_mem_nil, or_false] at k
    rcases k with e | e | e | e <;> rw [e]
    · exact ⟨s2, s0, s0⟩
    · exact ⟨s0, s2, s0⟩
    · exact ⟨s1, s0, sn⟩
    · exact ⟨s0, s1, sn⟩
/-! ### what the laws' defs promise -/
def sp_law_fences_by (K : PySem.W.Frag) : Sp := fun vs H Q _ => ∃ (a : Addr) (ns : List Int) (first few n : Int), vs = [.ref a, .int first, .int few, .int n] ∧ SqL K H a (ns.map V.int) ∧ ns.length ≤ 63 ∧ 0 ≤ first ∧ first ≤ 1000 ∧ 0 ≤ few ∧ few ≤ 15 ∧ 1 ≤ n ∧ n ≤ 1000 ∧
  ∀ (H' : Hp) (l : Addr) (ps : List Addr) (fs : List LG.Row), Same H H' → H l = none → RowL H' l ps fs → Fences fs → Q (.ref l) H'
def sp_law_rows : Sp := fun vs H Q _ => ∃ (n : Int) (l : Addr) (ps : List Addr) (fs : List LG.Row), vs = [.int n, .ref l] ∧ RowL H l ps fs ∧ fs.length ≤ 1000 ∧
  ∀ (H' : Hp) (l' : Addr) (ps' : List Addr), Same H H' → H l' = none → RowL H' l' ps' (LG.rowsOf n fs) → Q (.ref l') H'
def keptB (rs : List LG.Row) (q : LG.Pt) : Bool := rs.all fun r => decide (LG.rch r q ≤ 0)
theorem keptB_iff {rs : List LG.Row} {q : LG.Pt} (h : 0 < q.w) : keptB rs q = true ↔ LG.Kept rs q := by
  unfold keptB
  rw [List.all_eq_true]
  constructor
  · exact fun k => ⟨h, fun r hr => of_decide_eq_true (k r hr)⟩
  · exact fun k r hr => decide_eq_true (k.le r hr)
def SzP (n : Nat) (q : LG.Pt) : Prop := Sz3 n q.x q.y q.w
def sp_law_kept : Sp := fun vs H Q _ => ∃ (l p : Addr) (ps : List Addr) (rs : List LG.Row) (q : LG.Pt), vs = [.ref l, .ref p] ∧ RowL H l ps rs ∧ H p = some (ptHO q) ∧ SzR rs ∧ SzP 1000 q ∧ Q (.bl (keptB rs q)) H
def sp_law_on_two : Sp := fun vs H Q _ => ∃ (l p : Addr) (ps : List Addr) (rs : List LG.Row) (q : LG.Pt), vs = [.ref l, .ref p] ∧ RowL H l ps rs ∧ H p = some (ptHO q) ∧ SzR rs ∧ SzP 1000 q ∧ rs.length ≤ 1000 ∧ (∀ r ∈ rs, ¬ (r.a = 0 ∧ r.b = 0)) ∧ LG.OnTwo rs q ∧ ∀ H', Same H H' → Q (.bl true) H'
def lowerB (p q : LG.Pt) : Bool := decide (LG.lower p q)
def sp_law_lower : Sp := fun vs H Q _ => ∃ (p q : Addr) (x y : LG.Pt), vs = [.ref p, .ref q] ∧ H p = some (ptHO x) ∧ H q = some (ptHO y) ∧ SzP 1000 x ∧ SzP 1000 y ∧ Q (.bl (lowerB x y)) H
theorem tri_reads (p q r : LG.Pt) : LG.tri p q r = triI p.x p.y p.w q.x q.y q.w r.x r.y r.w := rfl
end LL

namespace LL
open PySem PySem.Spec PySem.Calls PyProof.Rows
/-! ### the def reach, over the heap alone -/
/-- nothing that was there is changed -/
theorem kp_refl (s : Shared) : Keeps s s := ⟨s.heap, s.toks, rfl, fun _ _ e => e⟩
/-- the state within such a call: like s but for the frame, whose names are m -/
def In1 (s : Shared) (env : Env) (m : Str → Option Value) (s' : Shared) : Prop :=
  (∃ h tk, s' = { s with heap := h, toks := tk } ∧ ∀ b o, s.heap.get? b = some o → h.get? b = some o) ∧ s'.heap.Ns env.locals m ∧ s.heap.objs.size ≤ env.locals
theorem In1.keep {s s' : Shared} {env : Env} {m : Str → Option Value} (h : In1 s env m s') {b : Addr} {o : Obj} (e : s.heap.get? b = some o) : s'.heap.get? b = some o := by
  obtain ⟨⟨g, tk, rfl, k⟩, _⟩ := h
  exact k b o e
theorem In1.done {s s' : Shared} {env : Env} {m : Str → Option Value} (h : In1 s env m s') : Keeps s s' := h.1
theorem In1.tick {s s' : Shared} {env : Env} {m : Str → Option Value} (h : In1 s env m s') (k : Nat) : In1 s env m { s' with toks := k } := by
  obtain ⟨⟨g, tk, rfl, kk⟩, n, z⟩ := h
  exact ⟨⟨g, k, rfl, kk⟩, n, z⟩
section
variable {P : Program} {w : World} {A : Around} {E : Value → Shared → Prop} {s s' : Shared} {env : Env} {m : Str → Option Value}
/-- a name is read -/
theorem r_name {x : Str} {p : Pos} {v : Value} {Q : Value → Shared → Prop} (hk : env.scope.kind = .function) (hx : env.scope.names.lookup x = some .local) (I : In1 s env m s') (hm : m x = some v) (h : Q v s')
    (hd : (x == ("__debug__" : Str)) = false := by decide) : wpAny (model P w) A (eval (.Name x p) env) Q E s' :=
  wpAny_Name (wpAny_loadName_local hk hx I.2.1 hm h) hd
/-- a name is stored -/
theorem r_store {x : Str} {p : Pos} {v : Value} {Q : Unit → Shared → Prop} (hk : env.scope.kind = .function) (hx : env.scope.names.lookup x = some .local) (I : In1 s env m s')
    (h : ∀ s'', In1 s env (fun y => if y = x then some v else m y) s'' → Q () s'') : wpAny (model P w) A (assign (.Name x p) env v) Q E s' := by
  refine wpAny_assign_Name (wpAny_storeName_local hx I.2.1 (fun h' hn hs => ?_) (by rw [hk]; rfl))
  obtain ⟨⟨g, tk, rfl, kk⟩, n, z⟩ := I
  refine h _ ⟨⟨h', _, rfl, fun b o e => (hs.2 b ?_).trans (kk b o e)⟩, hn, z⟩
  exact Nat.ne_of_lt (Nat.lt_of_lt_of_le (Heap.lt_size e) z)
/-- three names from a tuple that stood ahead -/
theorem r_three {x y z n : Str} {p1 p2 p3 p4 p5 p6 : Pos} {k : Nat} {t : Addr} {u v b : Value} {Q : Flow → Shared → Prop} (hh : A.handled = none) (hk : env.scope.kind = .function) (hx : env.scope.names.lookup x = some .local) (hy : env.scope.names.lookup y = some .local)
    (hz : env.scope.names.lookup z = some .local) (hn : env.scope.names.lookup n = some .local) (I : In1 s env m s') (hm : m n = some (.ref t)) (ht : IsTup s.heap t #[u, v, b])
    (h : ∀ s'', In1 s env (fun i => if i = z then some b else if i = y then some v else if i = x then some u else m i) s'' → Q .next s'') (hd : (n == ("__debug__" : Str)) = false := by decide) :
    wpAny (model P w) A (exec (.Assign [.Tuple [.Name x p1, .Name y p2, .Name z p3] k p4] (.Name n p5) p6) env) Q E s' := by
  refine wpAny_Assign_stores (r_name hk hn I hm ?_ hd) rfl rfl
  show wpAny _ _ (assign (.Tuple [.Name x p1, .Name y p2, .Name z p3] k p4) env (.ref t)) _ _ s'
  have ht' : IsTup s'.heap t #[u, v, b] := by
    obtain ⟨o, e, c⟩ := ht
    exact ⟨o, I.keep e, c⟩
  refine assign_Tuple_tuple hh ht' rfl rfl fun h' hx' => ?_
  have I1 : In1 s env m { s' with heap := h' } := by
    obtain ⟨⟨g, tk, rfl, kk⟩, nn, zz⟩ := I
    refine ⟨⟨h', tk, rfl, fun b o e => hx' b o ?_ (kk b o e)⟩, ?_, zz⟩
    · exact Nat.ne_of_lt (Heap.lt_size (kk b o e))
    · exact nn.at' fun o e => hx' _ o (Nat.ne_of_lt (Heap.lt_size e)) e
  show wpAny _ _ (assignInOrder [assign (.Name x p1) env, assign (.Name y p2) env, assign (.Name z p3) env] [u, v, b]) _ _ _
  refine assignInOrder_cons (r_store hk hx I1 fun s2 I2 => ?_)
  refine assignInOrder_cons (r_store hk hy I2 fun s3 I3 => ?_)
  refine assignInOrder_cons (r_store hk hz I3 fun s4 I4 => ?_)
  exact assignInOrder_nil (h s4 I4)
/-- two names multiplied -/
theorem r_mul {x y : Str} {p1 p2 p3 : Pos} {i j : Int} {t1 t2 : Tok} {Q : Value → Shared → Prop} (hk : env.scope.kind = .function) (hx : env.scope.names.lookup x = some .local) (hy : env.scope.names.lookup y = some .local) (I : In1 s env m s')
    (h1 : m x = some (.int i t1)) (h2 : m y = some (.int j t2)) (hm : IntMulOk i j) (h : ∀ t s'', In1 s env m s'' → Q (.int (i * j) t) s'') (d1 : (x == ("__debug__" : Str)) = false := by decide) (d2 : (y == ("__debug__" : Str)) = false := by decide) :
    wpAny (model P w) A (eval (.BinOp (.Name x p1) .Mult (.Name y p2) p3) env) Q E s' :=
  wpAny_BinOp (r_name hk hx I h1 (r_name hk hy I h2 (mul_int (h _ _ (I.tick _)) hm) d2) d1)
end
section
variable {P : Program} {w : World} {K : PySem.W.Frag} {A : Around} {E : Value → Shared → Prop} {s : Shared} {f p q : Addr} {oc : Value} {od : Option Addr} {osl : Array (Option Value)} {name qual : Str} {params : Arguments} {scope : Scope} {dV kV doc pm cdv ct : Value} {an : Option Addr}
  {a b c x y d : Int} {ta tb tc tx ty td : Tok} {Q : Value → Shared → Prop} {p1 p2 p3 p4 p5 p6 q1 q2 q3 q4 q5 q6 r1 r2 r3 r4 r5 r6 r7 r8 r9 r10 r11 r12 : Pos} {k1 k2 : Nat}
theorem raw_reach
    (lk : K.lookup f = some ⟨oc, od, Data.func (PySem.W.fnOf name qual params [.Assign [.Tuple [.Name "a" p1, .Name "b" p2, .Name "c" p3] k1 p4] (.Name "fence" p5) p6, .Assign [.Tuple [.Name "x" q1, .Name "y" q2, .Name "by" q3] k2 q4] (.Name "spot" q5) q6,
      .Return (some (.BinOp (.BinOp (.BinOp (.Name "a" r1) .Mult (.Name "x" r2) r3) .Add (.BinOp (.Name "b" r4) .Mult (.Name "y" r5) r6) r7) .Sub (.BinOp (.Name "c" r8) .Mult (.Name "by" r9) r10) r11)) r12] scope dV kV doc pm an cdv ct), osl⟩)
    (hcd : PySem.W.codeIn K cdv qual = true) (KX : K.In s.heap) (lim : s.heap.NoLimit) (hk : scope.kind = .function) (hco : scope.isCoroutine = false) (hge : scope.isGenerator = false)
    (l1 : scope.names.lookup ("a" : Str) = some NameKind.local) (l2 : scope.names.lookup ("b" : Str) = some NameKind.local) (l3 : scope.names.lookup ("c" : Str) = some NameKind.local) (l4 : scope.names.lookup ("x" : Str) = some NameKind.local) (l5 : scope.names.lookup ("y" : Str) = some NameKind.local) (l6 : scope.names.lookup ("by" : Str) = some NameKind.local)
    (l7 : scope.names.lookup ("fence" : Str) = some NameKind.local) (l8 : scope.names.lookup ("spot" : Str) = some NameKind.local)
    (hb : ∀ body, bindArgs (PySem.W.fnOf name qual params body scope dV kV doc pm an cdv ct) ⟨[Value.ref p, Value.ref q], []⟩ = pure [(("fence" : Str), Value.ref p), (("spot" : Str), Value.ref q)])
    (hp : IsTup s.heap p #[.int a ta, .int b tb, .int c tc]) (hq : IsTup s.heap q #[.int x tx, .int y ty, .int d td]) (m1 : IntMulOk a x) (m2 : IntMulOk b y) (m3 : IntMulOk c d)
    (hh : A.handled = none) (hdp : A.depth < recursionLimit) (h : ∀ t s', Keeps s s' → Q (.int (a * x + b * y - c * d) t) s') :
    wpAny (model P w) A (call (.ref f) [.ref p, .ref q]) Q E s := by
  refine wpAny_call (codeAny_call_function hdp (KX _ _ lk) rfl hco hge rfl (PySem.W.codeRec_of KX hcd) ?_)
  rw [hb]
  refine wpAny_pure (wpAny_newFunctionEnv_cells hk (fun z hz => ?_) fun env he s1 i => ?_)
  · simp only [List.mem_cons, List.not_mem_nil, or_false] at hz
    rcases hz with e | e <;> rw [e]
    · exact .inl l7
    · exact .inl l8
  subst he
  refine ⟨lim.keeps i.toInCall.keep, codeAny_func ?_⟩
  obtain ⟨env, he⟩ : ∃ env, env = newEnv scope s.heap.objs.size mainGlobals (cellsFrom (s.heap.objs.size + 1) scope.names []) (qual ++ ".<locals>.") (some f) cdv none builtinsNs := ⟨_, rfl⟩
  have es : env.scope = scope := by rw [he]; rfl
  have kd : env.scope.kind = .function := by rw [es]; exact hk
  have kf : env.kindOf "fence" = some .local := by show env.scope.names.lookup _ = _; rw [es]; exact l7
  have ks : env.kindOf "spot" = some .local := by show env.scope.names.lookup _ = _; rw [es]; exact l8
  have lk : ∀ {z : Str}, scope.names.lookup z = some .local → env.scope.names.lookup z = some .local := fun e => by rw [es]; exact e
  have el : env.locals = s.heap.objs.size := by rw [he]; rfl
  have I : In1 s env (bindL env.kindOf [(("fence" : Str), Value.ref p), (("spot" : Str), Value.ref q)] fun _ => none) s1 := by
    refine ⟨i.done, ?_, Nat.le_of_eq el.symm⟩
    rw [he]
    exact i.toInCall.ns
  have b1 : bindL env.kindOf [(("fence" : Str), Value.ref p), (("spot" : Str), Value.ref q)] (fun _ => none) "fence" = some (.ref p) := by
    simp [bindL, kf, ks]
    exact fun z => absurd z (by decide)
  have b2 : bindL env.kindOf [(("fence" : Str), Value.ref p), (("spot" : Str), Value.ref q)] (fun _ => none) "spot" = some (.ref q) := by
    simp [bindL, kf, ks]
  revert I b1 b2
  generalize bindL env.kindOf [(("fence" : Str), Value.ref p), (("spot" : Str), Value.ref q)] (fun _ => none) = m
  intro I b1 b2
  show wpAny (model P w) (A.deeper (newEnv scope s.heap.objs.size mainGlobals (cellsFrom (s.heap.objs.size + 1) scope.names []) (qual ++ ".<locals>.") (some f) cdv none builtinsNs)) (execs _ (newEnv scope s.heap.objs.size mainGlobals (cellsFrom (s.heap.objs.size + 1) scope.names []) (qual ++ ".<locals>.") (some f) cdv none builtinsNs)) _ _ s1
  rw [← he]
  refine wpAny_execs_cons (r_three hh kd (lk l1) (lk l2) (lk l3) (lk l7) I b1 hp fun s2 I2 => ?_)
  refine wpAny_execs_cons (r_three hh kd (lk l4) (lk l5) (lk l6) (lk l8) I2 ?_ hq fun s3 I3 => ?_)
  · rw [if_neg (by decide), if_neg (by decide), if_neg (by decide)]
    exact b2
  have la := lk l1; have lb := lk l2; have lc := lk l3; have lx := lk l4; have ly := lk l5; have ld := lk l6
  refine wpAny_execs_cons (wpAny_Return_some (wpAny_BinOp (wpAny_BinOp ?_)))
  refine r_mul (i := a) (j := x) (t1 := ta) (t2 := tx) kd la lx I3 rfl rfl m1 fun t4 s4 I4 => ?_
  refine r_mul (i := b) (j := y) (t1 := tb) (t2 := ty) kd lb ly I4 rfl rfl m2 fun t5 s5 I5 => ?_
  refine add_int ?_
  refine r_mul (i := c) (j := d) (t1 := tc) (t2 := td) kd lc ld (I5.tick _) rfl rfl m3 fun t6 s6 I6 => ?_
  exact sub_int (h _ _ (I6.tick _).done)
end
end LL

namespace LL
open PySem PySem.Spec PySem.Calls PyProof.Rows L2
/-! ### a table of code objects, as a thing that may grow -/
def TabO (P : Addr) : HO := .ext fun h => ∃ ps : Array Value, h.get? P = some { cls := .none, data := .fields ps } ∧ TriplesOk ps.toList
theorem tabO_ok {P : Program} {w : World} {H : Hp} {h : Heap} {a : Addr} {ps : Array Value} (e : h.get? a = some { cls := .none, data := .fields ps }) (t : TriplesOk ps.toList) : ObjOk P w H h a (TabO a) :=
  ⟨⟨ps, e, t⟩, ⟨_, e⟩, fun h1 h2 ⟨qs, f, u⟩ k => ⟨qs, k _ f, u⟩⟩
theorem tabO_at {P : Program} {w : World} {H : Hp} {h : Heap} {a : Addr} (x : HOk P w H h) (e : H a = some (TabO a)) : ∃ ps : Array Value, h.get? a = some { cls := .none, data := .fields ps } ∧ TriplesOk ps.toList := (x a _ e).1
section
variable {X : Cx} {pins : List (Addr × Obj)} {σ : L2.St} {H : Hp} {s : Shared}
/-- the table has grown; all else is kept -/
theorem inv_tabO {P : Addr} {ps : Array Value} {h' : Heap} {g' : Array GenState} {d' : Drawn} {t' : Nat} (I : Inv X pins σ H s) (hP : H P = some (TabO P)) (k : ∀ b o, b ≠ P → s.heap.get? b = some o → h'.get? b = some o)
    (hm : h'.get? P = some { cls := .none, data := .fields ps }) (ht : TriplesOk ps.toList) (hg : AllBare g') : Inv X pins σ H { s with heap := h', gens := g', drawn := d', toks := t' } := by
  have un : ∀ {b : Addr}, H b = none → b ≠ P := fun n z => by rw [z, hP] at n; cases n
  refine I.step (H' := H) (ch := []) (fun _ z => absurd z List.not_mem_nil) (fun b o _ _ _ e n => k b o (un n) e) (fun b o _ _ _ e n => ⟨_, k b o (un n) e⟩) (fun _ _ _ _ n => n) (fun b o _ e => ?_) (fun _ _ q => q) (fun _ _ _ q => q) (fun _ _ q => ⟨#[], by rw [q, Array.append_empty]⟩)
    (fun m hn => ?_) (fun b u e => ?_) hg
  · by_cases z : b = P
    · exact ⟨_, z ▸ hm⟩
    · exact ⟨o, k b o z e⟩
  · obtain ⟨o, es, ep, e, r⟩ := hn
    exact ⟨o, es, ep, k _ _ (un I.free) e, r⟩
  · by_cases z : b = P
    · subst z
      rw [hP] at e
      cases e
      exact tabO_ok hm ht
    · refine (I.hok b u e).stay (fun c v hc q => k c v ?_ q) (fun _ q => q) fun _ _ q => q
      rcases hc with z' | z'
      · rwa [z']
      · intro y
        rw [y, hP] at z'
        cases z'
/-- what an element of such an expression comes to, the frame's around being any -/
def EltQ (X : Cx) (P : Addr) (scope : Scope) (x : Str) (elt : Expr) (pins : List (Addr × Obj)) (σ : L2.St) (H : Hp) (v : V) (b : Bool) : Prop :=
  ∀ (s₁ s₂ : Shared) (cenv : Env) (A' : Around) (E' : Value → Shared → Prop) (u : Value) (m : Str → Option Value), Inv X pins σ H s₁ → RelV v u → cenv.scope = scope → cenv.cells = cloFrom X.env.cells scope.names [] → cenv.globals = X.env.globals →
    A'.handled = none → A'.depth ≤ X.A.depth + 1 → s₂.heap.Ns cenv.locals m → m x = some u → (∀ b o, b ≠ P → s₁.heap.get? b = some o → s₂.heap.get? b = some o) →
    wpAny (model X.prog X.w) A' (eval elt cenv) (fun y s₃ => y = .bool b ∧ Keeps s₂ s₃) E' s₂
/-- the scope of such an expression -/
structure GScope (env : Env) (scope : Scope) (x : Str) : Prop where
  kind : scope.kind = .function
  co : scope.isCoroutine = false
  cell : ∀ y ∈ scope.names, y.2 ≠ .cell
  dot : scope.names.lookup (".0" : Str) = some NameKind.local
  loc : scope.names.lookup x = some .local
  free : ∀ y ∈ scope.names, y.2 = .free → ∃ c, env.cells.lookup y.1 = some c
/-- all(elt for x in a list) -/
def tAllQ (K : PySem.W.Frag) (P : Addr) (EL : L2.St → Hp → V → Bool → Prop) (te : TE) : TE := fun σ H Q => te σ H fun v H1 => ∃ (l : Addr) (xs : List V) (tr : Nat → Bool), v = .ref l ∧ SqL K H1 l xs ∧ H1 P = some (TabO P) ∧
  (∀ i y, xs[i]? = some y → EL σ H1 y (tr i)) ∧ Q (.bl ((List.range xs.length).all tr)) H1
theorem pe_allQ {c P : Addr} {elt iter : Expr} {x : Str} {px p pos gpos : Pos} {scope : Scope} {te : TE} {k : Nat}
    (hr : Room k X.A) (hg : Gl X "all") (hm : X.mg "all" = none) (TB : LamX.TabB X.base X.mg c P) (hcode : X.env.code = .ref c) (S : X.Ok → GScope X.env scope x) (hi : PE X iter te)
    (hs : ∀ v, genFold iter X.env v = pure v)
    (he : starEach [.GeneratorExp elt [⟨.Name x px, iter, [], 0⟩] scope gpos] X.env = (false, eval (.GeneratorExp elt [⟨.Name x px, iter, [], 0⟩] scope gpos) X.env) :: starEach [] X.env := by rfl) :
    PE X (.Call (.Name "all" p) [.GeneratorExp elt [⟨.Name x px, iter, [], 0⟩] scope gpos] [] pos) (tAllQ X.K P (fun σ H v b => ∀ pins, EltQ X P scope x elt pins σ H v b) te) := by
  refine ⟨fun pins s σ H Q I h => ?_⟩
  have S := S I.ok
  refine wpAny_Call_Name_kw (ld_blt I hg hm (by first | rfl | decide +kernel) ?_)
  refine PyProof.Rows.callWith_builtin1 ?_ he (by rfl)
  rw [he]
  show wpAny _ _ (spliced ((false, eval (.GeneratorExp elt [⟨.Name x px, iter, [], 0⟩] scope gpos) X.env) :: backTo pos (starEach [] X.env))) _ _ s
  refine Calls.spliced_cons (wpAny_GeneratorExp_walksQD hr.hd S.co (closure_ok S.free) S.cell S.dot S.loc S.kind (by have := hr.dp; omega) (thn (hi.run pins s σ H _ I h) fun xv s1 r => ?_) hs)
  obtain ⟨v, H1, I1, rx, l, xs, tr, ev, hl, hP, el, hQ⟩ := r
  subst ev
  obtain rfl : xv = Value.ref l := rx
  obtain ⟨its, rv, pl, _⟩ := I1.list hl
  refine wpAny_pyIter_list pl.isList ?_
  obtain ⟨ps, hPs, ht⟩ := tabO_at I1.hok hP
  obtain ⟨io, hio⟩ : ∃ io : Obj, io = { cls := .type "list_iterator", data := .fields #[.ref l, .int 0 0] } := ⟨_, rfl⟩
  rw [← hio]
  have kp2 : ∀ b o, s1.heap.get? b = some o → (s1.heap.push io).get? b = some o := fun b o e => Heap.get?_push_of_some _ e
  have lim2 : (s1.heap.push io).NoLimit := I1.nolimit.push io
  have hPlt : P < s1.heap.objs.size := Heap.lt_size hPs
  have llt : l < s1.heap.objs.size := by
    obtain ⟨o, e, _⟩ := pl.isList
    exact Heap.lt_size e
  have at2 : (s1.heap.push io).get? s1.heap.objs.size = some io := by rw [hio]; exact Heap.get?_push_size _ rfl
  have tyP : ∀ {b : Addr}, H1 b = none → b ≠ P := fun n z => by rw [z, hP] at n; cases n
  have lP : l ≠ P := by
    obtain ⟨o, e, c, _⟩ := pl.isList
    intro z
    rw [z, hPs] at e
    cases e
    cases c
  refine ⟨lim2, thn (Q := fun _ s₃ => ∃ (h3 : Heap) (tk : Nat) (ps' : Array Value), s₃ = { s1 with heap := h3, toks := tk } ∧ (∀ b o, b ≠ P → (s1.heap.push io).get? b = some o → h3.get? b = some o) ∧ (s1.heap.push io).objs.size ≤ h3.objs.size ∧ h3.get? P = some { cls := .none, data := .fields ps' } ∧ TriplesOk ps'.toList) ?code ?rest⟩
  case code =>
    have cd : PySem.W.CodeHd (s1.heap.push io) c P := TB.code.keeps fun b u e => kp2 _ _ (I1.bk b u e)
    cases hf : codeAmong gpos ps.toList with
    | none =>
      refine wpAny_genexprCodeX hcode (cd.code (kp2 _ _ hPs) ht) (cd.tab (kp2 _ _ hPs)) hf fun c' h' tk hx hge hlt hco' _ htab' _ => ?_
      obtain ⟨o1, vs, f1, tf, fl, tg, inF, tx, tt, op, _, _, _, _, _, _, _, _, _, htr, _⟩ := hco'
      exact ⟨h', tk, _, rfl, hx, Nat.le_trans hge (Nat.le_of_lt hlt), htab'.2, htr⟩
    | some cv =>
      exact wpAny_genexprCode_hit hcode (cd.code (kp2 _ _ hPs) ht) hf ⟨_, s1.toks, ps, rfl, fun _ _ _ e => e, Nat.le_refl _, kp2 _ _ hPs, ht⟩
  case rest =>
    rintro code s3 ⟨h3, tk, ps', rfl, k3, sz3, hP3, ht3⟩
    obtain ⟨bm, ob, e1, e2, e3, e4, e5, e6, e7, e8⟩ := TB.bm
    have hcP : cStatics ≠ P := fun z => by
      obtain ⟨_, ⟨o, es, ep, ho, hd, _⟩, _⟩ := I1.nolimit
      rw [z, hPs] at ho
      cases ho
      cases hd
    have hcl : cStatics < s1.heap.objs.size := let ⟨_, hns, _⟩ := I1.nolimit; hns.lt
    have k13 : ∀ b o, b ≠ P → s1.heap.get? b = some o → h3.get? b = some o := fun b o hb e => k3 b o hb (kp2 b o e)
    have nlt : ∀ {b : Addr}, b < s1.heap.objs.size → b ≠ s1.heap.objs.size := fun z => Nat.ne_of_lt z
    have lt3 : s1.heap.objs.size < h3.objs.size := by
      have : (s1.heap.push io).objs.size = s1.heap.objs.size + 1 := Heap.size_push ..
      exact Nat.lt_of_lt_of_le (by rw [this]; exact Nat.lt_succ_self _) sz3
    have bne : ∀ b o, X.base.get? b = some o → b ≠ P := fun b o e => tyP (I1.bs b o e).2
    refine wpAny_builtinsFor (m := X.mg) ?_ e1 e2 (k13 _ _ e4 (I1.bk _ _ e5)) e6 e7 e8 ?_
    · rw [I1.ok.glob]
      obtain ⟨o, es, ep, ho, r⟩ := I1.mod.glob
      exact ⟨o, es, ep, k13 _ _ (bne _ _ ho) (I1.bk _ _ ho), r⟩
    have xl : xs.length = its.toArray.size := by rw [List.size_toArray]; exact rv.length
    refine ⟨s1.heap.objs.size, [s1.heap.objs.size, l], [s1.heap.objs.size], its.toArray.size, fun i v => its.toArray[i]? = some v, fun i h => h.IsListIter s1.heap.objs.size l i ∧ h.IsList l its.toArray, fun _ => true, fun i y => i < xs.length ∧ y = .bool (tr i), rfl,
      fun A' hA => Walks.list hA _ l (nlt llt) its.toArray, ⟨?_, ?_⟩, ?_, ?_, ?_, ?_, ?_⟩
    · refine ⟨io, k3 _ _ (Ne.symm (nlt hPlt)) at2, ?_⟩
      rw [hio]
      exact ⟨rfl, rfl⟩
    · obtain ⟨o, e, r⟩ := pl.isList
      exact ⟨o, k13 _ _ lP e, r⟩
    · intro b hb
      show b < h3.objs.size
      rcases List.mem_cons.mp hb with z | z
      · rw [z]
        exact lt3
      · have : b = l := by simpa using z
        rw [this]
        exact Nat.lt_trans llt lt3
    · obtain ⟨mc, ⟨o, es, ep, ho, r⟩, q⟩ := lim2
      exact ⟨mc, ⟨o, es, ep, k3 _ _ hcP ho, r⟩, q⟩
    · intro z
      have : cStatics = s1.heap.objs.size := by simpa using z
      rw [this] at hcl
      exact Nat.lt_irrefl _ hcl
    · intro href hk
      refine ⟨fun A' E' i v s₂ m hA _ _ _ _ _ _ => ?_, fun A' E' i v s₂ m hA hd _ hv _ hn hm2 hk2 => ?_⟩
      · rw [List.forIn_nil]
        exact wpAny_pure ⟨rfl, kp_refl _⟩
      · have hi : i < xs.length := by
          rw [xl]
          exact (Array.getElem?_eq_some_iff.mp hv).1
        obtain ⟨u, hu, ru⟩ := rv.get (List.getElem?_eq_getElem hi)
        have eu : u = v := by
          have hv' : its.toArray[i]? = some v := hv
          rw [List.getElem?_toArray, hu] at hv'
          exact Option.some.inj hv'
        subst eu
        refine wpAny_mono (el i _ (List.getElem?_eq_getElem hi) pins s1 s₂ _ A' E' u m I1 ru rfl rfl rfl hA hd hn hm2 fun b o hb e => ?_) (fun y s3 r => ⟨⟨hi, r.1⟩, r.2⟩) fun _ _ e => e
        refine hk2 b ?_ ?_ o (hk b o (k13 b o hb e))
        · refine List.mem_range.mpr ?_
          show b < h3.objs.size
          exact Heap.lt_size (k13 b o hb e)
        · intro z
          have : b = s1.heap.objs.size := by simpa using z
          exact nlt (Heap.lt_size e) this
    · intro g h5 tk5 gs hgb hag hsz5 hk5 W5 hat
      simp only [GxR.passing_true, List.length_range] at W5
      refine Calls.spliced_nil ?_
      have W := W5.in4_1
      refine call_all_walkS (W.self 0 _ _ _ hat ⟨g, _, _, _, _, _, _, tr, rfl, W, hat, ?_, fun s' hmv => ?_⟩)
      · rintro j y sj Qj Ej ⟨i, hij, hi, rfl⟩ q
        obtain ⟨hj, ej⟩ := List.getElem?_eq_some_iff.mp hij
        rw [List.getElem_range] at ej
        subst ej
        exact wpAny_truthy_bool q
      · have nwr : ∀ b u, s1.heap.get? b = some u → b ∉ h3.objs.size :: [s1.heap.objs.size] := fun b u e z => by
          have lt := Heap.lt_size e
          rcases List.mem_cons.mp z with z | z
          · rw [z] at lt
            exact Nat.lt_irrefl _ (Nat.lt_trans lt lt3)
          · have : b = s1.heap.objs.size := by simpa using z
            rw [this] at lt
            exact Nat.lt_irrefl _ lt
        have J := inv_tabO (h' := s'.heap) (g' := s'.gens) (d' := s'.drawn) (t' := s'.toks) I1 hP (fun b u hb e => hmv.heap b u (nwr b u e) (hk5 b u (k13 b u hb e))) (hmv.heap P _ (nwr P _ hPs) (hk5 P _ hP3)) ht3 (AllBare.movedS (I1.bare.push hgb) hmv)
        rw [GxR.sh_eta s1 s' hmv.os] at J
        rw [← xl]
        exact ⟨.bl _, H1, J, rfl, hQ⟩
end
end LL

namespace LL
open PySem PySem.Spec PySem.Calls PyProof.Rows L2
section
variable {X : Cx}
/-- what the def reach is -/
structure ReachD (K : PySem.W.Frag) (mg : Str → Option Value) (f : Addr) : Prop where
  g : mg "reach" = some (.ref f)
  kp : PySem.W.keepIn K (.ref f) = true
  ex : ∃ (oc : Value) (od : Option Addr) (osl : Array (Option Value)) (name qual : Str) (params : Arguments) (scope : Scope) (dV kV doc pm cdv ct : Value) (an : Option Addr) (p1 p2 p3 p4 p5 p6 q1 q2 q3 q4 q5 q6 r1 r2 r3 r4 r5 r6 r7 r8 r9 r10 r11 r12 : Pos) (k1 k2 : Nat),
    K.lookup f = some ⟨oc, od, Data.func (PySem.W.fnOf name qual params [.Assign [.Tuple [.Name "a" p1, .Name "b" p2, .Name "c" p3] k1 p4] (.Name "fence" p5) p6, .Assign [.Tuple [.Name "x" q1, .Name "y" q2, .Name "by" q3] k2 q4] (.Name "spot" q5) q6,
      .Return (some (.BinOp (.BinOp (.BinOp (.Name "a" r1) .Mult (.Name "x" r2) r3) .Add (.BinOp (.Name "b" r4) .Mult (.Name "y" r5) r6) r7) .Sub (.BinOp (.Name "c" r8) .Mult (.Name "by" r9) r10) r11)) r12] scope dV kV doc pm an cdv ct), osl⟩ ∧
    PySem.W.codeIn K cdv qual = true ∧ scope.kind = .function ∧ scope.isCoroutine = false ∧ scope.isGenerator = false ∧
    (∀ z ∈ (["a", "b", "c", "x", "y", "by", "fence", "spot"] : List Str), scope.names.lookup z = some NameKind.local) ∧
    ∀ p q body, bindArgs (PySem.W.fnOf name qual params body scope dV kV doc pm an cdv ct) ⟨[Value.ref p, Value.ref q], []⟩ = pure [(("fence" : Str), Value.ref p), (("spot" : Str), Value.ref q)]
theorem vals3 {a b c : Int} {us : List Value} (h : Vals [.int a, .int b, .int c] us) : ∃ t1 t2 t3, us = [.int a t1, .int b t2, .int c t3] := by
  match us, h with
  | [u, v, z], .cons r1 (.cons r2 (.cons r3 .nil)) =>
    obtain ⟨t1, rfl⟩ := r1
    obtain ⟨t2, rfl⟩ := r2
    obtain ⟨t3, rfl⟩ := r3
    exact ⟨t1, t2, t3, rfl⟩
theorem elt_reach {P f p q : Addr} {scope : Scope} {a b c x y d : Int} {pins : List (Addr × Obj)} {σ : L2.St} {H : Hp} {i j : Nat} {p1 p2 p3 p4 p5 p6 : Pos} {t : Bool} (R : ReachD X.K X.mg f) (hP : H P = some (TabO P)) (hk : scope.kind = .function)
    (l1 : scope.names.lookup ("line" : Str) = some NameKind.local) (l2 : (("spot" : Str), NameKind.free) ∈ scope.names) (l4 : scope.names.lookup ("spot" : Str) = some NameKind.free) (l3 : scope.names.lookup ("reach" : Str) = some NameKind.globalImplicit)
    (hfree : X.Ok → ∀ y ∈ scope.names, y.2 = .free → ∃ c, X.env.cells.lookup y.1 = some c)
    (hN : X.N[i]? = some "spot") (hv : X.env.scope.names.lookup ("spot" : Str) = some NameKind.cell) (hσ : σ[i]? = some (some (.ref q))) (hp : H p = some (.tup [.int a, .int b, .int c])) (hq : H q = some (.tup [.int x, .int y, .int d]))
    (m1 : CMulW a x) (m2 : CMulW b y) (m3 : CMulW c d) (hr : X.A.depth + 1 < recursionLimit) (ht : decide (reachI a b c x y d ≤ 0) = t) :
    EltQ X P scope "line" (.Compare (.Call (.Name "reach" p1) [.Name "line" p2, .Name "spot" p3] [] p4) [.LtE] [.Constant (.int 0) j p5] p6) pins σ H (.ref p) t := by
  intro s₁ s₂ cenv A' E' u m I ru hsc hce hgl hh hd hn hm k
  obtain rfl : u = Value.ref p := ru
  have un : ∀ {b : Addr}, H b = none → b ≠ P := fun n z => by rw [z, hP] at n; cases n
  have bk : ∀ b o, X.base.get? b = some o → s₂.heap.get? b = some o := fun b o e => k b o (un (I.bs b o e).2) (I.bk b o e)
  have ne3 : ∀ {b : Addr} {xs : List V}, H b = some (.tup xs) → b ≠ P := fun e z => by rw [z, hP] at e; cases e
  have tupK : ∀ {b : Addr} {xs : List V}, H b = some (.tup xs) → ∃ its : List Value, Vals xs its ∧ IsTup s₂.heap b its.toArray := fun {b xs} e => by
    obtain ⟨_, its, r, o, e1, e2⟩ := I.hok b _ e
    exact ⟨its, r, o, k b o (ne3 e) e1, e2⟩
  obtain ⟨us, ru, tp⟩ := tupK hp
  obtain ⟨vs, rv, tq⟩ := tupK hq
  obtain ⟨t1, t2, t3, rfl⟩ := vals3 ru
  obtain ⟨t4, t5, t6, rfl⟩ := vals3 rv
  -- the cell of spot
  obtain ⟨cc, hcc, v, hcv, hval⟩ : ∃ cc, cenv.cells.lookup ("spot" : Str) = some cc ∧ ∃ v, s₂.heap.IsCell cc (some v) ∧ v = Value.ref q := by
    obtain ⟨m0, _, hl⟩ := I.loc
    obtain ⟨v, rvv, lk⟩ := hl i "spot" (.ref q) hN hσ (.inr (.inl hv))
    rcases lk with ⟨z, _⟩ | ⟨_, cc, e, o, ho, hd⟩
    · have z : X.env.scope.names.lookup ("spot" : Str) = some NameKind.local := z
      rw [hv] at z
      cases z
    · refine ⟨cc, ?_, v, ⟨o, k cc o (un (I.freeC _ _ e)) ho, hd⟩, rvv⟩
      rw [hce]
      exact NdefX.clo_has (hfree I.ok) l2 e
  subst hval
  have kd : cenv.scope.kind = .function := by rw [hsc]; exact hk
  have gl : s₂.heap.Ns cenv.globals X.mg := by
    rw [hgl, I.ok.glob]
    obtain ⟨o, es, ep, ho, r⟩ := I.mod.glob
    exact ⟨o, es, ep, bk _ _ ho, r⟩
  obtain ⟨oc, od, osl, name, qual, params, rs, dV, kV, doc, pm, cdv, ct, an, a1, a2, a3, a4, a5, a6, b1, b2, b3, b4, b5, b6, c1, c2, c3, c4, c5, c6, c7, c8, c9, c10, c11, c12, k1, k2, lk, hcd, r1, r2, r3, r4, r5⟩ := R.ex
  refine wpAny_Compare1 ?_
  refine wpAny_Call_Name_kw (Calls.Name_function_global kd (by show cenv.scope.names.lookup _ = _; rw [hsc]; exact l3) (Calls.loadGlobal_global gl R.g ?_))
  refine PySem.W.callWith_K (h₀ := X.base) I.ok.mod.kin R.kp ?_
  show wpAny _ _ (spliced ((false, eval (.Name "line" p2) cenv) :: backTo p4 (starEach [.Name "spot" p3] cenv))) _ _ _
  refine Calls.spliced_cons (wpAny_Name (wpAny_loadName_local kd (by show cenv.scope.names.lookup _ = _; rw [hsc]; exact l1) hn hm ?_))
  show wpAny _ _ (spliced ((false, _) :: backTo p4 (starEach [] cenv))) _ _ _
  refine Calls.spliced_cons (wpAny_Name (wpAny_loadName_free kd (by show cenv.scope.names.lookup _ = _; rw [hsc]; exact l4) hcc hcv ?_))
  refine Calls.spliced_nil ⟨I.ok.mod.kin.keeps bk, ?_⟩
  refine raw_reach lk hcd (I.ok.mod.kin.keeps bk) (I.ok.mod.nolimit.keeps bk) r1 r2 r3 (r4 _ (by simp)) (r4 _ (by simp)) (r4 _ (by simp)) (r4 _ (by simp)) (r4 _ (by simp)) (r4 _ (by simp)) (r4 _ (by simp)) (r4 _ (by simp)) (r5 p q) tp tq m1.ok m2.ok m3.ok hh (by omega) fun t7 s3 kp => ?_
  refine wpAny_Constant_int (le_int ⟨?_, ?_⟩)
  · rw [← ht]
    rfl
  · obtain ⟨h', tk, rfl, kk⟩ := kp
    exact ⟨h', _, rfl, kk⟩
end
end LL

namespace LL
open PySem PySem.Spec PySem.Calls PyProof.Rows L2
/-! ### the defs with code of their own within -/
def tfL : List He.Defn := [("_is_kept", none), ("corners_between", none)]
def tabOf (K : PySem.W.Frag) (x : Str) : Addr := (He.cT K (x, none)).2
def csL (K : PySem.W.Frag) : List (Addr × Addr) := tfL.map (He.cT K)
def tabK (K : PySem.W.Frag) : Addr := tabOf K "_is_kept"
def tabC (K : PySem.W.Frag) : Addr := tabOf K "corners_between"
/-- the tables stand -/
structure Tabs (K : PySem.W.Frag) (H : Hp) : Prop where
  kept : H (tabK K) = some (TabO (tabK K))
  between : ∃ ps, H (tabC K) = some (.tbl ps) ∧ TabQ H ps lamQ
theorem Tabs.up {K : PySem.W.Frag} {H H' : Hp} (t : Tabs K H) (s : Same H H') : Tabs K H' := by
  obtain ⟨ps, e, q⟩ := t.between
  obtain ⟨ps', e', k⟩ := s _ _ e
  exact ⟨s _ _ t.kept, ps', e', k q⟩
theorem Tabs.put {K : PySem.W.Frag} {H : Hp} {e : Addr} {vs ws : List V} (t : Tabs K H) (he : H e = some (.lst vs)) : Tabs K (upd H e (.lst ws)) := by
  obtain ⟨ps, e1, t1, t2⟩ := t.between
  refine ⟨(upd_ne (ne_of t.kept he (by intro z; cases z))).trans t.kept, ps, (upd_ne (ne_of e1 he (by intro z; cases z))).trans e1, t1, fun pos cv hc => ?_⟩
  obtain ⟨c, e2, e3⟩ := t2 pos cv hc
  exact ⟨c, e2, (upd_ne (ne_of e3 he (by intro z; cases z))).trans e3⟩
theorem Tabs.new {K : PySem.W.Frag} {H : Hp} {e : Addr} {o : HO} (t : Tabs K H) (he : H e = none) : Tabs K (upd H e o) := t.up (same_upd he)
/-- FunD.ok, where the def's own code object is known -/
theorem FnP.okC {P : Program} {w : World} {K : PySem.W.Frag} {mg : Str → Option Value} {base : Heap} {CX : CXT} {N ps : List Str} {k : Nat} {sp : Sp} {x : Str} {st : Stmt} {fd : FuncData} (F : FnP K x st fd) (S : FnScope N ps (defScope st)) (len : ∀ vs H Q E, sp vs H Q E → vs.length = ps.length)
    (hbody : ∀ (cdv : Value), cdv = .ref (He.cT K (x, none)).1 → ∀ (A : Around) (outer : List Env) (s : Shared) (H : Hp) (vs : List V) (Q : VK) (E : XK), Room k (A.deeper (envOfC x (defScope st) s.heap.objs.size (He.ga K x) cdv)) → sp vs H Q E →
      ∃ t, PSs (cxOf CX P w K mg base N x (defScope st) (He.ga K x) cdv A outer s H E) (defBody st) t ∧ t { nx := fun _ H' => Q .non H', rt := Q } (start N vs) H) : FnOk P w K mg base CX (k + 1) (He.ga K x) fd ps sp := by
  obtain ⟨oc, od, dV, kV, doc, pm, an, cdv, ct, osl, rfl, lk, hcd, _, _⟩ := F.ex
  obtain ⟨c, rfl⟩ := He.codeIn_ref hcd
  have e : He.codeOf K (x, none) = c := He.codeOf_eq (p := (x, none)) lk rfl
  exact fn_of lk hcd S len fun A outer s H vs Q E hr hsp => hbody _ (by rw [← e]; rfl) A outer s H vs Q E hr hsp
/-- a type of the library, by its name at the top -/
def typB (K : PySem.W.Frag) (x : Str) (id : String) : Bool := He.eqO (PySem.W.nsIn K mainGlobals x) (some (some (.type id)))
theorem typB_ok {K : PySem.W.Frag} {h : Heap} {mg : Str → Option Value} (X : K.In h) (G : h.Ns mainGlobals mg) {x : Str} {id : String} (c : typB K x id = true) : mg x = some (.type id) := PySem.W.mg_of X G (He.eqO_ok c)
/-! ### the law's promise: from tables that are empty to tables that may grow -/
def sp_lawT (K : PySem.W.Frag) : Sp := fun vs H Q _ => ∃ (a : Addr) (ns : List Int), vs = [.ref a] ∧ SqL K H a (ns.map V.int) ∧ ns.length ≤ 63 ∧ Tabs K H ∧ ∀ H', Tabs K H' → Q (.bl true) H'
def sp_law0 (K : PySem.W.Frag) : Sp := fun vs H Q _ => ∃ (a : Addr) (ns : List Int), vs = [.ref a] ∧ SqL K H a (ns.map V.int) ∧ ns.length ≤ 63 ∧ H (tabK K) = some (.tbl #[]) ∧ H (tabC K) = some (.tbl #[]) ∧ ∀ H', Q (.bl true) H'
/-- H with the table at P seen as a thing that grows; and back -/
def seenG (P : Addr) (H : Hp) : Hp := fun b => if b = P then some (TabO P) else H b
def seenT (P : Addr) (h : Heap) (H : Hp) : Hp := fun b => if b = P then some (.tbl (match h.get? P with | some ⟨_, _, .fields ps, _⟩ => ps | _ => #[])) else H b
theorem seenG_out {P : Addr} {H : Hp} {b : Addr} (h : b ≠ P) : seenG P H b = H b := if_neg h
theorem seenT_out {P : Addr} {h : Heap} {H : Hp} {b : Addr} (e : b ≠ P) : seenT P h H b = H b := if_neg e
theorem fnok_tabs {P : Program} {w : World} {K : PySem.W.Frag} {mg : Str → Option Value} {base : Heap} {k : Nat} {f : Addr} {fd : FuncData} {x : Str} (ne : tabC K ≠ tabK K) (F : FnOk P w K mg base CX0 k f fd [x] (sp_lawT K)) : FnOk P w K mg base CX0 k f fd [x] (sp_law0 K) := by
  refine ⟨fun vs H Q E ⟨a, ns, e, _⟩ => by rw [e]; rfl, fun A outer s H args us vs Q E hr e0 hb r hsp => ?_⟩
  obtain ⟨a, ns, rfl, hS, hl, hT, hC, hQ⟩ := hsp
  have noT : ∀ {b : Addr} {o : HO}, H b = some o → (∀ ps, o ≠ .tbl ps) → b ≠ tabK K := fun e n z => by
    rw [z, hT] at e
    exact n _ (Option.some.inj e).symm
  have noN : ∀ {b : Addr}, H b = none → b ≠ tabK K := fun e z => by rw [z, hT] at e; cases e
  have same : ∀ {b : Addr} {o : HO}, H b = some o → (∀ ps, o ≠ .tbl ps) → seenG (tabK K) H b = some o := fun e n => (seenG_out (noT e n)).trans e
  have tabs : Tabs K (seenG (tabK K) H) := ⟨if_pos rfl, #[], (seenG_out ne).trans hC, True.intro, fun pos cv hc => by cases hc⟩
  have e1 : Env0 P w K mg base A outer s (seenG (tabK K) H) := by
    refine ⟨e0.frames, e0.mod, fun b o e => ⟨(e0.bs b o e).1, ?_⟩, e0.bsz, e0.funs, fun b hb => ?_, fun b u e => ?_, e0.bare⟩
    · rw [seenG_out (noN (e0.bs b o e).2)]
      exact (e0.bs b o e).2
    · rw [seenG_out (noN (e0.frf b hb))]
      exact e0.frf b hb
    · by_cases hb : b = tabK K
      · subst hb
        have e := (if_pos rfl).symm.trans e
        cases e
        exact tabO_ok (show s.heap.get? (tabK K) = some { cls := .none, data := .fields #[] } from e0.hok _ _ hT) True.intro
      · rw [seenG_out hb] at e
        exact (e0.hok b u e).stay (fun _ _ _ q => q) (fun c q => same q fun _ z => by cases z) fun c xs q => same q fun _ z => by cases z
  have hS1 : SqL K (seenG (tabK K) H) a (ns.map V.int) := by
    rcases hS with (h | ⟨o, h⟩) | h
    · exact .inl (.inl (same h fun _ z => by cases z))
    · exact .inl (.inr ⟨o, same h fun _ z => by cases z⟩)
    · exact .inr h
  refine codeAny_mono (F.run A outer s (seenG (tabK K) H) args us [.ref a] (fun v H' => v = .bl true ∧ Tabs K H') E hr e1 hb r ⟨a, ns, rfl, hS1, hl, tabs, fun H' t => ⟨rfl, t⟩⟩) fun rr s' hq => ?_
  cases rr with
  | error e => exact hq
  | ok fl =>
    cases fl with
    | next => exact hq
    | brk => exact hq
    | cont => exact hq
    | ret u =>
      obtain ⟨v, H', os, bare, un, hok, rv, ev, tb⟩ := (show CE outer P w (seenG (tabK K) H) s _ u s' from hq)
      subst ev
      have at' := tb.kept
      have noT' : ∀ {b : Addr} {o : HO}, H' b = some o → (∀ φ, o ≠ .ext φ) → b ≠ tabK K := fun e n z => by
        rw [z, at'] at e
        exact n _ (Option.some.inj e).symm
      have same' : ∀ {b : Addr} {o : HO}, H' b = some o → (∀ φ, o ≠ .ext φ) → seenT (tabK K) s'.heap H' b = some o := fun e n => (seenT_out (noT' e n)).trans e
      refine ⟨.bl true, seenT (tabK K) s'.heap H', os, bare, ⟨fun b o e n hb hx => ?_, fun b o e n hb hx => ?_, fun b o e n hx => ?_, fun b o e hx => un.there b o e hx, fun b xs e => ?_, fun b o u e => ?_, fun b ps e => ?_⟩, fun b u e => ?_, rv, hQ _⟩
      · exact un.keep b o e ((seenG_out (noN n)).trans n) hb hx
      · exact un.slot b o e ((seenG_out (noN n)).trans n) hb hx
      · rw [seenT_out (noN n)]
        exact un.free b o e ((seenG_out (noN n)).trans n) hx
      · exact same' (un.tups b xs (same e fun _ z => by cases z)) fun _ z => by cases z
      · exact same' (un.frzs b o u (same e fun _ z => by cases z)) fun _ z => by cases z
      · by_cases hb : b = tabK K
        · subst hb
          have e2 := hT
          rw [e] at e2
          cases e2
          exact ⟨_, (if_pos rfl).trans (by rw [Array.empty_append])⟩
        · obtain ⟨more, h⟩ := un.tbls b ps ((seenG_out hb).trans e)
          exact ⟨more, (seenT_out hb).trans h⟩
      · by_cases hb : b = tabK K
        · subst hb
          obtain ⟨ps, hps, _⟩ := tabO_at hok at'
          have e' := (if_pos rfl).symm.trans e
          rw [hps] at e'
          cases e'
          exact hps
        · rw [seenT_out hb] at e
          exact (hok b u e).stay (fun _ _ _ q => q) (fun c q => same' q fun _ z => by cases z) fun c xs q => same' q fun _ z => by cases z
end LL

namespace LL
open PySem PySem.Spec PySem.Calls PyProof.Rows L2
/-! ### lists of triples as data -/
def rowD (r : LG.Row) : PyData := .tuple [.int r.a, .int r.b, .int r.c]
def ptD (q : LG.Pt) : PyData := .tuple [.int q.x, .int q.y, .int q.w]
theorem dp_row {K : PySem.W.Frag} {H : Hp} {p : Addr} {r : LG.Row} (h : H p = some (rowHO r)) : Dp K H (.ref p) (rowD r) := dp_three h
theorem dp_pt {K : PySem.W.Frag} {H : Hp} {p : Addr} {q : LG.Pt} (h : H p = some (ptHO q)) : Dp K H (.ref p) (ptD q) := dp_three h
theorem dp_all {α : Type} {f : α → HO} {g : α → PyData} {K : PySem.W.Frag} {H : Hp} (hfg : ∀ p x, H p = some (f x) → Dp K H (.ref p) (g x)) : ∀ {ps : List Addr} {xs : List α}, At f H ps xs → DpAll K H (ps.map V.ref) (xs.map g)
  | [], [], _ => .nil
  | [], x :: xs, h => by cases h
  | p :: ps, [], h => by cases h
  | p :: ps, x :: xs, h => by
    have h1 : H p = some (f x) := by injection h
    have h2 : At f H ps xs := by injection h
    exact .cons (hfg p x h1) (dp_all hfg h2)
theorem dp_rows {K : PySem.W.Frag} {H : Hp} {l : Addr} {ps : List Addr} {fs : List LG.Row} (h : RowL H l ps fs) : Dp K H (.ref l) (.list (fs.map rowD)) := .lst h.seq (dp_all (fun _ _ => dp_row) h.at_)
theorem dp_pts {K : PySem.W.Frag} {H : Hp} {l : Addr} {ps : List Addr} {qs : List LG.Pt} (h : PtL H l ps qs) : Dp K H (.ref l) (.list (qs.map ptD)) := .lst h.seq (dp_all (fun _ _ => dp_pt) h.at_)
/-- three numbers -/
def Tri3 (d : PyData) : Prop := ∃ a b c : Int, d = .tuple [.int a, .int b, .int c]
theorem lay_all : ∀ {ds : List PyData}, (∀ d ∈ ds, Tri3 d) → PyData.canLayAll0 ds = true ∧ PyData.depthAll ds ≤ 1
  | [], _ => ⟨rfl, by decide⟩
  | d :: ds, h => by
    obtain ⟨h1, h2⟩ := lay_all (ds := ds) fun d hd => h d (List.mem_cons_of_mem _ hd)
    obtain ⟨a, b, c, rfl⟩ := h d List.mem_cons_self
    constructor
    · show (true && PyData.canLayAll0 ds) = true
      rw [h1]
      rfl
    · show max 1 (PyData.depthAll ds) ≤ 1
      omega
theorem shaped_list {ds : List PyData} (h : ∀ d ∈ ds, Tri3 d) : SeqAt.shaped (.list ds) = true := by
  obtain ⟨h1, h2⟩ := lay_all h
  unfold SeqAt.shaped
  rw [PySem.PyData.canLay0.eq_def]
  simp only
  rw [h1]
  show (true && decide (PyData.depthAll ds + 1 ≤ 64)) = true
  rw [decide_eq_true (by omega)]
  rfl
theorem lay_list {ds : List PyData} (h : ∀ d ∈ ds, Tri3 d) : PyData.canLay0 (.list ds) = true := by
  rw [PySem.PyData.canLay0.eq_def]
  exact (lay_all h).1
theorem tri_rows {fs : List LG.Row} : ∀ d ∈ fs.map rowD, Tri3 d := fun d hd => by
  obtain ⟨r, _, rfl⟩ := List.mem_map.mp hd
  exact ⟨_, _, _, rfl⟩
theorem tri_pts {qs : List LG.Pt} : ∀ d ∈ qs.map ptD, Tri3 d := fun d hd => by
  obtain ⟨r, _, rfl⟩ := List.mem_map.mp hd
  exact ⟨_, _, _, rfl⟩
theorem eqv_three (a b c x y z : Int) : PyData.eqv (.tuple [.int a, .int b, .int c]) (.tuple [.int x, .int y, .int z]) = decide (a = x ∧ b = y ∧ c = z) := by
  show ((a == x) && ((b == y) && ((c == z) && true))) = _
  rw [Bool.and_true]
  by_cases h1 : a = x <;> by_cases h2 : b = y <;> by_cases h3 : c = z <;> simp [h1, h2, h3]
theorem eqv_pt (p q : LG.Pt) : PyData.eqv (ptD p) (ptD q) = decide (p = q) := by
  unfold ptD
  rw [eqv_three]
  apply decide_eq_decide.mpr
  obtain ⟨a, b, c⟩ := p
  obtain ⟨x, y, z⟩ := q
  simp
theorem eqv_row (p q : LG.Row) : PyData.eqv (rowD p) (rowD q) = decide (p = q) := by
  unfold rowD
  rw [eqv_three]
  apply decide_eq_decide.mpr
  obtain ⟨a, b, c⟩ := p
  obtain ⟨x, y, z⟩ := q
  simp
theorem eqv_rows (fs : List LG.Row) : PyData.eqv (.list (fs.map rowD)) (.list (fs.map rowD)) = true := SeqAt.eqv_refl _ (lay_list tri_rows)
/-! ### a spot as a key -/
def ptK (q : LG.Pt) : List Key := [.inl q.x, .inl q.y, .inl q.w]
theorem ptK_inj {p q : LG.Pt} (h : ptK p = ptK q) : p = q := by
  obtain ⟨a, b, c⟩ := p
  obtain ⟨x, y, z⟩ := q
  simp [ptK] at h
  simp [h]
theorem ptHO_key (q : LG.Pt) : ptHO q = .tup ((ptK q).map kV) := rfl
/-! ### the corners' numbers -/
theorem rows_small {n : Int} {fs : List LG.Row} (hf : Fences fs) (h1 : 1 ≤ n) (h2 : n ≤ 1000) : ∀ r ∈ LG.rowsOf n fs, LG.Small 1000 1000000 r := fun r hr => by
  rcases List.mem_append.mp hr with k | k
  · have := hf.2 r k
    exact ⟨this.ha, this.hb, this.hc⟩
  · simp only [LG.edgesR, List.mem_cons, List.not_mem_nil, or_false] at k
    rcases k with e | e | e | e <;> rw [e] <;> refine ⟨?_, ?_, ?_⟩ <;> simp only <;> omega
theorem Told.sz {n : Int} {fs : List LG.Row} {qs : List LG.Pt} (h : LG.Told (LG.rowsOf n fs) qs) (hf : Fences fs) (h1 : 1 ≤ n) (h2 : n ≤ 1000) {q : LG.Pt} (hq : q ∈ qs) : SzP 100 q := by
  obtain ⟨b1, b2, b3⟩ := LG.corner_small (rows_small hf h1 h2) (h.low q hq) (h.corner q hq).two
  exact ⟨.of b1 (by decide), .of b2 (by decide), .of b3 (by decide)⟩
theorem rows_len {n : Int} {fs : List LG.Row} (hf : Fences fs) : (LG.rowsOf n fs).length ≤ 20 := by
  have := hf.1
  unfold LG.rowsOf
  rw [List.length_append]
  show fs.length + 4 ≤ 20
  omega
theorem told_20 {n : Int} {fs : List LG.Row} {qs : List LG.Pt} (h : LG.Told (LG.rowsOf n fs) qs) (hf : Fences fs) : qs.length ≤ 20 := by
  by_cases h3 : 3 ≤ qs.length
  · have := h.few' (LG.held_rows n fs) (LG.rows_nz hf.nz) h3
    have := rows_len (n := n) hf
    omega
  · omega
theorem told_few {n : Int} {fs : List LG.Row} {qs : List LG.Pt} (h : LG.Told (LG.rowsOf n fs) qs) (hf : Fences fs) : qs.length ≤ 400 := by
  have := h.few
  have l := rows_len (n := n) hf
  have := Nat.mul_le_mul l l
  omega
theorem atI_nat' {α : Type} {xs : List α} {i : Nat} (h : i < xs.length) : ((ixN xs.length (i : Int)).bind fun j => xs[j]?) = xs[i + 1 - 1]? := by
  have := atI_nat (List.getElem?_eq_getElem h)
  unfold L2.atI at this
  rw [this, Nat.add_sub_cancel, List.getElem?_eq_getElem h]
theorem at_prev {α : Type} {xs : List α} {i : Nat} (h : i < xs.length) : L2.atI xs (0 + (i : Int) - 1) = xs[LG.prev xs.length i]? := by
  unfold L2.atI LG.prev
  cases i with
  | zero =>
    have e : (0 : Int) + ((0 : Nat) : Int) - 1 = -1 := by omega
    rw [e, ixN_last h]
    rfl
  | succ i =>
    have e : (0 : Int) + ((i + 1 : Nat) : Int) - 1 = (i : Int) := by omega
    rw [e]
    exact atI_nat' (by omega)
theorem prev_lt {n k : Nat} (h : k < n) : LG.prev n k < n := by
  unfold LG.prev
  split <;> omega
theorem sz_of_told {n : Int} {fs : List LG.Row} {qs : List LG.Pt} (h : LG.Told (LG.rowsOf n fs) qs) (hf : Fences fs) (h1 : 1 ≤ n) (h2 : n ≤ 1000) : ∀ x ∈ qs, SzP 1000 x := fun x hx => (Told.sz h hf h1 h2 hx).mono (by decide)
/-! ### what the program's functions of a land promise -/
/-- a good size and a good list of fences -/
structure Land (H : Hp) (n : Int) (l : Addr) (ps : List Addr) (fs : List LG.Row) : Prop where
  n1 : 1 ≤ n
  n2 : n ≤ 1000
  at_ : RowL H l ps fs
  ok : Fences fs
theorem Land.up {H H' : Hp} {n : Int} {l : Addr} {ps : List Addr} {fs : List LG.Row} (h : Land H n l ps fs) (s : Same H H') : Land H' n l ps fs := ⟨h.n1, h.n2, h.at_.up s, h.ok⟩
/-- things that may stand in a list of fences: no more than a tuple or a list of plain things -/
inductive FItem (H : Hp) : V → Prop
  | plain {v : V} (a : Arg H v) (n : ∀ p, v ≠ .ref p := by intro _ z; cases z) : FItem H v
  | dK {p : Addr} {kvs : List (Key × V)} : H p = some (.dK kvs) → FItem H (.ref p)
  | tup {p : Addr} {vs : List V} : H p = some (.tup vs) → (∀ v ∈ vs, Arg H v) → FItem H (.ref p)
  | lst {p : Addr} {vs : List V} : H p = some (.lst vs) → FItem H (.ref p)
/-- is it a fence? -/
def IsFence (H : Hp) (x : V) : Prop := ∃ (p : Addr) (a b c : V), x = .ref p ∧ H p = some (.tup [a, b, c]) ∧ fenceOk a b c = true
/-- the refusals of a size and a list of fences -/
structure Refuse (K : PySem.W.Frag) (E : XK) (H : Hp) (v : V) (xs : List V) : Prop where
  size : within v 1 1000 = false → ∀ H', Same H H' → E (.ref (He.ga K "BadSize")) none H'
  many : within v 1 1000 = true → 16 < xs.length → ∀ H', Same H H' → E (.ref (He.ga K "TooMany")) none H'
  fence : within v 1 1000 = true → xs.length ≤ 16 → (∃ x ∈ xs, ¬ IsFence H x) → ∀ H', Same H H' → E (.ref (He.ga K "BadFence")) none H'
theorem fence_is {H : Hp} {l : Addr} {ps : List Addr} {fs : List LG.Row} (h : RowL H l ps fs) (hf : Fences fs) : ∀ x ∈ ps.map V.ref, IsFence H x := by
  intro x hx
  obtain ⟨i, hi⟩ := List.mem_iff_getElem?.mp hx
  obtain ⟨p, r, rfl, hp, hr, hat⟩ := h.get' hi
  have f := hf.2 r (List.mem_of_getElem? hr)
  refine ⟨p, _, _, _, rfl, hat, ?_⟩
  have a := f.ha
  have b := f.hb
  have c := f.hc
  unfold fenceOk
  rw [within_of (by omega) (by omega), within_of (by omega) (by omega), within_of (by omega) (by omega), decide_eq_false (fun ⟨e1, e2⟩ => f.ab ⟨V.int.inj e1, V.int.inj e2⟩)]
  rfl
theorem Land.no {K : PySem.W.Frag} {E : XK} {H : Hp} {n : Int} {l : Addr} {ps : List Addr} {fs : List LG.Row} (h : Land H n l ps fs) : Refuse K E H (.int n) (ps.map V.ref) := by
  have w := within_of h.n1 h.n2
  have len : (ps.map V.ref).length ≤ 16 := by rw [h.at_.len]; exact h.ok.1
  refine ⟨fun z => (by rw [w] at z; cases z), fun _ z => absurd z (by omega), fun _ _ z => ?_⟩
  obtain ⟨x, hx, n⟩ := z
  exact absurd (fence_is h.at_ h.ok x hx) n
theorem Land.items {H : Hp} {n : Int} {l : Addr} {ps : List Addr} {fs : List LG.Row} (h : Land H n l ps fs) : ∀ x ∈ ps.map V.ref, FItem H x := by
  intro x hx
  obtain ⟨i, hi⟩ := List.mem_iff_getElem?.mp hx
  obtain ⟨p, r, rfl, hp, hr, hat⟩ := h.at_.get' hi
  refine .tup hat fun v hv => ?_
  simp only [List.mem_cons, List.not_mem_nil, or_false] at hv
  rcases hv with e | e | e <;> rw [e] <;> exact .int _
theorem refs_inj {ps qs : List Addr} (h : ps.map V.ref = qs.map V.ref) : ps = qs := by
  induction ps generalizing qs with
  | nil =>
    cases qs with
    | nil => rfl
    | cons a t => cases h
  | cons a t ih =>
    cases qs with
    | nil => cases h
    | cons b t' =>
      have e1 : V.ref a = V.ref b := by injection h
      have e2 : t.map V.ref = t'.map V.ref := by injection h
      cases e1
      rw [ih e2]
theorem at_inj {α : Type} {f : α → HO} (inj : ∀ x y, f x = f y → x = y) {H : Hp} {ps : List Addr} {xs ys : List α} (h : At f H ps xs) (k : At f H ps ys) : xs = ys := by
  have e : xs.map (fun x => some (f x)) = ys.map (fun x => some (f x)) := h.symm.trans k
  clear h k
  induction xs generalizing ys with
  | nil =>
    cases ys with
    | nil => rfl
    | cons a t => cases e
  | cons a t ih =>
    cases ys with
    | nil => cases e
    | cons b t' =>
      have e1 : some (f a) = some (f b) := by injection e
      have e2 : t.map (fun x => some (f x)) = t'.map (fun x => some (f x)) := by injection e
      rw [inj a b (Option.some.inj e1), ih e2]
theorem row_inj (x y : LG.Row) (h : rowHO x = rowHO y) : x = y := by
  obtain ⟨a, b, c⟩ := x
  obtain ⟨a', b', c'⟩ := y
  simp [rowHO] at h
  simp [h]
theorem pt_inj (x y : LG.Pt) (h : ptHO x = ptHO y) : x = y := by
  obtain ⟨a, b, c⟩ := x
  obtain ⟨a', b', c'⟩ := y
  simp [ptHO] at h
  simp [h]
theorem LstAt.one {α : Type} {f : α → HO} (inj : ∀ x y, f x = f y → x = y) {H : Hp} {l : Addr} {ps qs : List Addr} {xs ys : List α} (h : LstAt f H l ps xs) (k : LstAt f H l qs ys) : ps = qs ∧ xs = ys := by
  have e := Option.some.inj (h.lst.symm.trans k.lst)
  have e1 : ps = qs := refs_inj (HO.lst.inj e)
  subst e1
  exact ⟨rfl, at_inj inj h.at_ k.at_⟩
/-- size and fences as they come: refused, or a land of which G tells -/
def Asks (K : PySem.W.Frag) (H : Hp) (E : XK) (v : V) (l : Addr) (G : Int → List LG.Row → Prop) : Prop :=
  Arg H v ∧ Tabs K H ∧ ∃ xs, H l = some (.lst xs) ∧ (∀ x ∈ xs, FItem H x) ∧ Refuse K E H v xs ∧ ∀ (n : Int) (ps : List Addr) (fs : List LG.Row), v = .int n → Land H n l ps fs → G n fs
theorem Land.asks {K : PySem.W.Frag} {H : Hp} {E : XK} {n : Int} {l : Addr} {ps : List Addr} {fs : List LG.Row} {G : Int → List LG.Row → Prop} (tb : Tabs K H) (h : Land H n l ps fs) (g : G n fs) : Asks K H E (.int n) l G := by
  refine ⟨.int n, tb, _, h.at_.lst, h.items, h.no, fun n' ps' fs' en h' => ?_⟩
  cases en
  obtain ⟨_, rfl⟩ := h.at_.one row_inj h'.at_
  exact g
def sp_corners (K : PySem.W.Frag) : Sp := fun vs H Q E => ∃ (v : V) (l : Addr), vs = [v, .ref l] ∧ Asks K H E v l fun n fs =>
  ∀ (H' : Hp) (d : Addr) (cs : List Addr) (qs : List LG.Pt), Same H H' → H d = none → PtL H' d cs qs → LG.Told (LG.rowsOf n fs) qs → Q (.ref d) H'
def sp_holds (K : PySem.W.Frag) : Sp := fun vs H Q E => ∃ (v : V) (l p : Addr) (q : LG.Pt), vs = [v, .ref l, .ref p] ∧ H p = some (ptHO q) ∧ 0 < q.w ∧ SzP 1000 q ∧ Asks K H E v l fun n fs =>
  ∀ H', Same H H' → Q (.bl (keptB (LG.rowsOf n fs) q)) H'
/-! ### pairs of numbers -/
def pairHO (k : Int × Int) : HO := .tup [.int k.1, .int k.2]
instance : TupF pairHO := ⟨fun k => ⟨_, rfl⟩⟩
theorem pair_tup : ∀ k : Int × Int, ∃ t, pairHO k = .tup t := fun k => ⟨_, rfl⟩
abbrev PairL (H : Hp) (l : Addr) (ps : List Addr) (ks : List (Int × Int)) : Prop := LstAt pairHO H l ps ks
def rowAt (rs : List LG.Row) (k : Int) : LG.Row := rs.getD k.toNat ⟨0, 0, 0⟩
def sumBy (f : LG.Row → Int) (rs : List LG.Row) : List (Int × Int) → Int
  | [] => 0
  | k :: ks => k.2 * f (rowAt rs k.1) + sumBy f rs ks
/-- pairs of numbers of rows, rising, each with how often -/
structure Pairs (rs : List LG.Row) (ks : List (Int × Int)) : Prop where
  rise : ks.Pairwise fun i j => i.1 < j.1
  lo : ∀ k ∈ ks, 0 ≤ k.1
  hi : ∀ k ∈ ks, k.1 < rs.length
  often : ∀ k ∈ ks, 1 ≤ k.2
  sz : ∀ k ∈ ks, Sz 1000 k.2
structure WhyP (rs : List LG.Row) (ks : List (Int × Int)) : Prop extends Pairs rs ks where
  two : 2 ≤ ks.length
  three : ks.length ≤ 3
  ea : sumBy (·.a) rs ks = 0
  eb : sumBy (·.b) rs ks = 0
  ec : sumBy (·.c) rs ks < 0
def sp_nothing (K : PySem.W.Frag) : Sp := fun vs H Q E => ∃ (v : V) (l : Addr), vs = [v, .ref l] ∧ Asks K H E v l fun n fs =>
  ∀ H', Same H H' → ((∃ p, LG.Kept (LG.rowsOf n fs) p) → Q .non H') ∧ ((∀ p, ¬ LG.Kept (LG.rowsOf n fs) p) → ∀ d ps ks, H d = none → PairL H' d ps ks → WhyP (LG.rowsOf n fs) ks → Q (.ref d) H')
/-- twice the area in lowest terms -/
structure AreaOf (n : Int) (fs : List LG.Row) (m b : Int) : Prop where
  pos : 0 < b
  low : Nat.gcd m.natAbs b.natAbs = 1
  eq : ∃ qs, LG.Told (LG.rowsOf n fs) qs ∧ (m : Rat) = LG.Ar (qs.map LG.toQ) * b
  sm : Sz 8000 m
  sb : Sz 8000 b
def sp_twice_area (K : PySem.W.Frag) : Sp := fun vs H Q E => ∃ (v : V) (l : Addr), vs = [v, .ref l] ∧ Asks K H E v l fun n fs =>
  ∀ (H' : Hp) (p : Addr) (m b : Int), Same H H' → H' p = some (.tup [.int m, .int b]) → AreaOf n fs m b → Q (.ref p) H'
/-- a way of two numbers -/
def wayOk : V → V → Bool := fun a b => within a (-1000) 1000 && within b (-1000) 1000 && !decide (a = .int 0 ∧ b = .int 0)
def IsWay (H : Hp) (x : V) (i j : Int) : Prop := ∃ p, x = .ref p ∧ H p = some (.tup [.int i, .int j]) ∧ wayOk (.int i) (.int j) = true
/-- farther than the other, on the way (i, j) -/
def farB (i j : Int) (p q : LG.Pt) : Prop := (i * q.x + j * q.y) * p.w < (i * p.x + j * p.y) * q.w
/-- the first of the farthest ones -/
structure FarOf (i j : Int) (qs : List LG.Pt) (q : LG.Pt) : Prop where
  split : ∃ l1 l2, qs = l1 ++ q :: l2 ∧ ∀ p ∈ l1, farB i j q p
  most : ∀ p ∈ qs, ¬ farB i j p q
structure FarP (rs : List LG.Row) (i j : Int) (q : LG.Pt) (m : Int) (ks : List (Int × Int)) : Prop extends Pairs rs ks where
  one : 1 ≤ ks.length
  two : ks.length ≤ 2
  mp : 1 ≤ m
  sm : Sz 1000 m
  on : ∀ k ∈ ks, LG.rch (rowAt rs k.1) q = 0
  ea : sumBy (·.a) rs ks = m * i
  eb : sumBy (·.b) rs ks = m * j
def sp_farthest (K : PySem.W.Frag) : Sp := fun vs H Q E => ∃ (v : V) (l : Addr) (x : V), vs = [v, .ref l, x] ∧ FItem H x ∧ Asks K H E v l fun n fs =>
  ((∀ i j, ¬ IsWay H x i j) → ∀ H', Same H H' → E (.ref (He.ga K "BadWay")) none H') ∧ ∀ i j, IsWay H x i j →
    ((∀ p, ¬ LG.Kept (LG.rowsOf n fs) p) → ∀ H', Same H H' → E (.ref (He.ga K "NoLand")) none H') ∧
    ∀ (qs : List LG.Pt), LG.Told (LG.rowsOf n fs) qs → ∀ (H' : Hp) (t d p : Addr) (ps : List Addr) (q : LG.Pt) (m : Int) (ks : List (Int × Int)), Same H H' → H t = none → H d = none → H' t = some (.tup [.ref p, .int m, .ref d]) → H' p = some (ptHO q) → PairL H' d ps ks → FarOf i j qs q → FarP (LG.rowsOf n fs) i j q m ks → Q (.ref t) H'
def sp_law_area : Sp := fun vs H Q _ => ∃ (d : Addr) (cs : List Addr) (qs : List LG.Pt), vs = [.ref d] ∧ PtL H d cs qs ∧ (∀ q ∈ qs, SzP 100 q) ∧ (∀ q ∈ qs, 0 < q.w) ∧ qs ≠ [] ∧ qs.length ≤ 20 ∧
  ∀ (H' : Hp) (p : Addr) (m b : Int), Same H H' → H' p = some (.tup [.int m, .int b]) → 0 < b → Nat.gcd m.natAbs b.natAbs = 1 → (m : Rat) = LG.S (qs.map LG.toQ) * b → Q (.ref p) H'
theorem eqv_two (a b x y : Int) : PyData.eqv (.tuple [.int a, .int b]) (.tuple [.int x, .int y]) = decide (a = x ∧ b = y) := by
  show ((a == x) && ((b == y) && true)) = _
  rw [Bool.and_true]
  by_cases h1 : a = x <;> by_cases h2 : b = y <;> simp [h1, h2]
theorem dp_two {K : PySem.W.Frag} {H : Hp} {p : Addr} {a b : Int} (h : H p = some (.tup [.int a, .int b])) : Dp K H (.ref p) (.tuple [.int a, .int b]) := .tup (SqT.of h) (.cons (.int a) (.cons (.int b) .nil))
theorem AreaOf.eq' {n : Int} {fs : List LG.Row} {m b : Int} (h : AreaOf n fs m b) (qs : List LG.Pt) (t : LG.Told (LG.rowsOf n fs) qs) : (m : Rat) = LG.Ar (qs.map LG.toQ) * b := by
  obtain ⟨qs', t', e⟩ := h.eq
  rw [t.unique t']
  exact e
theorem AreaOf.nn {n : Int} {fs : List LG.Row} {m b : Int} (h : AreaOf n fs m b) {qs : List LG.Pt} (t : LG.Told (LG.rowsOf n fs) qs) : 0 ≤ m := by
  have e := h.eq' qs t
  have a := LG.Ar_nonneg (l := qs.map LG.toQ) t.gc'
  have b0 : (0 : Rat) < (b : Rat) := Rat.intCast_pos.mpr h.pos
  have : ((0 : Int) : Rat) ≤ (m : Rat) := by
    rw [e]
    exact LG.muln a (by grind)
  exact Rat.intCast_le_intCast.mp this
theorem AreaOf.thin {n : Int} {fs : List LG.Row} {m b : Int} (h : AreaOf n fs m b) {qs : List LG.Pt} (t : LG.Told (LG.rowsOf n fs) qs) (l : ¬ 3 ≤ qs.length) : m = 0 ∧ b = 1 := by
  have e := h.eq' qs t
  have a : LG.Ar (qs.map LG.toQ) = 0 := by
    unfold LG.Ar
    rw [if_neg (by rw [List.length_map]; exact l)]
  rw [a, Rat.zero_mul] at e
  have m0 : m = 0 := by
    have e : (m : Rat) = ((0 : Int) : Rat) := e
    exact Rat.intCast_inj.mp e
  have lw := h.low
  have bp := h.pos
  rw [m0] at lw
  have : b.natAbs = 1 := by simpa using lw
  exact ⟨m0, by omega⟩
theorem AreaOf.same {n : Int} {fs : List LG.Row} {m b m2 b2 : Int} (h : AreaOf n fs m b) {qs : List LG.Pt} (t : LG.Told (LG.rowsOf n fs) qs) (l : 3 ≤ qs.length) (b0 : 0 < b2) (g : Nat.gcd m2.natAbs b2.natAbs = 1) (e2 : (m2 : Rat) = LG.S (qs.map LG.toQ) * b2) : m = m2 ∧ b = b2 := by
  have e := h.eq' qs t
  have a : LG.Ar (qs.map LG.toQ) = LG.S (qs.map LG.toQ) := by
    unfold LG.Ar
    rw [if_pos (by rw [List.length_map]; exact l)]
  rw [a] at e
  refine LG.low_frac h.pos b0 h.low g ?_
  have : ((m * b2 : Int) : Rat) = ((m2 * b : Int) : Rat) := by
    rw [Rat.intCast_mul, Rat.intCast_mul, e, e2]
    grind
  exact Rat.intCast_inj.mp this
def sp_law_fraction : Sp := fun vs H Q _ => ∃ (p : Addr) (m b : Int), vs = [.ref p] ∧ H p = some (.tup [.int m, .int b]) ∧ 0 ≤ m ∧ 0 < b ∧ Q (.bl true) H
theorem AreaOf.nn' {n : Int} {fs : List LG.Row} {m b : Int} (h : AreaOf n fs m b) : 0 ≤ m := by
  obtain ⟨qs, t, _⟩ := h.eq
  exact h.nn t
theorem neg_row (m : LG.Row) : (⟨0 - m.a, 0 - m.b, 0 - m.c⟩ : LG.Row) = LG.neg m := by
  unfold LG.neg
  simp
theorem Fences.more {fs : List LG.Row} {m : LG.Row} (h : Fences fs) (l : fs.length ≤ 15) (k : FenceR m) : Fences (fs ++ [m]) := by
  refine ⟨?_, fun r hr => ?_⟩
  · rw [List.length_append]
    show fs.length + 1 ≤ 16
    omega
  · rcases List.mem_append.mp hr with e | e
    · exact h.2 r e
    · have e : r = m := by simpa using e
      rw [e]
      exact k
theorem FenceR.neg {m : LG.Row} (h : FenceR m) : FenceR (LG.neg m) := by
  rw [← neg_row]
  exact FenceI.opp h
/-- the parts' areas come together -/
theorem areas_add {n : Int} {fs : List LG.Row} {m : LG.Row} {m0 b0 m1 b1 m2 b2 : Int} (hf : Fences fs) (hm : FenceR m) (h0 : AreaOf n fs m0 b0) (h1 : AreaOf n (fs ++ [m]) m1 b1) (h2 : AreaOf n (fs ++ [LG.neg m]) m2 b2) : (m1 * b2 + m2 * b1) * b0 = m0 * b1 * b2 := by
  obtain ⟨q0, t0, e0⟩ := h0.eq
  obtain ⟨q1, t1, e1⟩ := h1.eq
  obtain ⟨q2, t2, e2⟩ := h2.eq
  have e := LG.parts_add hf.nz hm.ab t0 t1 t2
  have : (((m1 * b2 + m2 * b1) * b0 : Int) : Rat) = ((m0 * b1 * b2 : Int) : Rat) := by
    simp only [Rat.intCast_mul, Rat.intCast_add]
    rw [e0, e1, e2, ← e]
    grind
  exact Rat.intCast_inj.mp this
theorem eqv_nil (ds : List PyData) : PyData.eqv (.list ds) (.list []) = decide (ds = []) := by
  cases ds with
  | nil => rfl
  | cons d ds => rfl
theorem sumBy_app (f : LG.Row → Int) (rs : List LG.Row) (l : List (Int × Int)) (k : Int × Int) : sumBy f rs (l ++ [k]) = sumBy f rs l + k.2 * f (rowAt rs k.1) := by
  induction l with
  | nil => show k.2 * f (rowAt rs k.1) + 0 = 0 + k.2 * f (rowAt rs k.1); omega
  | cons a l ih =>
    show a.2 * f (rowAt rs a.1) + sumBy f rs (l ++ [k]) = a.2 * f (rowAt rs a.1) + sumBy f rs l + k.2 * f (rowAt rs k.1)
    rw [ih]
    omega
theorem sumBy_take (f : LG.Row → Int) (rs : List LG.Row) {ks : List (Int × Int)} {i : Nat} {k : Int × Int} (h : ks[i]? = some k) : sumBy f rs (ks.take (i + 1)) = sumBy f rs (ks.take i) + k.2 * f (rowAt rs k.1) := by
  rw [List.take_add_one, h]
  exact sumBy_app f rs _ k
theorem rowAt_get {rs : List LG.Row} {k : Int} (h0 : 0 ≤ k) (h : k < rs.length) : ∃ i : Nat, k = i ∧ rs[i]? = some (rowAt rs k) := by
  refine ⟨k.toNat, by omega, ?_⟩
  unfold rowAt
  rw [List.getD_eq_getElem?_getD, List.getElem?_eq_getElem (by omega)]
  rfl
theorem rise_drop {ks : List (Int × Int)} (h : ks.Pairwise fun i j => i.1 < j.1) {i : Nat} {k : Int × Int} (e : ks[i]? = some k) : ∀ k' ∈ ks.drop (i + 1), k.1 < k'.1 := by
  intro k' hk'
  have s : ks.drop i = k :: ks.drop (i + 1) := by
    have il := (List.getElem?_eq_some_iff.mp e).1
    rw [List.drop_eq_getElem_cons il, (List.getElem?_eq_some_iff.mp e).2]
  have := h.sublist (List.drop_sublist i ks)
  rw [s] at this
  exact (List.pairwise_cons.mp this).1 k' hk'
theorem mem_drop_of {α : Type} {ks : List α} {i : Nat} {k : α} (e : ks[i]? = some k) : k ∈ ks.drop i := by
  rw [List.mem_iff_getElem?]
  exact ⟨0, by rw [List.getElem?_drop, Nat.add_zero, e]⟩
def sp_law_shown7 : Sp := fun vs H Q _ => ∃ (r d : Addr) (rp ps : List Addr) (rs : List LG.Row) (ks : List (Int × Int)), vs = [.ref r, .ref d] ∧ RowL H r rp rs ∧ PairL H d ps ks ∧ SzR rs ∧ WhyP rs ks ∧ ∀ H', Same H H' → Q (.bl true) H'
/-! ### an item, within a comprehension -/
theorem ix_tupK {X : Cx} {K : PySem.W.Frag} (h : X.K = K) : IxR X (rIxT K) := by
  subst h
  exact ix_tup
theorem ix_listK {X : Cx} {K : PySem.W.Frag} (h : X.K = K) : IxR X (rIxL K) := by
  subst h
  exact ix_list
theorem units65 {k : Nat} {A : Around} (h : Room k A) : A.units + 65 < cLine := by
  have := h.un
  omega
theorem any_pt (qs : List LG.Pt) (x : LG.Pt) : ((qs.map ptD).any fun z => PyData.eqv z (ptD x)) = decide (x ∈ qs) := by
  induction qs with
  | nil => rfl
  | cons a t ih =>
    rw [List.map_cons, List.any_cons, ih, eqv_pt]
    by_cases e : a = x
    · subst e
      simp
    · rw [decide_eq_false e, Bool.false_or]
      apply decide_eq_decide.mpr
      simp [Ne.symm e]
def sp_law_within (K : PySem.W.Frag) : Sp := fun vs H Q _ => ∃ (d p : Addr) (cs : List Addr) (R : List LG.Row) (qs : List LG.Pt) (x : LG.Pt), vs = [.ref d, .ref p] ∧ PtL H d cs qs ∧ H p = some (ptHO x) ∧ LG.LowP x ∧ SzP 1000 x ∧ LG.Held R ∧ (∀ r ∈ R, ¬ (r.a = 0 ∧ r.b = 0)) ∧ LG.Told R qs ∧ (∀ y ∈ qs, SzP 1000 y) ∧ qs.length ≤ 1000 ∧
  Q (.bl (keptB R x)) H
def sp_law_midway (K : PySem.W.Frag) : Sp := fun vs H Q _ => ∃ (p q : Addr) (x y : LG.Pt), vs = [.ref p, .ref q] ∧ H p = some (ptHO x) ∧ H q = some (ptHO y) ∧ 0 < x.w ∧ 0 < y.w ∧ SzP 100 x ∧ SzP 100 y ∧
  ∀ (H' : Hp) (m : Addr) (z : LG.Pt), Same H H' → H' m = some (ptHO z) → LG.LowP z → SzP 300 z → Q (.ref m) H'
/-! ### ways -/
instance (i j : Int) (p q : LG.Pt) : Decidable (farB i j p q) := inferInstanceAs (Decidable (_ < _))
def sp_law_farther : Sp := fun vs H Q _ => ∃ (w p q : Addr) (i j : Int) (x y : LG.Pt), vs = [.ref w, .ref p, .ref q] ∧ H w = some (.tup [.int i, .int j]) ∧ H p = some (ptHO x) ∧ H q = some (ptHO y) ∧ Sz 20 i ∧ Sz 20 j ∧ SzP 1000 x ∧ SzP 1000 y ∧ Q (.bl (decide (farB i j x y))) H
def sp_law_way_by : Sp := fun vs H Q _ => ∃ (r : Addr) (c o n : Int) (rp : List Addr) (fs : List LG.Row), vs = [.ref r, .int c, .int o] ∧ RowL H r rp (LG.rowsOf n fs) ∧ Fences fs ∧
  ∀ (H' : Hp) (w : Addr) (i j : Int), Same H H' → H' w = some (.tup [.int i, .int j]) → wayOk (.int i) (.int j) = true → Q (.ref w) H'
theorem wayOk_of {i j : Int} (hi : i.natAbs ≤ 1000) (hj : j.natAbs ≤ 1000) (h : ¬ (i = 0 ∧ j = 0)) : wayOk (.int i) (.int j) = true := by
  unfold wayOk
  rw [within_of (by omega) (by omega), within_of (by omega) (by omega), decide_eq_false (fun ⟨e1, e2⟩ => h ⟨V.int.inj e1, V.int.inj e2⟩)]
  rfl
theorem wayOk_le {i j : Int} (h : wayOk (.int i) (.int j) = true) : i.natAbs ≤ 1000 ∧ j.natAbs ≤ 1000 ∧ ¬ (i = 0 ∧ j = 0) := by
  unfold wayOk at h
  have h1 := (Bool.and_eq_true_iff.mp h)
  have h2 := (Bool.and_eq_true_iff.mp h1.1)
  have a := within_le h2.1
  have b := within_le h2.2
  refine ⟨by omega, by omega, fun z => ?_⟩
  have := h1.2
  rw [decide_eq_true (show V.int i = V.int 0 ∧ V.int j = V.int 0 from ⟨congrArg V.int z.1, congrArg V.int z.2⟩)] at this
  cases this
theorem wayOk_sz {i j : Int} (h : wayOk (.int i) (.int j) = true) : Sz 20 i ∧ Sz 20 j := ⟨.of (wayOk_le h).1 (by decide), .of (wayOk_le h).2.1 (by decide)⟩
theorem row_nz {n : Int} {fs : List LG.Row} (hf : Fences fs) {r : LG.Row} (h : r ∈ LG.rowsOf n fs) : r.a.natAbs ≤ 1000 ∧ r.b.natAbs ≤ 1000 ∧ ¬ (r.a = 0 ∧ r.b = 0) := by
  rcases List.mem_append.mp h with k | k
  · have := hf.2 r k
    exact ⟨this.ha, this.hb, this.ab⟩
  · have := LG.edges_nz r k
    simp only [LG.edgesR, List.mem_cons, List.not_mem_nil, or_false] at k
    refine ⟨?_, ?_, this⟩ <;> rcases k with e | e | e | e <;> rw [e] <;> simp only <;> decide
def sp_law_shown11 : Sp := fun vs H Q _ => ∃ (r t w p d : Addr) (rp ps : List Addr) (rs : List LG.Row) (q : LG.Pt) (m i j : Int) (ks : List (Int × Int)), vs = [.ref r, .ref t, .ref w] ∧ RowL H r rp rs ∧ SzR rs ∧ H t = some (.tup [.ref p, .int m, .ref d]) ∧ H p = some (ptHO q) ∧ SzP 1000 q ∧
  PairL H d ps ks ∧ FarP rs i j q m ks ∧ H w = some (.tup [.int i, .int j]) ∧ Sz 20 i ∧ Sz 20 j ∧ ∀ H', Same H H' → Q (.bl true) H'
def sp_law_refusal (K : PySem.W.Frag) : Sp := fun vs H Q _ => ∃ (n : Int) (l : Addr) (x : V) (ps : List Addr) (fs : List LG.Row), vs = [.int n, .ref l, x] ∧ Tabs K H ∧ Land H n l ps fs ∧ FItem H x ∧
  (((∀ i j, ¬ IsWay H x i j) ∧ ∀ H', Same H H' → Q (.str "way ") H') ∨ ((∃ i j, IsWay H x i j) ∧ (∀ p, ¬ LG.Kept (LG.rowsOf n fs) p) ∧ ∀ H', Same H H' → Q (.str "land ") H'))
theorem IsWay.one {H : Hp} {x : V} {i j i' j' : Int} (h : IsWay H x i j) (k : IsWay H x i' j') : i = i' ∧ j = j' := by
  obtain ⟨p, e, a, _⟩ := h
  obtain ⟨p', e', a', _⟩ := k
  rw [e] at e'
  cases e'
  rw [a] at a'
  simp at a'
  exact a'
theorem shaped2 {a b : Int} : SeqAt.shaped (.list [.int a, .int b]) = true := rfl
theorem not_way_tup {H : Hp} {p : Addr} {vs : List V} (h : H p = some (.tup vs)) (n : ∀ i j : Int, vs = [.int i, .int j] → wayOk (.int i) (.int j) = false) : ∀ i j, ¬ IsWay H (.ref p) i j := by
  rintro i j ⟨p', e, a, w⟩
  cases e
  rw [h] at a
  have a := HO.tup.inj (Option.some.inj a)
  rw [n i j a] at w
  cases w
theorem not_way_lst {H : Hp} {p : Addr} {vs : List V} (h : H p = some (.lst vs)) : ∀ i j, ¬ IsWay H (.ref p) i j := by
  rintro i j ⟨p', e, a, w⟩
  cases e
  rw [h] at a
  cases a
theorem not_way_non {H : Hp} : ∀ i j, ¬ IsWay H .non i j := by
  rintro i j ⟨p', e, a, w⟩
  cases e
theorem FarOf.unique {i j : Int} {qs : List LG.Pt} {q q' : LG.Pt} (h : FarOf i j qs q) (k : FarOf i j qs q') : q = q' := by
  obtain ⟨l1, l2, e, f⟩ := h.split
  obtain ⟨m1, m2, e', f'⟩ := k.split
  have q1 : qs[l1.length]? = some q := by rw [e, List.getElem?_append_right (Nat.le_refl _), Nat.sub_self]; rfl
  have q2 : qs[m1.length]? = some q' := by rw [e', List.getElem?_append_right (Nat.le_refl _), Nat.sub_self]; rfl
  rcases Nat.lt_trichotomy l1.length m1.length with c | c | c
  · exfalso
    rw [e', List.getElem?_append_left c] at q1
    have mem := List.mem_of_getElem? q1
    exact h.most q' (List.mem_of_getElem? q2) (f' q mem)
  · rw [c] at q1
    exact Option.some.inj (q1.symm.trans q2)
  · exfalso
    rw [e, List.getElem?_append_left c] at q2
    have mem := List.mem_of_getElem? q2
    exact k.most q (List.mem_of_getElem? q1) (f q' mem)
theorem FarOf.mem {i j : Int} {qs : List LG.Pt} {q : LG.Pt} (h : FarOf i j qs q) : q ∈ qs := by
  obtain ⟨l1, l2, e, _⟩ := h.split
  rw [e]
  simp
/-- ahead of the first one -/
theorem FarOf.ahead {i j : Int} {qs : List LG.Pt} {q x : LG.Pt} (h : FarOf i j qs q) {k : Nat} (hx : qs[k]? = some x) (n : q ∉ qs.take (k + 1)) : farB i j q x := by
  obtain ⟨l1, l2, e, f⟩ := h.split
  have c : k < l1.length := by
    apply Classical.byContradiction
    intro c
    apply n
    rw [e, List.take_append]
    refine List.mem_append_right _ ?_
    have : k + 1 - l1.length = (k - l1.length) + 1 := by omega
    rw [this]
    exact List.mem_cons_self
  rw [e, List.getElem?_append_left c] at hx
  exact f x (List.mem_of_getElem? hx)
theorem way_at {H : Hp} {w : Addr} {i j : Int} (h : H w = some (.tup [.int i, .int j])) (ok : wayOk (.int i) (.int j) = true) : FItem H (.ref w) ∧ IsWay H (.ref w) i j := by
  refine ⟨.tup h fun v hv => ?_, w, rfl, h, ok⟩
  simp only [List.mem_cons, List.not_mem_nil, or_false] at hv
  rcases hv with e | e <;> rw [e] <;> exact .int _
/-! ### refusals of a size and fences, one by one -/
theorem FItem.up {H H' : Hp} {x : V} (h : FItem H x) (s : Same H H') : FItem H' x := by
  cases h with
  | plain a n => exact .plain (a.up s) n
  | dK e => exact .dK (s _ _ e)
  | tup e f => exact .tup (s _ _ e) fun v hv => (f v hv).up s
  | lst e => exact .lst (s _ _ e)
theorem IsFence.down {H H' : Hp} {x : V} (f : FItem H x) (s : Same H H') (h : IsFence H' x) : IsFence H x := by
  obtain ⟨p, a, b, c, rfl, e, ok⟩ := h
  refine ⟨p, a, b, c, rfl, ?_, ok⟩
  have sure : ∀ o, H p = some o → (∀ ps, o ≠ .tbl ps) → H p = some (.tup [a, b, c]) := fun o k n => by
    have := s.not k n
    rw [e] at this
    rw [k, ← Option.some.inj this]
  cases f with
  | plain k n => exact absurd rfl (n p)
  | dK k => exact sure _ k (by intro _ z; cases z)
  | tup k _ => exact sure _ k (by intro _ z; cases z)
  | lst k => exact sure _ k (by intro _ z; cases z)
theorem FItem.tuple {K : PySem.W.Frag} {H : Hp} {v : V} (f : FItem H v) : ∃ (t : Value), TyX K H v t ∧ PySem.W.kitOne K t (.type "tuple") = some (isTup H v) := by
  cases f with
  | plain a n => exact a.tuple
  | dK e => exact (Arg.dK e).tuple
  | tup e _ => exact (Arg.tup e).tuple
  | lst e => exact (Arg.lst e).tuple
theorem FItem.isTup {H : Hp} {v : V} (f : FItem H v) (h : LL.isTup H v = true) : ∃ p vs, v = .ref p ∧ H p = some (.tup vs) ∧ ∀ x ∈ vs, Arg H x := by
  cases f with
  | plain a n =>
    cases v with
    | ref p => exact absurd rfl (n p)
    | _ => cases h
  | dK e =>
    simp only [LL.isTup, e] at h
    cases h
  | lst e =>
    simp only [LL.isTup, e] at h
    cases h
  | tup e k => exact ⟨_, _, rfl, e, k⟩
theorem IsFence.tup {H : Hp} {v : V} (h : IsFence H v) : LL.isTup H v = true := by
  obtain ⟨p, a, b, c, rfl, e, _⟩ := h
  simp only [LL.isTup, e]
theorem fenceI_of {a b c : V} (h : fenceOk a b c = true) : ∃ i j k : Int, a = .int i ∧ b = .int j ∧ c = .int k ∧ FenceI i j k := by
  unfold fenceOk at h
  obtain ⟨h1, h4⟩ := Bool.and_eq_true_iff.mp h
  obtain ⟨h2, h3⟩ := Bool.and_eq_true_iff.mp h1
  obtain ⟨h5, h6⟩ := Bool.and_eq_true_iff.mp h2
  obtain ⟨i, rfl⟩ := within_int h5
  obtain ⟨j, rfl⟩ := within_int h6
  obtain ⟨k, rfl⟩ := within_int h4
  have a1 := within_le h5
  have a2 := within_le h6
  have a3 := within_le h4
  refine ⟨i, j, k, rfl, rfl, rfl, by omega, by omega, fun z => ?_, by omega⟩
  rw [decide_eq_true (show V.int i = V.int 0 ∧ V.int j = V.int 0 from ⟨congrArg V.int z.1, congrArg V.int z.2⟩)] at h3
  cases h3
/-- a list of fences, as rows -/
theorem fences_of {H : Hp} : ∀ {xs : List V}, (∀ x ∈ xs, IsFence H x) → ∃ (ps : List Addr) (fs : List LG.Row), xs = ps.map V.ref ∧ At rowHO H ps fs ∧ ∀ r ∈ fs, FenceR r
  | [], _ => ⟨[], [], rfl, rfl, fun _ z => absurd z List.not_mem_nil⟩
  | x :: xs, h => by
    obtain ⟨ps, fs, e, at_, k⟩ := fences_of (xs := xs) fun y hy => h y (List.mem_cons_of_mem _ hy)
    obtain ⟨p, a, b, c, rfl, hp, ok⟩ := h x List.mem_cons_self
    obtain ⟨i, j, l, rfl, rfl, rfl, f⟩ := fenceI_of ok
    refine ⟨p :: ps, ⟨i, j, l⟩ :: fs, by rw [e]; rfl, ?_, fun r hr => ?_⟩
    · show H p :: ps.map H = some (rowHO ⟨i, j, l⟩) :: _
      rw [hp, at_]
      rfl
    · rcases List.mem_cons.mp hr with z | z
      · rw [z]
        exact f
      · exact k r z
def sp_check_fence (K : PySem.W.Frag) : Sp := fun vs H Q E => ∃ x, vs = [x] ∧ FItem H x ∧ (¬ IsFence H x → ∀ H', Same H H' → E (.ref (He.ga K "BadFence")) none H') ∧ (IsFence H x → ∀ H', Same H H' → Q .non H')
def sp_fences_and_edges (K : PySem.W.Frag) : Sp := fun vs H Q E => ∃ (v : V) (l : Addr), vs = [v, .ref l] ∧ Arg H v ∧ ∃ xs, H l = some (.lst xs) ∧ (∀ x ∈ xs, FItem H x) ∧ Refuse K E H v xs ∧
  ∀ (n : Int) (ps : List Addr) (fs : List LG.Row), v = .int n → Land H n l ps fs → ∀ (H' : Hp) (d : Addr) (qs : List Addr), Same H H' → H d = none → RowL H' d qs (LG.rowsOf n fs) → Q (.ref d) H'
def sp_is_kept (K : PySem.W.Frag) : Sp := fun vs H Q _ => ∃ (l p : Addr) (ps : List Addr) (rs : List LG.Row) (q : LG.Pt), vs = [.ref l, .ref p] ∧ RowL H l ps rs ∧ H p = some (ptHO q) ∧ SzR rs ∧ SzP 1000 q ∧ Tabs K H ∧ Q (.bl (keptB rs q)) H
/-- refusals alone -/
def sp_corners_no (K : PySem.W.Frag) : Sp := fun vs H _ E => ∃ (v : V) (l : Addr), vs = [v, .ref l] ∧ Asks K H E v l fun _ _ => False
def sp_farthest_no (K : PySem.W.Frag) : Sp := fun vs H _ E => ∃ (v : V) (l : Addr) (x : V), vs = [v, .ref l, x] ∧ FItem H x ∧ Asks K H E v l fun _ _ => False
def BadBy (H : Hp) (v : V) (xs : List V) (c : Str) : Prop :=
  (within v 1 1000 = false ∧ c = "BadSize") ∨ (within v 1 1000 = true ∧ 16 < xs.length ∧ c = "TooMany") ∨ (within v 1 1000 = true ∧ xs.length ≤ 16 ∧ (∃ x ∈ xs, ¬ IsFence H x) ∧ c = "BadFence")
theorem BadBy.asks {K : PySem.W.Frag} {H : Hp} {E : XK} {v : V} {l : Addr} {xs : List V} {c : Str} {G : Int → List LG.Row → Prop} (tb : Tabs K H) (h : BadBy H v xs c) (a : Arg H v) (hl : H l = some (.lst xs)) (it : ∀ x ∈ xs, FItem H x) (e : ∀ H', Same H H' → E (.ref (He.ga K c)) none H') : Asks K H E v l G := by
  refine ⟨a, tb, xs, hl, it, ⟨fun z => ?_, fun z1 z2 => ?_, fun z1 z2 z3 => ?_⟩, fun n ps fs ev land => ?_⟩
  · rcases h with ⟨_, rfl⟩ | ⟨w, _⟩ | ⟨w, _⟩
    · exact e
    · rw [z] at w; cases w
    · rw [z] at w; cases w
  · rcases h with ⟨w, _⟩ | ⟨_, _, rfl⟩ | ⟨_, l, _⟩
    · rw [z1] at w; cases w
    · exact e
    · omega
  · rcases h with ⟨w, _⟩ | ⟨_, l, _⟩ | ⟨_, _, _, rfl⟩
    · rw [z1] at w; cases w
    · omega
    · exact e
  · exfalso
    subst ev
    have ex : xs = ps.map V.ref := HO.lst.inj (Option.some.inj (hl.symm.trans land.at_.lst))
    have w := within_of land.n1 land.n2
    rcases h with ⟨z, _⟩ | ⟨_, z, _⟩ | ⟨_, _, ⟨x, hx, nf⟩, _⟩
    · rw [w] at z; cases z
    · rw [ex, land.at_.len] at z
      have := land.ok.1
      omega
    · rw [ex] at hx
      exact nf (fence_is land.at_ land.ok x hx)
def sp_law_asked (K : PySem.W.Frag) : Sp := fun vs H _ E => ∃ (k : Int) (v : V) (l : Addr) (xs : List V) (c : Str), vs = [.int k, v, .ref l] ∧ Tabs K H ∧ Arg H v ∧ H l = some (.lst xs) ∧ (∀ x ∈ xs, FItem H x) ∧ BadBy H v xs c ∧ ∀ H', Same H H' → E (.ref (He.ga K c)) none H'
def BadWord (H : Hp) (v : V) (xs : List V) (d : Str) : Prop :=
  (within v 1 1000 = false ∧ d = "size ") ∨ (within v 1 1000 = true ∧ 16 < xs.length ∧ d = "many ") ∨ (within v 1 1000 = true ∧ xs.length ≤ 16 ∧ (∃ x ∈ xs, ¬ IsFence H x) ∧ d = "fence ")
def sp_law_word (K : PySem.W.Frag) : Sp := fun vs H Q _ => ∃ (k : Int) (v : V) (l : Addr) (xs : List V) (d : Str), vs = [.int k, v, .ref l] ∧ Tabs K H ∧ Arg H v ∧ H l = some (.lst xs) ∧ (∀ x ∈ xs, FItem H x) ∧ BadWord H v xs d ∧ ∀ H', Same H H' → Q (.str d) H'
def sp_law_spoilt (K : PySem.W.Frag) : Sp := fun vs H Q _ => ∃ (a l : Addr) (ns : List Int) (n : Int) (ps : List Addr) (fs : List LG.Row), vs = [.ref a, .int n, .ref l] ∧ SqL K H a (ns.map V.int) ∧ Tabs K H ∧ Land H n l ps fs ∧ ∀ H', Tabs K H' → Q (.bl true) H'
end LL

namespace LL
open PySem PySem.Spec PySem.Calls PyProof.Rows L2
section
variable {X : Cx} {e : Expr} {te : TE} {p1 p2 p3 p4 : Pos}
/-- what comes behind a call that never comes back is never run -/
def tNo (te : TE) : TE := fun σ H _ => te σ H fun _ _ => False
def tNoS : TS := fun _ _ _ => False
theorem pss_no {rest : List Stmt} : PSs X rest tNoS := ⟨fun _ _ _ _ _ _ h => h.elim⟩
theorem pe_listEnumNo (hg1 : Gl X "list") (hm1 : X.mg "list" = none) (hg2 : Gl X "enumerate") (hm2 : X.mg "enumerate" = none) (he : PE X e te)
    (h1 : starEach [.Call (.Name "enumerate" p2) [e] [] p3] X.env = (false, eval (.Call (.Name "enumerate" p2) [e] [] p3) X.env) :: starEach [] X.env := by rfl)
    (h2 : starEach [e] X.env = (false, eval e X.env) :: starEach [] X.env := by rfl) :
    PE X (.Call (.Name "list" p1) [.Call (.Name "enumerate" p2) [e] [] p3] [] p4) (tNo te) := by
  refine ⟨fun pins s σ H Q I h => ?_⟩
  refine wpAny_Call_Name_kw (ld_blt I hg1 hm1 (by first | rfl | decide +kernel) ?_)
  refine callWith_type1 ?_ h1 (by rfl)
  rw [h1]
  show wpAny _ _ (spliced ((false, eval (.Call (.Name "enumerate" p2) [e] [] p3) X.env) :: backTo p4 (starEach [] X.env))) _ _ s
  refine Calls.spliced_cons ?_
  refine wpAny_Call_Name_kw (ld_blt I hg2 hm2 (by first | rfl | decide +kernel) ?_)
  refine callWith_type1 ?_ h2 (by rfl)
  rw [h2]
  show wpAny _ _ (spliced ((false, eval e X.env) :: backTo p3 (starEach [] X.env))) _ _ s
  refine Calls.spliced_cons (thn (he.run pins s σ H _ I h) fun u s1 ⟨_, _, _, _, z⟩ => z.elim)
end
end LL

namespace LL
open PySem PySem.Spec PySem.Calls PyProof.Rows
/-! ### itertools.combinations, over the heap alone -/
theorem cmb_sub : isSubtype (.type "itertools.combinations") (.type "itertools.combinations") = pure true := by rw [isSubtype_type]; kernel_rfl
theorem cmb_mro : mroOf (.type "itertools.combinations") = pure [.type "itertools.combinations", .type "object"] := by rw [mroOf_type]; kernel_rfl
theorem cmb_new : typeLookup (.type "itertools.combinations") "__new__" = pure (some (.builtin "itertools.combinations.__new__")) := by
  rw [typeLookup_type, builtinLookup_eq_fast]
  kernel_rfl
theorem cmb_init : Slot "itertools.combinations" "__init__" "object.__init__" := by
  refine .of (owner := "object") (n := "__init__") ?_ (by decide +kernel) (by decide +kernel) (by decide +kernel) (by first | exact .inl (by decide +kernel) | exact .inr (by decide +kernel) | skip) (by rw [isSubtype_type]; kernel_rfl)
  rw [typeLookup_type, builtinLookup_eq_fast]
  kernel_rfl
theorem cmb_called : TypeCalled "itertools.combinations" "itertools.combinations.__new__" "object.__init__" :=
  ⟨by decide +kernel, by decide +kernel, ⟨_, _, cmb_mro⟩, madeBy_type cmb_mro cmb_new (by decide +kernel), by decide +kernel, cmb_sub, cmb_init⟩
theorem cmb_call2 (a b : Value) : checkTypeCall "itertools.combinations" ⟨[a, b], []⟩ = pure () := by kernel_rfl
theorem cmb_newCall (a b : Value) : checkBuiltinCall "itertools.combinations.__new__" ⟨[.type "itertools.combinations", a, b], []⟩ = pure () := by kernel_rfl
theorem cmb_entry_new : entryFor table "itertools.combinations.__new__" = some Builtin.«itertools.combinations.__new__» := entryFor_of_tree (by kernel_rfl)
theorem cmb_slot_next : Slot "itertools.combinations" "__next__" "itertools.combinations.__next__" := by
  refine .of (owner := "itertools.combinations") (n := "__next__") ?_ (by decide +kernel) (by decide +kernel) (by decide +kernel) (by first | exact .inl (by decide +kernel) | exact .inr (by decide +kernel) | skip) cmb_sub
  rw [typeLookup_type, builtinLookup_eq_fast]
  kernel_rfl
theorem cmb_slot_iter : Slot "itertools.combinations" "__iter__" "itertools.combinations.__iter__" := by
  refine .of (owner := "itertools.combinations") (n := "__iter__") ?_ (by decide +kernel) (by decide +kernel) (by decide +kernel) (by first | exact .inl (by decide +kernel) | exact .inr (by decide +kernel) | skip) cmb_sub
  rw [typeLookup_type, builtinLookup_eq_fast]
  kernel_rfl
theorem cmb_entry_next : entryFor table "itertools.combinations.__next__" = some Builtin.«itertools.combinations.__next__» := entryFor_of_tree (by kernel_rfl)
theorem cmb_entry_iter : entryFor table "itertools.combinations.__iter__" = some Builtin.«dict_keyiterator.__iter__» :=
  entryFor_alias (id' := "dict_keyiterator.__iter__") (by kernel_rfl) (by first | rfl | decide +kernel | (unfold String.splitOn; simp +decide [String.splitOnAux])) (by decide +kernel) (by kernel_rfl)
theorem cmb_owner : Manifest.owners.lookup (String.ofList ['s', 'n', 'o', 'i', 't', 'a', 'n', 'i', 'b', 'm', 'o', 'c', '.', 's', 'l', 'o', 'o', 't', 'r', 'e', 't', 'i'].reverse) = some Manifest.sig_itertools_combinations := by kernel_rfl
theorem cmb_args_next (a : Value) : argsOk "itertools.combinations.__next__" ⟨[a], []⟩ := by
  unfold argsOk
  rw [signature?_of (id := "itertools.combinations.__next__") (n := ['_', '_', 't', 'x', 'e', 'n', '_', '_']) (o := ['s', 'n', 'o', 'i', 't', 'a', 'n', 'i', 'b', 'm', 'o', 'c', '.', 's', 'l', 'o', 'o', 't', 'r', 'e', 't', 'i']) (by kernel_rfl) cmb_owner]
  kernel_rfl
theorem cmb_args_iter (a : Value) : argsOk "itertools.combinations.__iter__" ⟨[a], []⟩ := by
  unfold argsOk
  rw [signature?_of (id := "itertools.combinations.__iter__") (n := ['_', '_', 'r', 'e', 't', 'i', '_', '_']) (o := ['s', 'n', 'o', 'i', 't', 'a', 'n', 'i', 'b', 'm', 'o', 'c', '.', 's', 'l', 'o', 'o', 't', 'r', 'e', 't', 'i']) (by kernel_rfl) cmb_owner]
  kernel_rfl
theorem cmb_noDict : typeHasDict (.type "itertools.combinations") = false := by decide +kernel
/-- the record: the pool, how far, what was handed out last, the places -/
def recC (pl : Addr) (st : Int) (last : Value) (is : List Nat) : Array Value := (Value.ref pl :: rawInt st :: last :: is.map fun (i : Nat) => rawInt i).toArray
def objC (pl : Addr) (st : Int) (last : Value) (is : List Nat) : Obj := { cls := .type "itertools.combinations", data := .fields (recC pl st last is) }
theorem places_of (is : List Nat) : ((is.map fun (i : Nat) => rawInt i).map fun | .int n _ => n.toNat | _ => 0) = is := by
  induction is with
  | nil => rfl
  | cons i is ih =>
    rw [List.map_cons, List.map_cons, ih]
    rfl
end LL

namespace LL
open PySem PySem.Spec PySem.Calls PyProof.Rows PySem.Builtin.Itertools
section
variable {P : Program} {w : World} {A : Around} {E : Value → Shared → Prop} {s : Shared}
theorem cmb_iter {it pl : Addr} {st : Int} {last : Value} {is : List Nat} {Q : Value → Shared → Prop} (h : s.heap.get? it = some (objC pl st last is)) (q : Q (.ref it) s) : wpAny (model P w) A (pyIter (.ref it)) Q E s := by
  have ty : s.TypeIs (.ref it) "itertools.combinations" := ⟨_, h, rfl⟩
  refine wpAny_pyIter_slot ty cmb_slot_iter (wpAny_call_entry cmb_slot_iter ty cmb_entry_iter ?_ (cmb_args_iter _))
  show wpAny _ _ (ret (.ref it)) _ _ s
  exact wpAny_pure ⟨_, rfl, "itertools.combinations", _, ty, cmb_slot_next.lookup, q⟩
/-- what is picked -/
def pickC (xs : Array Value) (is : List Nat) : List Value := is.map fun i => xs.getD i .none
/-- what is handed out stands in the record, too -/
theorem hand_out {it pl : Addr} {last : Value} {is : List Nat} {xs : Array Value} {po : Obj} {n : Nat} {g : Heap} {R : PySem.Fin → Shared → Prop} (h : g.get? it = some (objC pl 1 last is)) (hp : g.get? pl = some po) (hd : po.data = .seq xs n) (hl : is.length ≤ 10)
    (q : ∀ h', h'.get? it = some (objC pl 1 (.ref g.objs.size) is) → (∀ b o, b ≠ it → g.get? b = some o → h'.get? b = some o) → h'.get? g.objs.size = some { cls := .type "tuple", data := .seq (pickC xs is).toArray } → R (.done (.ret (.ref g.objs.size))) { s with heap := h' }) :
    wpAny (model P w) A (do
      let result ← (do let items ← itPoolItems (.ref pl); newTuple (is.map fun i => items.getD i .none))
      let before ← field (.ref it) 2
      setField (.ref it) 2 result
      letGo [before] [result]
      ret result) R E { s with heap := g } := by
  refine wpAny_bind (wpAny_bind ?_)
  unfold itPoolItems
  refine wpAny_bind (wpAny_seqItems hp hd (wpAny_pure ?_))
  refine wpAny_newTuple ?_ (by rw [List.length_map, sizeLine_eq]; omega)
  have lt : it < g.objs.size := Heap.lt_size h
  have h1 : (g.push { cls := .type "tuple", data := .seq (pickC xs is).toArray }).get? it = some (objC pl 1 last is) := Heap.get?_push_of_some _ h
  have n1 : (g.push { cls := .type "tuple", data := .seq (pickC xs is).toArray }).get? g.objs.size = some { cls := .type "tuple", data := .seq (pickC xs is).toArray } := Heap.get?_push_size _ rfl
  have k1 : ∀ b o, g.get? b = some o → (g.push { cls := .type "tuple", data := .seq (pickC xs is).toArray }).get? b = some o := fun b o e => Heap.get?_push_of_some _ e
  show wpAny _ _ _ _ _ { s with heap := g.push { cls := .type "tuple", data := .seq (pickC xs is).toArray } }
  revert h1 n1 k1
  generalize g.push { cls := .type "tuple", data := .seq (pickC xs is).toArray } = g1
  intro h1 n1 k1
  refine wpAny_bind (wpAny_field h1 rfl (x := last) rfl ?_)
  refine wpAny_bind (wpAny_setField h1 rfl (by simp [recC]) ?_)
  refine wpAny_bind (wpAny_letGo (wpAny_pure (q _ ?_ (fun b o hb e => ?_) ?_)))
  · refine (Heap.get?_update_self _ h1 rfl).trans ?_
    show some (Obj.mk _ _ (Data.fields ((recC pl 1 last is).setIfInBounds 2 (.ref g.objs.size))) _) = _
    unfold recC
    rw [List.setIfInBounds_toArray]
    rfl
  · exact (Heap.get?_update_ne _ _ _ _ hb).trans (k1 b o e)
  · exact (Heap.get?_update_ne _ _ _ _ (Ne.symm (Nat.ne_of_lt lt))).trans n1
/-- the first one -/
theorem cmb_first {it pl : Addr} {is : List Nat} {xs : Array Value} {po : Obj} {n : Nat} {Q : Option Value → Shared → Prop} (h : s.heap.get? it = some (objC pl 0 .none is)) (hp : s.heap.get? pl = some po) (hd : po.data = .seq xs n) (hne : pl ≠ it) (hl : is.length ≤ 10)
    (q : ∀ h', h'.get? it = some (objC pl 1 (.ref s.heap.objs.size) is) → (∀ b o, b ≠ it → s.heap.get? b = some o → h'.get? b = some o) → h'.get? s.heap.objs.size = some { cls := .type "tuple", data := .seq (pickC xs is).toArray } → Q (some (.ref s.heap.objs.size)) { s with heap := h' }) :
    wpAny (model P w) A (pyNext (.ref it)) Q E s := by
  have ty : s.TypeIs (.ref it) "itertools.combinations" := ⟨_, h, rfl⟩
  unfold pyNext
  refine wpAny_bind (wpAny_attempt (wpAny_callSpecial?_slot (name := Str.ofString "__next__") ty cmb_slot_next (wpAny_call_entry cmb_slot_next ty cmb_entry_next ?_ (cmb_args_next _))))
  show wpAny _ _ (slotArgs "__next__" 0 ⟨[.ref it], []⟩ >>= _) _ _ s
  refine wpAny_bind (wpAny_pure ?_)
  show wpAny _ _ (field (.ref it) 0 >>= _) _ _ s
  refine wpAny_bind (wpAny_field h rfl (x := .ref pl) rfl ?_)
  show wpAny _ _ (itNumbersFrom (.ref it) 3 >>= _) _ _ s
  refine wpAny_bind ?_
  unfold itNumbersFrom
  refine wpAny_bind (wpAny_load h ?_)
  refine wpAny_of_eq (a := is) (congrArg pure (places_of is)) ?_
  show wpAny _ _ (itIntField (.ref it) 1 >>= _) _ _ s
  refine wpAny_bind ?_
  unfold itIntField
  refine wpAny_bind (wpAny_field h rfl (x := rawInt 0) rfl (wpAny_pure ?_))
  show wpAny _ _ (setField (.ref it) 1 (rawInt 1) >>= _) _ _ s
  refine wpAny_bind (wpAny_setField h rfl (by simp [recC]) ?_)
  have h1 : (s.heap.update it (Obj.mapFields fun x => x.setIfInBounds 1 (rawInt 1))).get? it = some (objC pl 1 .none is) := by
    refine (Heap.get?_update_self _ h rfl).trans ?_
    show some (Obj.mk _ _ (Data.fields ((recC pl 0 .none is).setIfInBounds 1 (rawInt 1))) _) = _
    unfold recC
    rw [List.setIfInBounds_toArray]
    rfl
  have k1 : ∀ b o, b ≠ it → s.heap.get? b = some o → (s.heap.update it (Obj.mapFields fun x => x.setIfInBounds 1 (rawInt 1))).get? b = some o := fun b o hb e => (Heap.get?_update_ne _ _ _ _ hb).trans e
  have z1 : (s.heap.update it (Obj.mapFields fun x => x.setIfInBounds 1 (rawInt 1))).objs.size = s.heap.objs.size := Heap.size_update ..
  revert h1 k1 z1
  generalize s.heap.update it (Obj.mapFields fun x => x.setIfInBounds 1 (rawInt 1)) = g1
  intro h1 k1 z1
  refine hand_out (s := s) h1 (k1 pl po hne hp) hd hl fun h' a1 a2 a3 => ⟨_, rfl, wpAny_pure ?_⟩
  rw [z1] at a1 a3 ⊢
  exact q h' a1 (fun b o hb e => a2 b o hb (k1 b o hb e)) a3
/-- the next one: what comes behind these places -/
def nextC (n : Nat) (is : List Nat) : Option (List Nat) :=
  ((List.range is.length).reverse.find? fun k => is.getD k 0 != k + n - is.length).map fun k => is.take k ++ (List.range (is.length - k)).map fun d => is.getD k 0 + 1 + d
theorem cmb_next {it pl : Addr} {last : Value} {is js : List Nat} {xs : Array Value} {po : Obj} {n : Nat} {Q : Option Value → Shared → Prop} (h : s.heap.get? it = some (objC pl 1 last is)) (hp : s.heap.get? pl = some po) (hd : po.data = .seq xs n) (hne : pl ≠ it) (hl : js.length ≤ 10) (hj : nextC xs.size is = some js)
    (q : ∀ h', h'.get? it = some (objC pl 1 (.ref s.heap.objs.size) js) → (∀ b o, b ≠ it → s.heap.get? b = some o → h'.get? b = some o) → h'.get? s.heap.objs.size = some { cls := .type "tuple", data := .seq (pickC xs js).toArray } → Q (some (.ref s.heap.objs.size)) { s with heap := h' }) :
    wpAny (model P w) A (pyNext (.ref it)) Q E s := by
  have ty : s.TypeIs (.ref it) "itertools.combinations" := ⟨_, h, rfl⟩
  unfold pyNext
  refine wpAny_bind (wpAny_attempt (wpAny_callSpecial?_slot (name := Str.ofString "__next__") ty cmb_slot_next (wpAny_call_entry cmb_slot_next ty cmb_entry_next ?_ (cmb_args_next _))))
  show wpAny _ _ (slotArgs "__next__" 0 ⟨[.ref it], []⟩ >>= _) _ _ s
  refine wpAny_bind (wpAny_pure ?_)
  show wpAny _ _ (field (.ref it) 0 >>= _) _ _ s
  refine wpAny_bind (wpAny_field h rfl (x := .ref pl) rfl ?_)
  show wpAny _ _ (itNumbersFrom (.ref it) 3 >>= _) _ _ s
  refine wpAny_bind ?_
  unfold itNumbersFrom
  refine wpAny_bind (wpAny_load h ?_)
  refine wpAny_of_eq (a := is) (congrArg pure (places_of is)) ?_
  show wpAny _ _ (itIntField (.ref it) 1 >>= _) _ _ s
  refine wpAny_bind ?_
  unfold itIntField
  refine wpAny_bind (wpAny_field h rfl (x := rawInt 1) rfl (wpAny_pure ?_))
  show wpAny _ _ (itPoolItems (.ref pl) >>= _) _ _ s
  refine wpAny_bind ?_
  unfold itPoolItems
  refine wpAny_bind (wpAny_seqItems hp hd (wpAny_pure ?_))
  have key : ∀ o, nextC xs.size is = o → ∀ r : Option (List Nat), (match ((List.range is.length).reverse.find? fun k => is.getD k 0 != k + xs.size - is.length) with | none => none | some k => some (is.take k ++ (List.range (is.length - k)).map fun d => is.getD k 0 + 1 + d)) = r → r = o := by
    intro o e r e'
    rw [← e, ← e']
    unfold nextC
    cases ((List.range is.length).reverse.find? fun k => is.getD k 0 != k + xs.size - is.length) <;> rfl
  split
  · rename_i nx hx
    obtain rfl : nx = js := Option.some.inj (key _ hj _ hx)
    refine wpAny_bind ?_
    show wpAny _ _ (updateFields it fun fs => fs.extract 0 3 ++ (nx.map fun (k : Nat) => rawInt k).toArray) _ _ _
    have sz : (recC pl 1 last is).extract 0 3 ++ (nx.map fun (k : Nat) => rawInt k).toArray = recC pl 1 last nx := by
      simp [recC]
    refine wpAny_updateFields h rfl ?_ ?_
    · have h1 : (s.heap.update it (Obj.mapFields fun fs => fs.extract 0 3 ++ (nx.map fun (k : Nat) => rawInt k).toArray)).get? it = some (objC pl 1 last nx) := by
        refine (Heap.get?_update_self _ h rfl).trans ?_
        show some (Obj.mk _ _ (Data.fields ((recC pl 1 last is).extract 0 3 ++ _)) _) = _
        rw [sz]
        rfl
      have k1 : ∀ b o, b ≠ it → s.heap.get? b = some o → (s.heap.update it (Obj.mapFields fun fs => fs.extract 0 3 ++ (nx.map fun (k : Nat) => rawInt k).toArray)).get? b = some o := fun b o hb e => (Heap.get?_update_ne _ _ _ _ hb).trans e
      have z1 : (s.heap.update it (Obj.mapFields fun fs => fs.extract 0 3 ++ (nx.map fun (k : Nat) => rawInt k).toArray)).objs.size = s.heap.objs.size := Heap.size_update ..
      revert h1 k1 z1
      generalize s.heap.update it (Obj.mapFields fun fs => fs.extract 0 3 ++ (nx.map fun (k : Nat) => rawInt k).toArray) = g1
      intro h1 k1 z1
      refine hand_out (s := s) h1 (k1 pl po hne hp) hd hl fun h' a1 a2 a3 => ⟨_, rfl, wpAny_pure ?_⟩
      rw [z1] at a1 a3 ⊢
      exact q h' a1 (fun b o hb e => a2 b o hb (k1 b o hb e)) a3
    · show ((recC pl 1 last is).extract 0 3 ++ (nx.map fun (k : Nat) => rawInt k).toArray).size ≤ _
      rw [sz, sizeLine_eq]
      simp [recC]
      omega
  · rename_i hx
    have := key _ hj _ hx
    cases this
/-- the end -/
theorem stop_here {g : Heap} {R : PySem.Fin → Shared → Prop} {E' : Value → Shared → Prop} (hh : A.handled = none) (q : ∀ e h', (∃ o, h'.get? e = some o ∧ o.cls = .type "StopIteration") → (∀ b o, g.get? b = some o → h'.get? b = some o) → E' (.ref e) { s with heap := h' }) :
    wpAny (model P w) A (itStop : Sem PySem.Fin) R E' { s with heap := g } := by
  unfold itStop
  refine wpAny_bind ?_
  unfold newExc
  refine wpAny_bind (wpAny_newTuple ?_)
  refine wpAny_bind (m := firstArgMember _ _) (wpAny_of_eq (a := Value.none) (by first | rfl | (unfold firstArgMember; rfl)) ?_)
  refine wpAny_newObj_type ?_ (by size_fits)
  unfold raiseNew
  refine wpAny_bind (wpAny_handled ?_)
  rw [hh]
  refine wpAny_bind (wpAny_pure (wpAny_throw (q _ _ ⟨_, Heap.get?_push_size _ rfl, rfl⟩ fun b o e => ?_)))
  exact Heap.get?_push_of_some _ (Heap.get?_push_of_some _ e)
theorem cmb_end {it pl : Addr} {st : Int} {last : Value} {is : List Nat} {xs : Array Value} {po : Obj} {n : Nat} {Q : Option Value → Shared → Prop} (hh : A.handled = none) (h : s.heap.get? it = some (objC pl st last is)) (hp : s.heap.get? pl = some po) (hd : po.data = .seq xs n) (hst : st = 2 ∨ (st = 1 ∧ nextC xs.size is = none))
    (q : ∀ h', (∀ b o, b ≠ it → s.heap.get? b = some o → h'.get? b = some o) → Q none { s with heap := h' }) : wpAny (model P w) A (pyNext (.ref it)) Q E s := by
  have ty : s.TypeIs (.ref it) "itertools.combinations" := ⟨_, h, rfl⟩
  unfold pyNext
  refine wpAny_bind (wpAny_attempt (wpAny_callSpecial?_slot (name := Str.ofString "__next__") ty cmb_slot_next (wpAny_call_entry cmb_slot_next ty cmb_entry_next ?_ (cmb_args_next _))))
  show wpAny _ _ (slotArgs "__next__" 0 ⟨[.ref it], []⟩ >>= _) _ _ s
  refine wpAny_bind (wpAny_pure ?_)
  show wpAny _ _ (field (.ref it) 0 >>= _) _ _ s
  refine wpAny_bind (wpAny_field h rfl (x := .ref pl) rfl ?_)
  show wpAny _ _ (itNumbersFrom (.ref it) 3 >>= _) _ _ s
  refine wpAny_bind ?_
  unfold itNumbersFrom
  refine wpAny_bind (wpAny_load h ?_)
  refine wpAny_of_eq (a := is) (congrArg pure (places_of is)) ?_
  show wpAny _ _ (itIntField (.ref it) 1 >>= _) _ _ s
  refine wpAny_bind ?_
  unfold itIntField
  have fin : ∀ (g : Heap), (∀ b o, b ≠ it → s.heap.get? b = some o → g.get? b = some o) → ∀ e h', (∃ o, h'.get? e = some o ∧ o.cls = .type "StopIteration") → (∀ b o, g.get? b = some o → h'.get? b = some o) →
      wpAny (model P w) A (do if ← isInstance (.ref e) (.type "StopIteration") then pure none else throw (.ref e) : Sem (Option Value)) Q E { s with heap := h' } := fun g k e h' ⟨o, e1, e2⟩ k' =>
    wpAny_bind (wpAny_isInstance (T := "StopIteration") (b := true) ⟨o, e1, e2⟩ isSubtype_stop (wpAny_pure (q _ fun b o hb e => k' b o (k b o hb e))))
  rcases hst with rfl | ⟨rfl, hn⟩
  · refine wpAny_bind (wpAny_field h rfl (x := rawInt 2) rfl (wpAny_pure ?_))
    refine wpAny_bind (wpAny_rule ?_)
    exact stop_here (s := s) hh (fin s.heap fun _ _ _ e => e)
  · refine wpAny_bind (wpAny_field h rfl (x := rawInt 1) rfl (wpAny_pure ?_))
    show wpAny _ _ (itPoolItems (.ref pl) >>= _) _ _ s
    refine wpAny_bind ?_
    unfold itPoolItems
    refine wpAny_bind (wpAny_seqItems hp hd (wpAny_pure ?_))
    have key : ∀ r : Option (List Nat), (match ((List.range is.length).reverse.find? fun k => is.getD k 0 != k + xs.size - is.length) with | none => none | some k => some (is.take k ++ (List.range (is.length - k)).map fun d => is.getD k 0 + 1 + d)) = r → r = none := by
      intro r e'
      rw [← hn, ← e']
      unfold nextC
      cases ((List.range is.length).reverse.find? fun k => is.getD k 0 != k + xs.size - is.length) <;> rfl
    split
    · rename_i nx hx
      have := key _ hx
      cases this
    · refine wpAny_bind (wpAny_setField h rfl (by simp [recC]) ?_)
      exact stop_here (s := s) hh (fin _ fun b o hb e => (Heap.get?_update_ne _ _ _ _ hb).trans e)
end
end LL

namespace LL
open PySem PySem.Spec PySem.Calls PyProof.Rows PySem.Builtin.Itertools
theorem cmb_bind (a b : Value) : itBindNamed "combinations" ["iterable", "r"] 2 2 [a, b] [] = pure [some a, some b] := by kernel_rfl
theorem cmb_isSub : isType (.type "itertools.combinations") = pure true := by first | rfl | kernel_rfl
theorem cmb_class (a b : Value) : itClassAndRest "combinations" ⟨[.type "itertools.combinations", a, b], []⟩ = pure (.type "itertools.combinations", [a, b]) := by
  have h := cmb_sub
  unfold itClassAndRest
  simp only [cmb_isSub]
  show (do if !(← isSubtype (.type "itertools.combinations") (.type "itertools.combinations")) then _ else _) = _
  rw [h]
  rfl
theorem cmb_ssize (r : Int) (t : Tok) (h0 : 0 ≤ r) (h1 : r < 100) : itSsizeArg (.int r t) = pure r := by
  have n : ¬ ((decide (r < -(2 ^ 63 : Int)) || decide (r ≥ 2 ^ 63)) = true) := by
    simp
    omega
  unfold itSsizeArg
  show (if (decide (r < -(2 ^ 63 : Int)) || decide (r ≥ 2 ^ 63)) = true then _ else _) = _
  rw [if_neg n]
theorem cmb_many (r : Int) (h1 : r < 100) : itTooMany r = false := decide_eq_false (by show ¬ (2 ^ 20 : Int) < r; omega)
theorem meets_cmb {l : Addr} {vs : List Value} {r : Int} {t : Tok} (h0 : 0 ≤ r) (h1 : r < 100) :
    Meets (Builtin.«itertools.combinations.__new__» ⟨[.type "itertools.combinations", .ref l, .int r t], []⟩) (fun _ R s => s.heap.IsList l vs.toArray ∧ vs.length ≤ sizeLine ∧
      ∀ (h' : Heap) (pl it : Addr), (∀ b o, s.heap.get? b = some o → h'.get? b = some o) → h'.get? it = some (objC pl (if vs.length < r.toNat then 2 else 0) .none (List.range r.toNat)) → h'.get? pl = some { cls := .type "tuple", data := .seq vs.toArray } →
        s.heap.objs.size ≤ pl → pl < it → R (.ok (.ret (.ref it))) { s with heap := h' }) := by
  refine .of_wp fun prog w A R s ⟨hl, hz, q⟩ => ?_
  unfold Builtin.«itertools.combinations.__new__»
  refine wpAny_bind ?_
  show wpAny _ _ (itClassAndRest "combinations" ⟨[.type "itertools.combinations", .ref l, .int r t], []⟩ >>= _) _ _ s
  refine wpAny_bind (wpAny_of_eq (cmb_class _ _) ?_)
  show wpAny _ _ (itBindNamed "combinations" ["iterable", "r"] 2 2 [.ref l, .int r t] [] >>= _) _ _ s
  refine wpAny_bind (wpAny_of_eq (cmb_bind _ _) ?_)
  show wpAny _ _ (itSsizeArg (.int r t) >>= _) _ _ s
  refine wpAny_bind (wpAny_of_eq (cmb_ssize r t h0 h1) ?_)
  refine wpAny_bind (collect_list hl ?_ hz)
  have k1 : ∀ b o, s.heap.get? b = some o → ((s.heap.push (seqObj "list" #[] 0)).update s.heap.objs.size (Obj.mapSeq (· ++ vs.toArray))).get? b = some o := fun b o e =>
    (Heap.get?_update_ne _ _ _ _ (Nat.ne_of_lt (Heap.lt_size e))).trans (Heap.get?_push_of_some _ e)
  have z1 : ((s.heap.push (seqObj "list" #[] 0)).update s.heap.objs.size (Obj.mapSeq (· ++ vs.toArray))).objs.size = s.heap.objs.size + 1 := by rw [Heap.size_update, Heap.size_push]
  revert k1 z1
  generalize (s.heap.push (seqObj "list" #[] 0)).update s.heap.objs.size (Obj.mapSeq (· ++ vs.toArray)) = g
  intro k1 z1
  show wpAny _ _ (if r < 0 then _ else _) _ _ _
  rw [if_neg (by omega)]
  show wpAny _ _ (if itTooMany r = true then _ else _) _ _ _
  rw [cmb_many r h1, if_neg Bool.false_ne_true]
  refine wpAny_bind (wpAny_newTuple ?_ hz)
  refine wpAny_pure ?_
  show wpAny _ _ (itNewRecord (.type "itertools.combinations") _ >>= _) _ _ _
  refine wpAny_bind ?_
  unfold itNewRecord
  rw [cmb_noDict, if_pos (show (!false) = true from rfl)]
  refine wpAny_newObj_type ?_ ?_
  · refine wpAny_pure ⟨_, rfl, q _ g.objs.size _ (fun b o e => ?_) (Heap.get?_push_size _ rfl) ?_ (by rw [z1]; exact Nat.le_succ _) ?_⟩
    · exact Heap.get?_push_of_some _ (Heap.get?_push_of_some _ (k1 b o e))
    · exact Heap.get?_push_of_some _ (Heap.get?_push_size _ rfl)
    · show g.objs.size < (g.push _).objs.size
      rw [Heap.size_push]
      exact Nat.lt_succ_self _
  · show (List.toArray (_ ++ List.map (fun (i : Nat) => rawInt i) (List.range r.toNat))).size ≤ sizeLine + 2
    rw [List.size_toArray, List.length_append, List.length_map, List.length_range, sizeLine_eq]
    show 3 + r.toNat ≤ _
    omega
end LL

namespace LL
open PySem PySem.Spec PySem.Calls PyProof.Rows PySem.Builtin.Itertools L2
/-- the places at turn i -/
def placesC (n r : Nat) : Nat → Option (List Nat)
  | 0 => if n < r then none else some (List.range r)
  | i + 1 => (placesC n r i).bind (nextC n)
/-- the pool xs, r at a time -/
def ItC (xs : List V) (r : Nat) : It :=
  ⟨fun i _ => (placesC xs.length r i).isSome = true, fun i H x H' => ∃ (T : Addr) (is : List Nat), placesC xs.length r i = some is ∧ x = .ref T ∧ H T = none ∧ H' = upd H T (.tup (is.map fun k => xs.getD k .non)), fun i _ => placesC xs.length r i = none⟩
theorem nextC_len {n : Nat} {is js : List Nat} (h : nextC n is = some js) : js.length = is.length := by
  unfold nextC at h
  cases e : ((List.range is.length).reverse.find? fun k => is.getD k 0 != k + n - is.length) with
  | none => rw [e] at h; cases h
  | some k =>
    rw [e] at h
    have hk : k < is.length := by
      have := List.mem_of_find?_eq_some e
      simpa using this
    have h := Option.some.inj h
    rw [← h, List.length_append, List.length_take, List.length_map, List.length_range]
    omega
theorem placesC_len {n r : Nat} : ∀ {i : Nat} {is : List Nat}, placesC n r i = some is → is.length = r
  | 0, is, h => by
    unfold placesC at h
    split at h
    · cases h
    · rw [← Option.some.inj h, List.length_range]
  | i + 1, is, h => by
    unfold placesC at h
    cases e : placesC n r i with
    | none => rw [e] at h; cases h
    | some js =>
      rw [e] at h
      exact (nextC_len h).trans (placesC_len e)
/-- the record at turn i -/
def turnC (n r : Nat) (us : List Value) (pl it : Addr) (i : Nat) (h : Heap) : Prop :=
  h.get? pl = some { cls := .type "tuple", data := .seq us.toArray } ∧ pl ≠ it ∧ match i with
    | 0 => h.get? it = some (objC pl (if n < r then 2 else 0) .none (List.range r))
    | i + 1 => ∃ last is, placesC n r i = some is ∧ h.get? it = some (objC pl 1 last is)
theorem pick_vals {xs : List V} {us : List Value} (rv : Vals xs us) : ∀ (is : List Nat), Vals (is.map fun k => xs.getD k .non) (pickC us.toArray is)
  | [] => .nil
  | k :: is => by
    refine .cons ?_ (pick_vals rv is)
    by_cases hk : k < xs.length
    · obtain ⟨u, hu, r⟩ := rv.get (List.getElem?_eq_getElem hk)
      have e1 : xs.getD k .non = xs[k] := by rw [List.getD_eq_getElem?_getD, List.getElem?_eq_getElem hk]; rfl
      have e2 : us.toArray.getD k .none = u := by
        rw [Array.getD_eq_getD_getElem?, List.getElem?_toArray, hu]
        rfl
      show L2.RelV (xs.getD k .non) (us.toArray.getD k .none)
      rw [e1, e2]
      exact r
    · have e1 : xs.getD k .non = .non := by rw [List.getD_eq_getElem?_getD, List.getElem?_eq_none (by omega)]; rfl
      have e2 : us.toArray.getD k .none = .none := by
        rw [Array.getD_eq_getD_getElem?, List.getElem?_toArray, List.getElem?_eq_none (by rw [← rv.length]; omega)]
        rfl
      show L2.RelV (xs.getD k .non) (us.toArray.getD k .none)
      rw [e1, e2]
      rfl
theorem turn_comb {P : Program} {w : World} {K : PySem.W.Frag} {tg : Expr} {xs : List V} {us : List Value} (rv : Vals xs us) (r : Nat) (hr : r ≤ 10) (pl it : Addr) : Turn P w K tg (ItC xs r) [it, pl] it (turnC xs.length r us pl it) where
  mem := by simp
  obj := fun i h st b hb => by
    rcases List.mem_cons.mp hb with e | e
    · subst e
      cases i with
      | zero => exact ⟨_, st.2.2, fun v z => by cases z⟩
      | succ i =>
        obtain ⟨last, is, _, e⟩ := st.2.2
        exact ⟨_, e, fun v z => by cases z⟩
    · have e : b = pl := by simpa using e
      subst e
      exact ⟨_, st.1, fun v z => by cases z⟩
  keep := fun i h h' st k => by
    refine ⟨k pl (by simp) _ st.1, st.2.1, ?_⟩
    cases i with
    | zero => exact k it (by simp) _ st.2.2
    | succ i =>
      obtain ⟨last, is, e1, e⟩ := st.2.2
      exact ⟨last, is, e1, k it (by simp) _ e⟩
  item := by
    intro X hP hw hK hc i pins s σ H E I hf st hg
    subst hP hw hK
    obtain ⟨hp, hne, hst⟩ := st
    have hl := rv.length
    obtain ⟨js, hjs⟩ := Option.isSome_iff_exists.mp (show (placesC xs.length r i).isSome = true from hg)
    have hjl : js.length ≤ 10 := by rw [placesC_len hjs]; exact hr
    obtain ⟨f0, f1, f2, f3, f4, f5⟩ := hf it (by simp)
    have fin : ∀ h', h'.get? it = some (objC pl 1 (.ref s.heap.objs.size) js) → (∀ b o, b ≠ it → s.heap.get? b = some o → h'.get? b = some o) → h'.get? s.heap.objs.size = some { cls := .type "tuple", data := .seq (pickC us.toArray js).toArray } →
        ∃ u, some (Value.ref s.heap.objs.size) = some u ∧ wpAny (model X.prog X.w) X.A (letOwnedTupleGo tg (.ref it) u) (fun _ s2 => ∃ x H', Inv X pins σ H' s2 ∧ RelV x u ∧ (ItC xs r).yld i H x H' ∧ turnC xs.length r us pl it (i + 1) s2.heap ∧ ∀ b ∈ [it, pl], H' b = none) E { s with heap := h' } := by
      intro h' a1 a2 a3
      refine ⟨_, rfl, go_of (s := { s with heap := h' }) (n := "itertools.combinations") a1 rfl rfl (by decide) ?_⟩
      have fr : H s.heap.objs.size = none := I.hok.fresh (Nat.le_refl _)
      have lts : ∀ b ∈ [it, pl], b < s.heap.objs.size := fun b hb => by
        rcases List.mem_cons.mp hb with e | e
        · rw [e]
          cases i with
          | zero => exact Heap.lt_size (show s.heap.get? it = some _ from hst)
          | succ i =>
            obtain ⟨_, _, _, e⟩ := hst
            exact Heap.lt_size e
        · have e : b = pl := by simpa using e
          rw [e]
          exact Heap.lt_size hp
      have new : ObjOk X.prog X.w (upd H s.heap.objs.size (.tup (js.map fun k => xs.getD k .non))) h' s.heap.objs.size (.tup (js.map fun k => xs.getD k .non)) := by
        refine ⟨?_, pickC us.toArray js, pick_vals rv js, ⟨_, a3, rfl, _, rfl⟩⟩
        rw [List.length_map, sizeLine_eq]
        omega
      have I1 := I.turnedNew (t' := s.toks) (ch := [it]) (fun b o hb e => a2 b o (by simpa using hb) e) (fun b hb => hf b (by rcases List.mem_cons.mp hb with e | e; exact e ▸ List.mem_cons_self; cases e)) (Nat.le_refl _) new
      refine ⟨.ref s.heap.objs.size, _, I1, rfl, ⟨_, js, hjs, rfl, fr, rfl⟩, ⟨a2 pl _ hne hp, hne, _, js, hjs, a1⟩, fun b hb => ?_⟩
      rw [upd_ne (Nat.ne_of_lt (lts b hb))]
      exact (hf b hb).1
    cases i with
    | zero =>
      have e : ¬ xs.length < r := fun z => by
        unfold placesC at hjs
        rw [if_pos z] at hjs
        cases hjs
      have ej : js = List.range r := by
        unfold placesC at hjs
        rw [if_neg e] at hjs
        exact (Option.some.inj hjs).symm
      have hst' : s.heap.get? it = some (objC pl (if xs.length < r then 2 else 0) .none (List.range r)) := hst
      rw [if_neg e, ← ej] at hst'
      exact cmb_first hst' hp rfl hne hjl fin
    | succ i =>
      obtain ⟨last, is, e1, e⟩ := id hst
      refine cmb_next e hp rfl hne hjl ?_ fin
      unfold placesC at hjs
      rw [e1] at hjs
      rw [List.size_toArray, ← hl]
      exact hjs
  done := by
    intro X hP hw hK hc i pins s σ H E I hf st hg
    subst hP hw hK
    obtain ⟨hp, hne, hst⟩ := st
    obtain ⟨f0, f1, f2, f3, f4, f5⟩ := hf it (by simp)
    have hl := rv.length
    have hg : placesC xs.length r i = none := hg
    cases i with
    | zero =>
      have e : xs.length < r := by
        unfold placesC at hg
        split at hg
        · assumption
        · cases hg
      have hst : s.heap.get? it = some (objC pl (if xs.length < r then 2 else 0) .none (List.range r)) := hst
      rw [if_pos e] at hst
      exact cmb_end (I.ok.hd hc) hst hp rfl (.inl rfl) fun h' k => ⟨rfl, I.turned (t' := s.toks) k f0 f1 f3 f4 f5⟩
    | succ i =>
      obtain ⟨last, is, e1, e⟩ := hst
      refine cmb_end (I.ok.hd hc) e hp rfl (.inr ⟨rfl, ?_⟩) fun h' k => ⟨rfl, I.turned (t' := s.toks) k f0 f1 f3 f4 f5⟩
      unfold placesC at hg
      rw [e1] at hg
      rw [List.size_toArray, ← hl]
      exact hg
  self := fun A i s Q E st h => by
    obtain ⟨_, _, hst⟩ := st
    cases i with
    | zero => exact cmb_iter hst h
    | succ i =>
      obtain ⟨last, is, _, e⟩ := hst
      exact cmb_iter e h
section
variable {X : Cx} {tg : Expr}
def iComb (K : PySem.W.Frag) (r : Nat) (te : TE) : TI := fun σ H R => te σ H fun x H1 => ∃ a xs, x = .ref a ∧ SqL K H1 a xs ∧ R (ItC xs r) H1
/-- for .. in combinations(xs, r) -/
theorem pi_comb {e : Expr} {te : TE} {r : Nat} {j : Nat} {p q pos : Pos} (hg : Gl X "combinations") (hm : X.mg "combinations" = some (.type "itertools.combinations")) (hr : r ≤ 10) (he : PE X e te)
    (h1 : starEach [e, .Constant (.int (r : Int)) j q] X.env = (false, eval e X.env) :: starEach [.Constant (.int (r : Int)) j q] X.env := by rfl) (h2 : starEach [.Constant (.int (r : Int)) j q] X.env = [(false, eval (.Constant (.int (r : Int)) j q) X.env)] := by rfl) :
    PI X tg (.Call (.Name "combinations" p) [e, .Constant (.int (r : Int)) j q] [] pos) (iComb X.K r te) := by
  refine ⟨fun pins s σ H R I h => ?_⟩
  refine wpAny_Call_Name_kw (ld_glob I hg hm ?_)
  refine callWith_type1 ?_ h1 (by rw [h2]; rfl)
  rw [h1, h2]
  show wpAny _ _ (spliced ((false, eval e X.env) :: backTo pos [(false, eval (.Constant (.int (r : Int)) j q) X.env)])) _ _ s
  refine Calls.spliced_cons (thn (he.run pins s σ H _ I h) fun u s1 ⟨x, H1, I1, rx, a, xs, ex, hl, hR⟩ => ?_)
  subst ex
  obtain rfl : u = Value.ref a := rx
  show wpAny _ _ (spliced ((false, eval (.Constant (.int (r : Int)) j q) X.env) :: backTo pos [])) _ _ s1
  refine Calls.spliced_cons (wpAny_Constant_int ?_)
  refine Calls.spliced_nil ?_
  obtain ⟨us, rv, pl, hz⟩ := I1.list hl
  have lr := rv.length
  refine callType_new cmb_called (by decide +kernel) (cmb_call2 _ _) (cmb_newCall _ _) (fun obj => F.args_object_init_3 obj _ _) cmb_entry_new (meets_cmb (vs := us) (by omega) (by omega)) ⟨pl.isList, by omega, fun h' po it k a1 a2 a3 a4 => ?_⟩
  have e0 : ((r : Int)).toNat = r := by omega
  rw [e0] at a1
  refine ⟨⟨_, a1, rfl⟩, cmb_iter a1 ?_⟩
  have J : Inv X pins σ H1 { s1 with heap := h', toks := s1.toks + 1 } := I1.kept k
  have ge : s1.heap.objs.size ≤ it := Nat.le_trans a3 (Nat.le_of_lt a4)
  refine ⟨it, [it, po], turnC xs.length r us po it, ItC xs r, H1, rfl, J, turn_comb rv r hr po it, ⟨a2, Nat.ne_of_lt a4, ?_⟩, fun b hb => ?_, hR⟩
  · show h'.get? it = _
    rw [lr]
    exact a1
  · rcases List.mem_cons.mp hb with e | e
    · rw [e]
      exact I1.fpOk ge (I1.hok.fresh ge)
    · have e : b = po := by simpa using e
      rw [e]
      exact I1.fpOk a3 (I1.hok.fresh a3)
end
end LL

namespace LL
open PySem PySem.Spec PySem.Calls PyProof.Rows L2
/-! ### which places come, and that all do -/
theorem next2 {n i j : Nat} (hn : 2 ≤ n) : nextC n [i, j] = if j = n - 1 then (if i = n - 2 then none else some [i + 1, i + 2]) else some [i, j + 1] := by
  have e : nextC n [i, j] = ((if (j != 1 + n - 2) = true then some 1 else if (i != 0 + n - 2) = true then some 0 else none).map fun k => [i, j].take k ++ (List.range (2 - k)).map fun d => [i, j].getD k 0 + 1 + d) := by
    show Option.map _ (List.find? _ [1, 0]) = _
    rw [List.find?_cons, List.find?_cons]
    show Option.map _ (match (j != 1 + n - 2) with | true => _ | false => match (i != 0 + n - 2) with | true => _ | false => none) = _
    cases (j != 1 + n - 2) <;> cases (i != 0 + n - 2) <;> rfl
  rw [e]
  by_cases h1 : j = n - 1
  · rw [if_pos h1, if_neg (by simp; omega)]
    by_cases h2 : i = n - 2
    · rw [if_pos h2, if_neg (by simp; omega)]
      rfl
    · rw [if_neg h2, if_pos (by simp; omega)]
      rfl
  · rw [if_neg h1, if_pos (by simp; omega)]
    rfl
theorem next3 {n i j k : Nat} (hn : 3 ≤ n) : nextC n [i, j, k] = if k = n - 1 then (if j = n - 2 then (if i = n - 3 then none else some [i + 1, i + 2, i + 3]) else some [i, j + 1, j + 2]) else some [i, j, k + 1] := by
  have e : nextC n [i, j, k] = ((if (k != 2 + n - 3) = true then some 2 else if (j != 1 + n - 3) = true then some 1 else if (i != 0 + n - 3) = true then some 0 else none).map fun m => [i, j, k].take m ++ (List.range (3 - m)).map fun d => [i, j, k].getD m 0 + 1 + d) := by
    show Option.map _ (List.find? _ [2, 1, 0]) = _
    rw [List.find?_cons, List.find?_cons, List.find?_cons]
    show Option.map _ (match (k != 2 + n - 3) with | true => _ | false => match (j != 1 + n - 3) with | true => _ | false => match (i != 0 + n - 3) with | true => _ | false => none) = _
    cases (k != 2 + n - 3) <;> cases (j != 1 + n - 3) <;> cases (i != 0 + n - 3) <;> rfl
  rw [e]
  by_cases h1 : k = n - 1
  · rw [if_pos h1, if_neg (by simp; omega)]
    by_cases h2 : j = n - 2
    · rw [if_pos h2, if_neg (by simp; omega)]
      by_cases h3 : i = n - 3
      · rw [if_pos h3, if_neg (by simp; omega)]
        rfl
      · rw [if_neg h3, if_pos (by simp; omega)]
        rfl
    · rw [if_neg h2, if_pos (by simp; omega)]
      rfl
  · rw [if_neg h1, if_pos (by simp; omega)]
    rfl
theorem places_step {n r t : Nat} {is : List Nat} (h : placesC n r t = some is) : placesC n r (t + 1) = nextC n is := by
  show (placesC n r t).bind (nextC n) = _
  rw [h]
  rfl
theorem places_stay {n r : Nat} : ∀ {t : Nat}, placesC n r t = none → ∀ d, placesC n r (t + d) = none
  | t, h, 0 => h
  | t, h, d + 1 => by
    show (placesC n r (t + d)).bind (nextC n) = none
    rw [places_stay h d]
    rfl
/-- two rising places -/
theorem places2 {n : Nat} : ∀ {t : Nat} {is : List Nat}, placesC n 2 t = some is → ∃ i j, is = [i, j] ∧ i < j ∧ j < n ∧ t ≤ i * n + j
  | 0, is, h => by
    unfold placesC at h
    split at h
    · cases h
    · exact ⟨0, 1, (Option.some.inj h).symm, by decide, by omega, by omega⟩
  | t + 1, is, h => by
    cases e : placesC n 2 t with
    | none =>
      have := places_stay e 1
      rw [this] at h
      cases h
    | some js =>
      obtain ⟨i, j, rfl, h1, h2, h3⟩ := places2 e
      rw [places_step e, next2 (by omega)] at h
      split at h
      · split at h
        · cases h
        · refine ⟨i + 1, i + 2, (Option.some.inj h).symm, by omega, by omega, ?_⟩
          rw [Nat.add_mul]
          omega
      · exact ⟨i, j + 1, (Option.some.inj h).symm, by omega, by omega, by omega⟩
theorem places3 {n : Nat} : ∀ {t : Nat} {is : List Nat}, placesC n 3 t = some is → ∃ i j k, is = [i, j, k] ∧ i < j ∧ j < k ∧ k < n ∧ t ≤ (i * n + j) * n + k
  | 0, is, h => by
    unfold placesC at h
    split at h
    · cases h
    · exact ⟨0, 1, 2, (Option.some.inj h).symm, by decide, by decide, by omega, by omega⟩
  | t + 1, is, h => by
    cases e : placesC n 3 t with
    | none =>
      have := places_stay e 1
      rw [this] at h
      cases h
    | some js =>
      obtain ⟨i, j, k, rfl, h1, h2, h3, h4⟩ := places3 e
      rw [places_step e, next3 (by omega)] at h
      split at h
      · split at h
        · split at h
          · cases h
          · refine ⟨i + 1, i + 2, i + 3, (Option.some.inj h).symm, by omega, by omega, by omega, ?_⟩
            have e1 : ((i + 1) * n + (i + 2)) * n = (i * n + j) * n + (n + (i + 2) - j) * n := by
              rw [← Nat.add_mul]
              congr 1
              rw [Nat.add_mul]
              omega
            have : 1 * n ≤ (n + (i + 2) - j) * n := Nat.mul_le_mul_right _ (by omega)
            omega
        · refine ⟨i, j + 1, j + 2, (Option.some.inj h).symm, by omega, by omega, by omega, ?_⟩
          have e1 : (i * n + (j + 1)) * n = (i * n + j) * n + n := by rw [← Nat.add_assoc, Nat.add_mul (i * n + j) 1 n, Nat.one_mul]
          omega
      · exact ⟨i, j, k + 1, (Option.some.inj h).symm, by omega, by omega, by omega, by omega⟩
theorem places_end {n r B : Nat} (h : ∀ t is, placesC n r t = some is → t ≤ B) : ∃ N, placesC n r N = none ∧ ∀ t, t < N → (placesC n r t).isSome = true := by
  have go : ∀ b, (∃ N, N ≤ b ∧ placesC n r N = none ∧ ∀ t, t < N → (placesC n r t).isSome = true) ∨ ∀ t, t ≤ b → (placesC n r t).isSome = true := by
    intro b
    induction b with
    | zero =>
      cases e : placesC n r 0 with
      | none => exact .inl ⟨0, Nat.le_refl _, e, fun t ht => absurd ht (Nat.not_lt_zero _)⟩
      | some is => exact .inr fun t ht => by rw [Nat.le_zero.mp ht, e]; rfl
    | succ b ih =>
      rcases ih with ⟨N, a1, a2, a3⟩ | al
      · exact .inl ⟨N, by omega, a2, a3⟩
      · cases e : placesC n r (b + 1) with
        | none => exact .inl ⟨b + 1, Nat.le_refl _, e, fun t ht => al t (by omega)⟩
        | some is =>
          refine .inr fun t ht => ?_
          by_cases z : t = b + 1
          · rw [z, e]; rfl
          · exact al t (by omega)
  rcases go (B + 1) with ⟨N, _, a2, a3⟩ | al
  · exact ⟨N, a2, a3⟩
  · obtain ⟨is, e⟩ := Option.isSome_iff_exists.mp (al (B + 1) (Nat.le_refl _))
    have := h _ _ e
    omega
theorem all2 {n : Nat} : ∀ {i j : Nat}, i < j → j < n → ∃ t, placesC n 2 t = some [i, j] := by
  have row : ∀ {i : Nat}, (∃ t, placesC n 2 t = some [i, i + 1]) → ∀ d, i + 1 + d < n → ∃ t, placesC n 2 t = some [i, i + 1 + d] := by
    intro i h d
    induction d with
    | zero => exact fun _ => h
    | succ d ih =>
      intro hd
      obtain ⟨t, e⟩ := ih (by omega)
      refine ⟨t + 1, ?_⟩
      rw [places_step e, next2 (by omega), if_neg (by omega)]
      rfl
  have first : ∀ i, i + 1 < n → ∃ t, placesC n 2 t = some [i, i + 1] := by
    intro i
    induction i with
    | zero =>
      intro h
      exact ⟨0, by unfold placesC; rw [if_neg (by omega)]; rfl⟩
    | succ i ih =>
      intro h
      obtain ⟨t, e⟩ := row (ih (by omega)) (n - 1 - (i + 1)) (by omega)
      have e1 : i + 1 + (n - 1 - (i + 1)) = n - 1 := by omega
      rw [e1] at e
      refine ⟨t + 1, ?_⟩
      rw [places_step e, next2 (by omega), if_pos rfl, if_neg (by omega)]
  intro i j h1 h2
  obtain ⟨t, e⟩ := row (first i (by omega)) (j - (i + 1)) (by omega)
  have e1 : i + 1 + (j - (i + 1)) = j := by omega
  rw [e1] at e
  exact ⟨t, e⟩
theorem all3 {n : Nat} : ∀ {i j k : Nat}, i < j → j < k → k < n → ∃ t, placesC n 3 t = some [i, j, k] := by
  have row : ∀ {i j : Nat}, (∃ t, placesC n 3 t = some [i, j, j + 1]) → ∀ d, j + 1 + d < n → ∃ t, placesC n 3 t = some [i, j, j + 1 + d] := by
    intro i j h d
    induction d with
    | zero => exact fun _ => h
    | succ d ih =>
      intro hd
      obtain ⟨t, e⟩ := ih (by omega)
      have := places3 e
      refine ⟨t + 1, ?_⟩
      obtain ⟨_, _, _, z, h1, h2, h3, _⟩ := this
      simp at z
      rw [places_step e, next3 (by omega), if_neg (by omega)]
      rfl
  have last : ∀ {i j : Nat}, j + 1 < n → (∃ t, placesC n 3 t = some [i, j, j + 1]) → ∃ t, placesC n 3 t = some [i, j, n - 1] := by
    intro i j h1 h
    obtain ⟨t, e⟩ := row h (n - 1 - (j + 1)) (by omega)
    have e1 : j + 1 + (n - 1 - (j + 1)) = n - 1 := by omega
    rw [e1] at e
    exact ⟨t, e⟩
  have col : ∀ {i : Nat}, i + 2 < n → (∃ t, placesC n 3 t = some [i, i + 1, i + 2]) → ∀ d, i + 1 + d + 1 < n → ∃ t, placesC n 3 t = some [i, i + 1 + d, i + 1 + d + 1] := by
    intro i hi h d
    induction d with
    | zero => exact fun _ => h
    | succ d ih =>
      intro hd
      obtain ⟨t, e⟩ := last (by omega) (ih (by omega))
      refine ⟨t + 1, ?_⟩
      rw [places_step e, next3 (by omega), if_pos rfl, if_neg (by omega)]
      rfl
  have first : ∀ i, i + 2 < n → ∃ t, placesC n 3 t = some [i, i + 1, i + 2] := by
    intro i
    induction i with
    | zero =>
      intro h
      exact ⟨0, by unfold placesC; rw [if_neg (by omega)]; rfl⟩
    | succ i ih =>
      intro h
      obtain ⟨t, e⟩ := last (by omega) (col (by omega) (ih (by omega)) (n - 3 - i) (by omega))
      refine ⟨t + 1, ?_⟩
      have e1 : i + 1 + (n - 3 - i) = n - 2 := by omega
      rw [e1] at e
      rw [places_step e, next3 (by omega), if_pos rfl, if_pos rfl, if_neg (by omega)]
  intro i j k h1 h2 h3
  obtain ⟨t, e⟩ := row (i := i) (j := j) (by
    have := col (by omega) (first i (by omega)) (j - (i + 1)) (by omega)
    have e1 : i + 1 + (j - (i + 1)) = j := by omega
    rw [e1] at this
    exact this) (k - (j + 1)) (by omega)
  have e1 : j + 1 + (k - (j + 1)) = k := by omega
  rw [e1] at e
  exact ⟨t, e⟩
/-- what comes at turn t -/
def YComb (xs : List V) (r : Nat) : Nat → Hp → V → Hp → Prop := fun t H x H' => ∃ (T : Addr) (is : List Nat), placesC xs.length r t = some is ∧ x = .ref T ∧ H T = none ∧ H' = upd H T (.tup (is.map fun k => xs.getD k .non))
theorem walk_comb {xs : List V} {r N : Nat} (h1 : placesC xs.length r N = none) (h2 : ∀ t, t < N → (placesC xs.length r t).isSome = true) : Walk (ItC xs r) N (fun _ => True) (YComb xs r) :=
  ⟨fun i H hi _ => h2 i hi, fun H _ => h1, fun i H x H' _ _ y => y⟩
theorem comb2 (xs : List V) : ∃ N, Walk (ItC xs 2) N (fun _ => True) (YComb xs 2) ∧ ∀ i j, i < j → j < xs.length → ∃ t, t < N ∧ placesC xs.length 2 t = some [i, j] := by
  obtain ⟨N, a1, a2⟩ := places_end (n := xs.length) (r := 2) (B := xs.length * xs.length) fun t is h => by
    obtain ⟨i, j, _, h1, h2, h3⟩ := places2 h
    have : (i + 1) * xs.length ≤ xs.length * xs.length := Nat.mul_le_mul_right _ (by omega)
    rw [Nat.add_mul] at this
    omega
  refine ⟨N, walk_comb a1 a2, fun i j h1 h2 => ?_⟩
  obtain ⟨t, e⟩ := all2 h1 h2
  refine ⟨t, ?_, e⟩
  rcases Nat.lt_or_ge t N with z | z
  · exact z
  · have := places_stay a1 (t - N)
    rw [show N + (t - N) = t by omega, e] at this
    cases this
theorem comb3 (xs : List V) : ∃ N, Walk (ItC xs 3) N (fun _ => True) (YComb xs 3) ∧ ∀ i j k, i < j → j < k → k < xs.length → ∃ t, t < N ∧ placesC xs.length 3 t = some [i, j, k] := by
  obtain ⟨N, a1, a2⟩ := places_end (n := xs.length) (r := 3) (B := xs.length * xs.length * xs.length) fun t is h => by
    obtain ⟨i, j, k, _, h1, h2, h3, h4⟩ := places3 h
    have m1 : (i + 1) * xs.length ≤ xs.length * xs.length := Nat.mul_le_mul_right _ (by omega)
    rw [Nat.add_mul] at m1
    have m2 : (i * xs.length + j + 1) * xs.length ≤ xs.length * xs.length * xs.length := Nat.mul_le_mul_right _ (by omega)
    rw [Nat.add_mul] at m2
    omega
  refine ⟨N, walk_comb a1 a2, fun i j k h1 h2 h3 => ?_⟩
  obtain ⟨t, e⟩ := all3 h1 h2 h3
  refine ⟨t, ?_, e⟩
  rcases Nat.lt_or_ge t N with z | z
  · exact z
  · have := places_stay a1 (t - N)
    rw [show N + (t - N) = t by omega, e] at this
    cases this
end LL

namespace LL
open PySem PySem.Spec PySem.Calls PyProof.Rows L2
section
variable {X : Cx} {pins : List (Addr × Obj)} {σ : L2.St} {H : Hp} {s : Shared}
/-- objects of our own that aren't tracked have changed; the one at a is tracked from now on -/
theorem inv_turnT {h' : Heap} {tk : Nat} {ch : List Addr} {a : Addr} {o : HO} (I : Inv X pins σ H s) (hf : ∀ b ∈ ch, FpOk X pins H b) (ha : a ∈ ch) (k : ∀ b u, b ∉ ch → s.heap.get? b = some u → h'.get? b = some u) (new : ObjOk X.prog X.w (upd H a o) h' a o) :
    Inv X pins σ (upd H a o) { s with heap := h', toks := tk } := by
  have na : H a = none := (hf a ha).1
  have out : ∀ {b : Addr} {u : HO}, H b = some u → b ∉ ch := fun e z => by rw [(hf _ z).1] at e; cases e
  have up : ∀ {b : Addr} {u : HO}, H b = some u → upd H a o b = some u := fun e => (upd_ne (ne_of_none e na)).trans e
  refine I.step (g' := s.gens) (d' := s.drawn) (ch := ch) (fun b hb => ?_) (fun b u _ _ hc e _ => k b u hc e) (fun b u _ _ hc e _ => ⟨_, k b u hc e⟩) (fun b u hc _ n => ?_) (fun b u hc e => ⟨_, k b u hc e⟩) (fun b xs e => up e) (fun b u xs e => up e) (fun b ps e => ⟨#[], by rw [up e, Array.append_empty]⟩)
    (fun m hn => ?_) (fun b u e => ?_) I.bare
  · obtain ⟨f0, f1, f2, f3, f4, f5⟩ := hf b hb
    exact ⟨f3, f1, f4, f5⟩
  · by_cases z : b = a
    · rw [z] at hc
      exact absurd ha hc
    · rw [upd_ne z]
      exact n
  · obtain ⟨u, es, ep, e, r⟩ := hn
    refine ⟨u, es, ep, k _ _ (fun z => ?_) e, r⟩
    exact (hf _ z).2.1 rfl
  · by_cases z : b = a
    · subst z
      rw [upd_same] at e
      cases e
      exact new
    · rw [upd_ne z] at e
      refine (I.hok b u e).stay (fun c v hc q => k c v ?_ q) (fun c q => up q) fun c xs q => up q
      rcases hc with z' | z'
      · rw [z']
        exact out e
      · exact out z'
/-- the function that a lambda of one parameter made -/
def lamF (q : Str) (params : Arguments) (scope : Scope) (cl : List (Str × Addr)) (c' : Addr) : NdefX.NF := ⟨"<lambda>", q, params, [], scope, cl, c'⟩
/-- it is called -/
theorem lam_call {A₂ : Around} {f c' : Addr} {q x : Str} {params : Arguments} {body : Expr} {scope : Scope} {cl : List (Str × Addr)} {pm ctv u : Value} {N fr : List Str} {ws : List (Option V)} {k : Nat} {tb : TE} {v : V} {Q : VK}
    (I : Inv X pins σ H s) (hA : A₂.frames = some X.stack) (hr : Room (k + 1) A₂) (S : NdefX.NScope N [x] fr scope) (ho : s.heap.get? f = some (PySem.W.kla_obj "<lambda>" q params body scope cl pm c' ctv)) (hc : H c' = some (LamX.CodeO c' q))
    (C : NdefX.CellsAt cl fr ws s.heap H) (hbind : bindArgs (PySem.W.kla_fn "<lambda>" q params body scope cl pm (.ref c') ctv) ⟨[u], []⟩ = pure [(x, u)]) (ru : RelV v u)
    (hbody : ∀ (A : Around) (outer : List Env) (s : Shared) (H : Hp), Room k (A.deeper (NdefX.envF (lamF q params scope cl c') f s.heap.objs.size)) → PE (NdefX.ncx CX0 X.prog X.w X.K X.mg X.base N (lamF q params scope cl c') f A outer s H E0) body tb)
    (ht : tb (NdefX.startF N [v] ws) H Q) :
    wpAny (model X.prog X.w) A₂ (call (.ref f) [u]) (fun r s' => ∃ v' H', RelV v' r ∧ Q v' H' ∧ Un (frs X.stack) [] H H' s.heap s'.heap ∧ Inv X pins σ H' s') (fun _ _ => False) s := by
  obtain ⟨⟨oc, vs, t, hoc, hdc, hvc⟩, _, _⟩ := I.hok c' _ hc
  have e0 : Env0 X.prog X.w X.K X.mg X.base A₂ X.stack s H := by
    have e := I.env0
    exact ⟨hA, e.mod, e.bs, e.bsz, e.funs, e.frf, e.hok, e.bare⟩
  have rc : codeAny (model X.prog X.w) A₂ (.call (.ref f) ⟨[u], []⟩) (CR CX0 X.stack X.prog X.w H s Q E0) s := by
    refine PySem.W.kla_callFunE hr.depth ho rfl S.co S.gen rfl ⟨c', oc, vs, t, rfl, hoc, hdc, hvc⟩ ?_
    rw [hbind]
    refine wpAny_pure (wpAny_newFunctionEnv S.nocell (fun y hy => ?_) (fun h₁ hns hsb => ⟨I.nolimit.fresh _ hsb, ?_⟩) S.kind)
    · have e : y = (x, u) := by simpa using hy
      rw [e]
      exact S.par x (by simp)
    · show codeAny _ _ (.expr body (NdefX.envF (lamF q params scope cl c') f s.heap.objs.size)) _ _
      have kp : ∀ b o, s.heap.get? b = some o → h₁.get? b = some o := fun b o e => hsb.extBut b o (Nat.ne_of_lt (Heap.lt_size e)) (Heap.get?_push_of_some _ e)
      have J := NdefX.inv_startN (CX := CX0) (E := E0) (F := lamF q params scope cl c') (f := f) (us := [u]) (tk := s.toks + ([(x, u)] : List (Str × Value)).length) S hr.hd e0 (vs := [v]) rfl (.cons ru .nil) C hns kp
      refine PySem.W.kla_codeExpr (wpAny_mono ((hbody A₂ X.stack s H (hr.deeper _)).run [] _ _ H Q J ht) (fun r s' hq => ?_) fun e s' hq => hq)
      obtain ⟨w', H', J', rv, q'⟩ := hq
      exact ⟨w', H', J'.os, J'.bare, J'.base, J'.hok, rv, q'⟩
  refine wpAny_call (codeAny_mono rc fun r s' hq => ?_)
  cases r with
  | error e => exact (show False from hq).elim
  | ok fl =>
    cases fl with
    | ret r =>
      obtain ⟨v', H', os, bare, un, hok, rv, q'⟩ := (show CE X.stack X.prog X.w H s Q r s' from hq)
      exact ⟨v', H', rv, q', un, I.call' (ch := []) os un hok bare fun b z => absurd z List.not_mem_nil⟩
    | next => exact False.elim hq
    | brk => exact False.elim hq
    | cont => exact False.elim hq
/-- the things xs in the order of their numbers ks -/
def byNum (xs : List V) (ks : List Int) : List V := ((xs.zip ks).mergeSort fun p q => decide (p.2 ≤ q.2)).map Prod.fst
theorem each_vals {us : List Value} {bs : List (V × Int)} (h : PySem.W.EachIs (fun u (p : V × Int) => RelV p.1 u) us bs) : Vals (bs.map Prod.fst) us := by
  induction h with
  | nil => exact .nil
  | cons r _ ih => exact .cons r ih
theorem each_zip : ∀ {xs : List V} {us : List Value} {ks : List Int}, Vals xs us → ks.length = xs.length → PySem.W.EachIs (fun u (p : V × Int) => RelV p.1 u) us (xs.zip ks)
  | [], _, _, .nil, _ => .nil
  | x :: xs, _, [], .cons r t, h => by cases h
  | x :: xs, _, k :: ks, .cons r t, h => .cons r (each_zip t (by simpa using h))
theorem each_ints {h : Heap} : ∀ {ks : List Int} {us : List Value}, Vals (ks.map V.int) us → PySem.W.EachIs (fun u (d : PyData) => ∃ as, Reads h u d as) us (ks.map PyData.int)
  | [], _, .nil => .nil
  | k :: ks, _, .cons r t => .cons (by obtain ⟨tk, rfl⟩ := r; exact ⟨[], .int k tk⟩) (each_ints t)
theorem ints_alike (ks : List Int) : PySem.W.AllAlike (ks.map PyData.int) := by
  intro d hd d' hd'
  obtain ⟨i, _, rfl⟩ := List.mem_map.mp hd
  obtain ⟨j, _, rfl⟩ := List.mem_map.mp hd'
  rfl
theorem ints_sort (ks : List Int) : PySem.W.Sortable (ks.map PyData.int) := by
  refine .inr fun d hd => ?_
  obtain ⟨i, _, rfl⟩ := List.mem_map.mp hd
  exact ⟨fun z => (by cases z), fun xs z => (by cases z)⟩
theorem sort_lam {l f c' : Addr} {q x : Str} {params : Arguments} {body : Expr} {scope : Scope} {cl : List (Str × Addr)} {pm ctv : Value} {N fr : List Str} {js : List Nat} {k : Nat} {tb : TE} {xs : List V} {ks : List Int} {Q' : Value → Shared → Prop} {E' : Value → Shared → Prop}
    (I : Inv X pins σ H s) (hl : SqL X.K H l xs) (hk : ks.length = xs.length) (hr : Room (k + 1) X.A.in1.in1) (hfr : X.A.frames = some X.stack) (S : NdefX.NScope N [x] fr scope) (ho : s.heap.get? f = some (PySem.W.kla_obj "<lambda>" q params body scope cl pm c' ctv)) (hf : H f = none) (hfs : f ∉ frs X.stack)
    (hc : H c' = some (LamX.CodeO c' q)) (cp : NdefX.Caps X cl fr js) (hbind : ∀ u, bindArgs (PySem.W.kla_fn "<lambda>" q params body scope cl pm (.ref c') ctv) ⟨[u], []⟩ = pure [(x, u)])
    (hbody : ∀ (A : Around) (outer : List Env) (s : Shared) (H : Hp), Room k (A.deeper (NdefX.envF (lamF q params scope cl c') f s.heap.objs.size)) → PE (NdefX.ncx CX0 X.prog X.w X.K X.mg X.base N (lamF q params scope cl c') f A outer s H E0) body tb)
    (hkey : ∀ (i : Nat) (v : V) (n : Int), xs[i]? = some v → ks[i]? = some n → ∀ H2, Same H H2 → tb (NdefX.startF N [v] (js.map (NdefX.slotAt σ))) H2 (fun r H3 => r = .int n ∧ Same H2 H3))
    (hQ : ∀ (H4 : Hp) (a : Addr) (s' : Shared), Inv X pins σ H4 s' → Same H H4 → H a = none → H4 a = some (.lst (byNum xs ks)) → Q' (.ref a) s') :
    wpAny (model X.prog X.w) X.A (call (.builtin "sorted") [.ref l] [(Str.ofString "key", .ref f)]) Q' E' s := by
  obtain ⟨us, rv, pl, hz⟩ := I.list hl
  have lu := rv.length
  have uz : us.length ≤ sizeLine := by omega
  refine PySem.W.sorted_of_sort pl.isList uz (ksk_s1 _ _) (fun _ => ksk_l1 _ _) fun E'' => ?_
  rw [ksk_t1]
  have g1a := PySem.W.copyHeap_at s.heap us
  have g1k : ∀ b o, s.heap.get? b = some o → (PySem.W.copyHeap s.heap us).get? b = some o := fun b o e => PySem.W.copyHeap_old e
  obtain ⟨a, ha⟩ : ∃ a, a = s.heap.objs.size + 1 := ⟨_, rfl⟩
  have sa : s.heap.objs.size ≤ a := by rw [ha]; exact Nat.le_succ _
  rw [← ha] at g1a ⊢
  revert g1k g1a
  generalize PySem.W.copyHeap s.heap us = g1
  intro g1k g1a
  unfold ksk_tree
  refine wpAny_bind (listItems_at g1a rfl (wpAny_bind (listUpdate_at g1a rfl ?_ (by rw [List.size_toArray]; exact uz) (Nat.zero_le _))))
  obtain ⟨e1, g2a⟩ : ∃ e1, (g1.update a (Obj.mapSeq fun _ => (#[] : Array Value))).get? a = some (seqObj "list" #[] e1) := ⟨_, get?_update_seq g1a fun _ => #[]⟩
  have g2k : ∀ b o, s.heap.get? b = some o → (g1.update a (Obj.mapSeq fun _ => (#[] : Array Value))).get? b = some o := fun b o e => (Heap.get?_update_ne _ _ _ _ (Nat.ne_of_lt (Nat.lt_of_lt_of_le (Heap.lt_size e) sa))).trans (g1k b o e)
  show wpAny _ _ _ _ _ { s with heap := g1.update a (Obj.mapSeq fun _ => (#[] : Array Value)) }
  revert g2a g2k
  generalize g1.update a (Obj.mapSeq fun _ => (#[] : Array Value)) = g2
  intro g2a g2k
  refine wpAny_bind (seqEpoch_at g2a rfl (wpAny_bind (wpAny_newTuple ?_ (by show us.length ≤ _; exact uz))))
  have a2 : a < g2.objs.size := Heap.lt_size g2a
  refine wpAny_bind (wpAny_newList ?_ (Nat.zero_le _))
  refine wpAny_holding ?_
  have g3k : ∀ b o, g2.get? b = some o → ((g2.push (seqObj "tuple" us.toArray 0)).push (seqObj "list" #[] 0)).get? b = some o := fun b o e => Heap.get?_push_of_some _ (Heap.get?_push_of_some _ e)
  have g3s : ((g2.push (seqObj "tuple" us.toArray 0)).push (seqObj "list" #[] 0)).get? (g2.push (seqObj "tuple" us.toArray 0)).objs.size = some (seqObj "list" #[] 0) := Heap.get?_push_size _ rfl
  have z3 : g2.objs.size < (g2.push (seqObj "tuple" us.toArray 0)).objs.size := by
    rw [Heap.size_push]
    exact Nat.lt_succ_self _
  show wpAny _ _ (ksk_rest a (.ref f) false us.toArray e1 (.ref (g2.push (seqObj "tuple" us.toArray 0)).objs.size)) _ _ { s with heap := (g2.push (seqObj "tuple" us.toArray 0)).push (seqObj "list" #[] 0) }
  revert g3k g3s z3
  generalize (g2.push (seqObj "tuple" us.toArray 0)).push (seqObj "list" #[] 0) = g3
  generalize (g2.push (seqObj "tuple" us.toArray 0)).objs.size = kS
  intro g3k g3s z3
  have hka : kS ≠ a := Nat.ne_of_gt (Nat.lt_trans a2 z3)
  have sk : s.heap.objs.size ≤ kS := Nat.le_trans sa (Nat.le_of_lt (Nat.lt_trans a2 z3))
  have keep0 : ∀ b o, s.heap.get? b = some o → g3.get? b = some o := fun b o e => g3k b o (g2k b o e)
  have I0 : Inv X pins σ H { s with heap := g3, toks := s.toks } := I.kept keep0
  have fa : FpOk X pins H a := I.fpOk sa (I.hok.fresh sa)
  have fk : FpOk X pins H kS := I.fpOk sk (I.hok.fresh sk)
  have nst : ∀ {b : Addr}, FpOk X pins H b → b ∉ frs X.stack := fun z hb => by
    rcases List.mem_cons.mp (I.stkSub _ hb) with e | e
    · exact z.2.1 e
    · exact z.2.2.1 e
  unfold ksk_rest
  refine wpAny_bind (wpAny_rule ?_)
  rw [← Array.forIn_toList]
  refine wpAny_bind (ksk_fold (fun i s' => ∃ (H' : Hp) (kA : Array Value) (e : Nat), Inv X pins σ H' s' ∧ Same H H' ∧ H' a = none ∧ H' kS = none ∧ H' f = none ∧ s'.heap.get? f = some (PySem.W.kla_obj "<lambda>" q params body scope cl pm c' ctv) ∧
    s'.heap.get? kS = some (seqObj "list" kA e) ∧ s'.heap.get? a = some (seqObj "list" #[] e1) ∧ Vals ((ks.take i).map V.int) kA.toList) us 0 _
    ⟨H, #[], 0, I0, Same.refl H, fa.1, fk.1, hf, keep0 _ _ ho, g3s, g3k _ _ g2a, .nil⟩ ?step ?done)
  case step =>
    rintro j u s' hu ⟨H', kA, e, I', s1, na, nk, nf, of', ok', oa', vk⟩
    rw [Nat.zero_add] at vk ⊢
    have hj : j < us.length := (List.getElem?_eq_some_iff.mp hu).1
    have hx : xs[j]? = some xs[j] := List.getElem?_eq_getElem (by omega)
    have hn : ks[j]? = some ks[j] := List.getElem?_eq_getElem (by omega)
    obtain ⟨u', hu', ru⟩ := rv.get hx
    rw [hu] at hu'
    cases hu'
    have zk : kA.size ≤ us.length := by
      have := vk.length
      have e2 : kA.toList.length = kA.size := Array.length_toList
      rw [List.length_map, List.length_take] at this
      omega
    refine wpAny_bind (wpAny_attempt (wpAny_mono (lam_call (Q := fun r H3 => r = .int ks[j] ∧ Same H' H3) I' hfr hr S of' (s1 _ _ hc) (NdefX.cells_of I' cp) (hbind u) ru hbody (hkey j _ _ hx hn H' s1)) (fun r s2 hq => ?_) fun _ _ z => z.elim))
    obtain ⟨v', H2, rr, ⟨ev, s2'⟩, un, I2⟩ := hq
    subst ev
    have keep : ∀ {b : Addr} {o : Obj}, H' b = none → b ∉ frs X.stack → s'.heap.get? b = some o → s2.heap.get? b = some o := fun n h e => un.keep _ _ e n h List.not_mem_nil
    have fre : ∀ {b : Addr} {o : Obj}, H' b = none → s'.heap.get? b = some o → H2 b = none := fun n e => un.free _ _ e n List.not_mem_nil
    have ok2 := keep nk (nst fk) ok'
    have oa2 := keep na (nst fa) oa'
    have of2 := keep nf hfs of'
    have nk2 := fre nk ok'
    show wpAny _ _ (Builtin.List.listUpdate (.ref kS) (·.push r) >>= _) _ _ _
    refine wpAny_bind (listUpdate_at ok2 rfl ?_ (by omega) (by rw [Array.size_push]; omega))
    obtain ⟨e', ok3⟩ : ∃ e', (s2.heap.update kS (Obj.mapSeq (·.push r))).get? kS = some (seqObj "list" (kA.push r) e') := ⟨_, get?_update_seq ok2 (·.push r)⟩
    have k3 : ∀ b o, b ≠ kS → s2.heap.get? b = some o → (s2.heap.update kS (Obj.mapSeq (·.push r))).get? b = some o := fun b o hb e => (Heap.get?_update_ne _ _ _ _ hb).trans e
    have nef : f ≠ kS := fun z => by
      have lt := Heap.lt_size ho
      rw [z] at lt
      exact Nat.lt_irrefl _ (Nat.lt_of_lt_of_le lt sk)
    have I3 : Inv X pins σ H2 { s2 with heap := s2.heap.update kS (Obj.mapSeq (·.push r)), toks := s2.toks } := I2.turned k3 nk2 fk.2.1 fk.2.2.2.1 fk.2.2.2.2.1 fk.2.2.2.2.2
    refine wpAny_pure ⟨rfl, H2, kA.push r, e', I3, s1.trans s2', fre na oa', nk2, fre nf of', k3 _ _ nef of2, ok3, k3 _ _ (Ne.symm hka) oa2, ?_⟩
    rw [List.take_add_one, hn, Array.toList_push, List.map_append]
    exact vk.append (.cons rr .nil)
  case done =>
    rintro s' ⟨H', kA, e, I', s1, na, nk, nf, of', ok', oa', vk⟩
    have et : ks.take (0 + us.length) = ks := List.take_of_length_le (by omega)
    rw [et] at vk
    have zk : kA.size = us.length := by
      have := vk.length
      have e2 : kA.toList.length = kA.size := Array.length_toList
      rw [List.length_map] at this
      omega
    refine wpAny_bind (listItems_at ok' rfl ?_)
    have hd1 : ∀ d ∈ ks.map PyData.int, X.A.in1.in1.units + d.depth < cLine := fun d hd => by
      obtain ⟨i, _, rfl⟩ := List.mem_map.mp hd
      have := hr.un
      show X.A.in1.in1.units + 0 < _
      omega
    have ek := each_ints (h := s'.heap) vk
    refine PySem.W.keyH_end (κ := PySem.W.dataKind s'.heap (ks.map PyData.int)) (h₁ := PySem.W.hideAll s'.heap [kS]) (fun b o hb e => PySem.W.of_hideAll _ e) (PySem.W.hideAll_none _ (by simp)) ok' oa' hka (PySem.W.SortsAt.data (s := s') ek (ints_alike ks) (ints_sort ks) hd1) zk uz fun h' tk c kp oh => ⟨rfl, ?_⟩
    have ko : PySem.W.KeyedOut false ((xs.zip ks).map fun p => PyData.int p.2) us (PySem.W.sortVals (PySem.W.dataKind s'.heap (ks.map PyData.int)) false kA.toList us) := by
      have em : (xs.zip ks).map (fun p => PyData.int p.2) = ks.map PyData.int := by
        rw [show (fun p : V × Int => PyData.int p.2) = PyData.int ∘ Prod.snd from rfl, ← List.map_map, List.map_snd_zip (by omega)]
      rw [em]
      exact ⟨s'.heap, kA.toList, ints_alike ks, rfl, ek⟩
    have out := PySem.W.keyedOut_each (fun p : V × Int => PyData.int p.2) ko (each_zip rv hk)
    rw [PySem.W.dataLe_int] at out
    have vals := each_vals out
    have fc : ∀ b ∈ [a, kS], FpOk X pins H' b := fun b hb => by
      rcases List.mem_cons.mp hb with z | z
      · rw [z]
        exact ⟨na, fa.2⟩
      · have z : b = kS := by simpa using z
        rw [z]
        exact ⟨nk, fk.2⟩
    have kc : ∀ b u, b ∉ [a, kS] → s'.heap.get? b = some u → h'.get? b = some u := fun b u hb e => by
      refine kp b u (fun z => hb (by simp [z])) (PySem.W.hideAll_get _ e fun z => hb ?_)
      have z : b = kS := by simpa using z
      simp [z]
    have new : ObjOk X.prog X.w (upd H' a (.lst (byNum xs ks))) h' a (.lst (byNum xs ks)) := by
      refine ⟨?_, _, c, vals, oh⟩
      show (byNum xs ks).length ≤ _
      unfold byNum
      rw [List.length_map, List.length_mergeSort, List.length_zip]
      omega
    exact hQ _ a _ (inv_turnT (tk := tk) I' fc List.mem_cons_self kc new) (s1.trans (same_upd na)) fa.1 upd_same
end
end LL

namespace LL
open PySem PySem.Spec PySem.Calls PyProof.Rows L2
section
variable {X : Cx} {pins : List (Addr × Obj)} {σ : L2.St} {H : Hp} {s : Shared}
theorem same_grown {P c : Addr} {ps ps' : Array Value} (hP : H P = some (.tbl ps)) (hc : H c = none) (t : TabQ H ps lamQ → TabQ (upd (upd H P (.tbl ps')) c (LamX.CodeO c lamQ)) ps' lamQ) : Same H (upd (upd H P (.tbl ps')) c (LamX.CodeO c lamQ)) := by
  have ne : P ≠ c := ne_of_none hP hc
  have at' : ∀ {b : Addr} {o : HO}, H b = some o → b ≠ P → upd (upd H P (.tbl ps')) c (LamX.CodeO c lamQ) b = some o := fun e n => by
    rw [upd_ne (ne_of_none e hc), upd_ne n]
    exact e
  have code : ∀ {d : Addr}, H d = some (LamX.CodeO d lamQ) → upd (upd H P (.tbl ps')) c (LamX.CodeO c lamQ) d = some (LamX.CodeO d lamQ) := fun e => at' e (ne_of e hP (LamX.codeO_ne ps))
  intro b o e
  by_cases hb : b = P
  · subst hb
    rw [hP] at e
    cases e
    exact ⟨ps', by rw [upd_ne ne, upd_same], t⟩
  · cases o with
    | tbl qs =>
      refine ⟨qs, at' e hb, fun ⟨t1, t2⟩ => ⟨t1, fun pos cv hcv => ?_⟩⟩
      obtain ⟨d, e1, e2⟩ := t2 pos cv hcv
      exact ⟨d, e1, code e2⟩
    | _ => exact at' e hb
/-- the lambda is made -/
theorem lam_made {c P : Addr} {ps : Array Value} {params : Arguments} {body : Expr} {scope : Scope} {pos : Pos} {E : Value → Shared → Prop} {Q : Value → Shared → Prop} (I : Inv X pins σ H s) (TB : LamX.TabB X.base X.mg c P) (hcode : X.env.code = .ref c) (hq : X.env.qual ++ "<lambda>" = lamQ)
    (hP : H P = some (.tbl ps)) (hT : TabQ H ps lamQ) (hdef : defaultsOf params X.env = ([], [])) (hfree : ∀ y ∈ scope.names, y.2 = .free → ∃ c, X.env.cells.lookup y.1 = some c)
    (h : ∀ (f c' : Addr) (pm ctv : Value) (H1 : Hp) (s' : Shared), Inv X pins σ H1 s' → Same H H1 → s'.heap.get? f = some (PySem.W.kla_obj "<lambda>" lamQ params body scope (cloFrom X.env.cells scope.names []) pm c' ctv) → H1 f = none → f ∉ frs X.stack → H1 c' = some (LamX.CodeO c' lamQ) → Q (.ref f) s') :
    wpAny (model X.prog X.w) X.A (eval (.Lambda params body scope pos) X.env) Q E s := by
  obtain ⟨ht, ha⟩ := hT
  refine PySem.W.kla_eval hdef ?_
  rw [hq]
  have bP : s.heap.BuiltinsAt X.mg P := TB.bm.keeps I.bk
  have oP : s.heap.get? P = some { cls := .none, data := .fields ps } := I.hok P _ hP
  have nofr : ∀ f, s.heap.objs.size ≤ f → f ∉ frs X.stack := fun f hf z => by
    rcases List.mem_cons.mp (I.stkSub _ z) with e | e
    · have lt := I.lt
      rw [← e] at lt
      exact Nat.lt_irrefl _ (Nat.lt_of_lt_of_le lt hf)
    · exact I.nofs hf e
  cases hc : codeAmong pos ps.toList with
  | none =>
    refine PySem.W.kla_makeFunction (mg := X.mg) (c := c) (P := P) (ps := ps) (closure_ok hfree) I.ok.glob (I.mod.glob.keeps I.bk) hcode (TB.code.keeps I.bk) oP ht hc TB.gP bP fun d ctv h' tk hx hge hlt hrec htb => ?_
    obtain ⟨d2, oc, vs, t, e2, hoc, hd, hv⟩ := hrec
    cases e2
    have nd : H d = none := I.hok.fresh hge
    have sz : s.heap.objs.size ≤ h'.objs.size := Nat.le_trans hge (Nat.le_of_lt hlt)
    have J := LamX.inv_table (t' := tk) (more := #[rawInt pos.line, rawInt pos.col, .ref d]) (h' := h'.push (PySem.W.kla_obj "<lambda>" lamQ params body scope (cloFrom X.env.cells scope.names []) ((X.mg "__name__").getD .none) d ctv)) I hP
      (fun b o hb e => Heap.get?_push_of_some _ (hx b o hb e)) (Heap.get?_push_of_some _ htb) hge ⟨oc, vs, t, Heap.get?_push_of_some _ hoc, hd, hv⟩
    have el : (ps ++ #[rawInt pos.line, rawInt pos.col, .ref d]).toList = ps.toList ++ [rawInt pos.line, rawInt pos.col, .ref d] := by simp
    refine h h'.objs.size d ((X.mg "__name__").getD .none) ctv _ _ J (same_grown hP nd fun ⟨t1, t2⟩ => ⟨by rw [el]; exact PySem.TriplesOk_snoc _ _ _ _ t1, fun p' cv hcv => ?_⟩) (Heap.get?_push_size _ rfl) ?_ (nofr _ sz) upd_same
    · rw [el] at hcv
      rcases LamX.among_app _ t1 hcv with z | z
      · obtain ⟨d0, e1, e2⟩ := t2 p' cv z
        refine ⟨d0, e1, ?_⟩
        rw [upd_ne (ne_of_none e2 nd), upd_ne (ne_of e2 hP (LamX.codeO_ne ps))]
        exact e2
      · exact ⟨d, z, upd_same⟩
    · rw [upd_ne (Nat.ne_of_gt hlt), upd_ne (Nat.ne_of_gt (Nat.lt_of_lt_of_le (Heap.lt_size oP) sz))]
      exact I.hok.fresh sz
  | some cv =>
    obtain ⟨d, e, hd⟩ := ha pos cv hc
    subst e
    refine PySem.W.kla_makeFunctionHit (mg := X.mg) (c := c) (P := P) (ps := ps) (closure_ok hfree) I.ok.glob (I.mod.glob.keeps I.bk) hcode (TB.code.keeps I.bk) oP ht hc bP fun ctv h' tk hx sz => ?_
    have J : Inv X pins σ H { s with heap := h'.push (PySem.W.kla_obj "<lambda>" lamQ params body scope (cloFrom X.env.cells scope.names []) ((X.mg "__name__").getD .none) d ctv), toks := tk } := I.kept fun b o e => Heap.get?_push_of_some _ (hx b o e)
    exact h h'.objs.size d ((X.mg "__name__").getD .none) ctv H _ J (Same.refl H) (Heap.get?_push_size _ rfl) (I.hok.fresh sz) (nofr _ sz) hd
/-- sorted(e, key=lambda x: body) -/
def tSortLam (K : PySem.W.Frag) (P : Addr) (N : List Str) (js : List Nat) (tb te : TE) : TE := fun σ H Q => te σ H fun v H1 => ∃ (l : Addr) (xs : List V) (ks : List Int), v = .ref l ∧ SqL K H1 l xs ∧ ks.length = xs.length ∧ (∃ ps, H1 P = some (.tbl ps) ∧ TabQ H1 ps lamQ) ∧
  (∀ (i : Nat) (x : V) (n : Int), xs[i]? = some x → ks[i]? = some n → ∀ H2, Same H1 H2 → tb (NdefX.startF N [x] (js.map (NdefX.slotAt σ))) H2 (fun r H3 => r = .int n ∧ Same H2 H3)) ∧
  ∀ (H4 : Hp) (a : Addr), Same H1 H4 → H1 a = none → H4 a = some (.lst (byNum xs ks)) → Q (.ref a) H4
theorem pe_sortLam {c P : Addr} {params : Arguments} {body e : Expr} {scope : Scope} {lpos kpos p pos : Pos} {N fr : List Str} {x : Str} {js : List Nat} {k : Nat} {te tb : TE} (hg : Gl X "sorted") (hm : X.mg "sorted" = none) (TB : LamX.TabB X.base X.mg c P) (hcode : X.env.code = .ref c) (hq : X.env.qual ++ "<lambda>" = lamQ)
    (hr : Room (k + 3) X.A) (S : NdefX.NScope N [x] fr scope) (hdef : defaultsOf params X.env = ([], [])) (hfree : ∀ y ∈ scope.names, y.2 = .free → X.env.scope.names.lookup y.1 = some .cell ∨ X.env.scope.names.lookup y.1 = some .free) (hfr : ∀ y ∈ fr, (y, NameKind.free) ∈ scope.names)
    (hjs : js.map (fun j => X.N[j]?) = fr.map some) (hbind : ∀ (cl : List (Str × Addr)) (pm cv ctv u : Value), bindArgs (PySem.W.kla_fn "<lambda>" lamQ params body scope cl pm cv ctv) ⟨[u], []⟩ = pure [(x, u)])
    (he : PE X e te)
    (hbody : ∀ (cl : List (Str × Addr)) (c' f : Addr) (A : Around) (outer : List Env) (s : Shared) (H : Hp), Room k (A.deeper (NdefX.envF (lamF lamQ params scope cl c') f s.heap.objs.size)) → PE (NdefX.ncx CX0 X.prog X.w X.K X.mg X.base N (lamF lamQ params scope cl c') f A outer s H E0) body tb)
    (h1 : starEach [e] X.env = (false, eval e X.env) :: starEach [] X.env := by rfl) :
    PE X (.Call (.Name "sorted" p) [e] [⟨some "key", .Lambda params body scope lpos, kpos⟩] pos) (tSortLam X.K P N js tb te) := by
  refine ⟨fun pins s σ H Q I h => ?_⟩
  refine wpAny_Call_Name_kw (ld_blt I hg hm (by first | rfl | decide +kernel) ?_)
  refine PyProof.Rows.callWith_kw (kws := [⟨some "key", .Lambda params body scope lpos, kpos⟩]) ?_ (by rw [h1]; rfl) (by rw [h1]; rfl) (by rfl) (by rfl)
  rw [h1]
  show wpAny _ _ (spliced ((false, eval e X.env) :: backTo pos (starEach [] X.env))) _ _ s
  refine Calls.spliced_cons (thn (he.run pins s σ H _ I h) fun u s1 ⟨v, H1, I1, rv, l, xs, ks, ev, hl, hk, ⟨ps, hP, hT⟩, key, hQ⟩ => ?_)
  subst ev
  obtain rfl : u = Value.ref l := rv
  refine Calls.spliced_nil ?_
  show wpAny _ _ (evalAll ((do let v ← eval (.Lambda params body scope lpos) X.env; standAt pos; pure v) :: [])) _ _ s1
  have hf : ∀ y ∈ scope.names, y.2 = .free → ∃ c, X.env.cells.lookup y.1 = some c := fun y hy e => (hfree y hy e).elim (fun z => I1.ok.has _ (.inl z)) fun z => I1.ok.has _ (.inr z)
  refine wpAny_evalAll_cons (wpAny_bind (lam_made I1 TB hcode hq hP hT hdef hf fun f c' pm ctv H2 s2 I2 s12 of nf hfs hco => wpAny_bind (wpAny_standAt (wpAny_pure (wpAny_evalAll_nil ?_)))))
  have cp : NdefX.Caps X (cloFrom X.env.cells scope.names []) fr js := .made I2.ok hfree hfr hjs
  show wpAny _ _ (call (.builtin "sorted") [.ref l] [(Str.ofString "key", .ref f)]) _ _ s2
  refine sort_lam I2 (s12.seq hl) hk (hr.in1.in1) I2.ok.frames S of nf hfs hco cp (fun u => hbind _ _ _ _ u) (fun A outer s H hr' => hbody _ c' f A outer s H hr') (fun i v n hv hn H3 s3 => ?_) fun H4 a s' I4 s4 na at4 => ⟨.ref a, H4, I4, rfl, hQ H4 a (s12.trans s4) (s12.free na) at4⟩
  exact key i v n hv hn H3 (s12.trans s3)
end
end LL

namespace LL
open PySem PySem.Spec PySem.Calls PyProof.Rows L2
/-! ### what the program's defs behind corners promise -/
structure KeptAll (rs : List LG.Row) (qs : List LG.Pt) : Prop where
  low : ∀ q ∈ qs, LG.LowP q
  corner : ∀ q ∈ qs, LG.Corner rs q
  all : ∀ q, LG.Corner rs q → ∃ c ∈ qs, LG.Sim q c
  nd : qs.Nodup
/-- rows as they come of good fences -/
structure RowsOk (rs : List LG.Row) : Prop where
  sz : SzR rs
  small : ∀ r ∈ rs, LG.Small 1000 1000000 r
  few : rs.length ≤ 20
theorem RowsOk.corner {rs : List LG.Row} (h : RowsOk rs) {q : LG.Pt} (l : LG.LowP q) (t : LG.OnTwo rs q) : SzP 100 q := by
  obtain ⟨b1, b2, b3⟩ := LG.corner_small h.small l t
  exact ⟨.of b1 (by decide), .of b2 (by decide), .of b3 (by decide)⟩
theorem rowsOk {n : Int} {fs : List LG.Row} (hf : Fences fs) (h1 : 1 ≤ n) (h2 : n ≤ 1000) : RowsOk (LG.rowsOf n fs) := ⟨hf.sz h1 h2, rows_small hf h1 h2, rows_len hf⟩
def sp_kept_meetings (K : PySem.W.Frag) : Sp := fun vs H Q _ => ∃ (l : Addr) (ps : List Addr) (rs : List LG.Row), vs = [.ref l] ∧ RowL H l ps rs ∧ RowsOk rs ∧ Tabs K H ∧
  ∀ (H' : Hp) (d : Addr) (cs : List Addr) (qs : List LG.Pt), Same H H' → H d = none → PtL H' d cs qs → KeptAll rs qs → Q (.ref d) H'
def sp_lowest : Sp := fun vs H Q _ => ∃ (l : Addr) (cs : List Addr) (qs : List LG.Pt), vs = [.ref l] ∧ PtL H l cs qs ∧ qs ≠ [] ∧ (∀ q ∈ qs, SzP 1000 q) ∧ (∀ q ∈ qs, 0 < q.w) ∧
  ∀ (p : Addr) (q : LG.Pt), q ∈ qs → H p = some (ptHO q) → (∀ x ∈ qs, ¬ LG.lower x q) → Q (.ref p) H
def sp_many_right : Sp := fun vs H Q _ => ∃ (pa pb l : Addr) (cs : List Addr) (a b : LG.Pt) (os : List LG.Pt), vs = [.ref pa, .ref pb, .ref l] ∧ H pa = some (ptHO a) ∧ H pb = some (ptHO b) ∧ PtL H l cs os ∧ SzP 1000 a ∧ SzP 1000 b ∧ (∀ q ∈ os, SzP 1000 q) ∧ os.length ≤ 1000 ∧
  ∀ H', Same H H' → Q (.int (LG.rightOf a os b)) H'
def sp_corners_between (K : PySem.W.Frag) : Sp := fun vs H Q _ => ∃ (l : Addr) (ps : List Addr) (rs : List LG.Row), vs = [.ref l] ∧ RowL H l ps rs ∧ RowsOk rs ∧ Tabs K H ∧
  ∀ (H' : Hp) (d : Addr) (cs : List Addr) (qs : List LG.Pt), Same H H' → H d = none → PtL H' d cs qs → LG.Told rs qs → Q (.ref d) H'
/-- in the order of numbers: what order, what stands -/
theorem byNum_map {α : Type} {f : α → HO} {H : Hp} {ps : List Addr} {xs : List α} (h : At f H ps xs) (key : α → Nat) : ∃ (ps' : List Addr) (xs' : List α), byNum (ps.map V.ref) (xs.map fun x => (key x : Int)) = ps'.map V.ref ∧ At f H ps' xs' ∧ xs'.Perm xs ∧ xs'.Pairwise fun x y => key x ≤ key y := by
  have len := h.len
  obtain ⟨zs, hz⟩ : ∃ zs, zs = (ps.zip xs).mergeSort fun p q => decide ((key p.2 : Int) ≤ key q.2) := ⟨_, rfl⟩
  have perm : zs.Perm (ps.zip xs) := by rw [hz]; exact List.mergeSort_perm _ _
  have srt : zs.Pairwise fun p q => key p.2 ≤ key q.2 := by
    have := List.pairwise_mergeSort (le := fun p q : Addr × α => decide ((key p.2 : Int) ≤ key q.2)) (fun a b c h1 h2 => by simp at *; omega) (fun a b => by simp; omega) (ps.zip xs)
    rw [← hz] at this
    exact this.imp fun h => by simpa using h
  refine ⟨zs.map Prod.fst, zs.map Prod.snd, ?_, ?_, ?_, ?_⟩
  · unfold byNum
    have e : (ps.map V.ref).zip (xs.map fun x => (key x : Int)) = (ps.zip xs).map fun p => (V.ref p.1, (key p.2 : Int)) := by
      rw [List.zip_map]
      rfl
    rw [e, hz]
    have e2 := List.map_mergeSort (r := fun p q : Addr × α => decide ((key p.2 : Int) ≤ key q.2)) (s := fun p q : V × Int => decide (p.2 ≤ q.2)) (f := fun p : Addr × α => (V.ref p.1, (key p.2 : Int))) (l := ps.zip xs) fun _ _ _ _ => rfl
    rw [← e2, List.map_map, List.map_map]
    rfl
  · have at' : ∀ p ∈ ps.zip xs, H p.1 = some (f p.2) := fun p hp => by
      obtain ⟨i, hi, e⟩ := List.mem_iff_getElem.mp hp
      have h1 : ps[i]? = some p.1 := by
        have := List.getElem_zip (h := hi)
        rw [e] at this
        rw [List.length_zip] at hi
        rw [List.getElem?_eq_getElem (by omega), this]
      have h2 : xs[i]? = some p.2 := by
        have := List.getElem_zip (h := hi)
        rw [e] at this
        rw [List.length_zip] at hi
        rw [List.getElem?_eq_getElem (by omega), this]
      obtain ⟨x, hx, hat⟩ := h.get' h1
      rw [h2] at hx
      cases hx
      exact hat
    have go : ∀ l : List (Addr × α), (∀ p ∈ l, H p.1 = some (f p.2)) → At f H (l.map Prod.fst) (l.map Prod.snd) := by
      intro l
      induction l with
      | nil => exact fun _ => rfl
      | cons p l ih =>
        intro h
        show H p.1 :: (l.map Prod.fst).map H = some (f p.2) :: (l.map Prod.snd).map _
        rw [h p List.mem_cons_self, ih fun q hq => h q (List.mem_cons_of_mem _ hq)]
    exact go zs fun p hp => at' p (perm.mem_iff.mp hp)
  · have := perm.map Prod.snd
    rwa [List.map_snd_zip (by omega)] at this
  · exact List.pairwise_map.mpr srt
theorem op_neDK {X : Cx} {K : PySem.W.Frag} (h : X.K = K) (hu : X.A.units + 64 < cLine) : OpR X (compareOp .NotEq) (rNeD K) := by
  subst h
  exact op_neD hu
theorem KeptAll.few {rs : List LG.Row} {qs : List LG.Pt} (h : KeptAll rs qs) (ok : RowsOk rs) : qs.length ≤ 400 := by
  have := LG.corners_few h.low h.corner h.nd
  have := Nat.mul_le_mul ok.few ok.few
  omega
end LL

namespace LL
open PySem PySem.Spec PySem.Calls PyProof.Rows L2
/-! ### a list, from its second item on, and its first one at the end -/
theorem cut_tail (xs : List V) : cutV xs (some 1) none = xs.drop 1 := by
  unfold cutV HT.sIx
  cases xs with
  | nil => rfl
  | cons a t =>
    simp only [List.length_cons]
    rw [show (if (1 : Int) < 0 then _ else min (1 : Int).toNat (t.length + 1)) = 1 by rw [if_neg (by decide)]; show min 1 (t.length + 1) = 1; omega]
    rw [List.drop_one, List.tail_cons, List.take_of_length_le (by omega)]
theorem cut_first (xs : List V) : cutV xs none (some 1) = xs.take 1 := by
  unfold cutV HT.sIx
  cases xs with
  | nil => rfl
  | cons a t =>
    simp only [List.length_cons]
    rw [show (if (1 : Int) < 0 then _ else min (1 : Int).toNat (t.length + 1)) = 1 by rw [if_neg (by decide)]; show min 1 (t.length + 1) = 1; omega]
    rfl
theorem rot_len {α : Type} (xs : List α) : (xs.drop 1 ++ xs.take 1).length = xs.length := by
  rw [List.length_append, List.length_drop, List.length_take]
  omega
theorem rot_get {α : Type} {xs : List α} {i : Nat} (h : i < xs.length) : (xs.drop 1 ++ xs.take 1)[i]? = xs[LG.nxt xs.length i]? := by
  unfold LG.nxt
  by_cases e : i + 1 = xs.length
  · rw [if_pos e, List.getElem?_append_right (by rw [List.length_drop]; omega), List.length_drop, List.getElem?_take_of_lt (by omega)]
    congr 1
    omega
  · rw [if_neg e, List.getElem?_append_left (by rw [List.length_drop]; omega), List.getElem?_drop]
    congr 1
    omega
end LL

namespace LL
open PySem PySem.Spec PySem.Calls PyProof.Rows L2
/-! ### how often two, or three, come to nothing -/
theorem call_max3 {X : Cx} (hc : X.calm = true) : CallR X (.builtin "max") (fun xs H Q => ∃ i j k : Int, xs = [.int i, .int j, .int k] ∧ ∀ m, m = i ∨ m = j ∨ m = k → i ≤ m → j ≤ m → k ≤ m → Q (.int m) H) := by
  intro pins s σ H xs us Q I r ⟨i, j, k, e, q⟩
  by_cases c1 : i < j
  · have n1 : nuMax2 (.int i) (.int j) = some (.int j) := by show some (if decide (i < j) = true then V.int j else V.int i) = _; rw [if_pos (by simpa using c1)]
    by_cases c2 : j < k
    · exact call_max3Nu hc pins s σ H xs us Q I r ⟨_, _, _, .int k, e, by unfold nuMax3; rw [n1]; show some (if decide (j < k) = true then V.int k else V.int j) = _; rw [if_pos (by simpa using c2)], q k (by simp) (by omega) (by omega) (by omega)⟩
    · exact call_max3Nu hc pins s σ H xs us Q I r ⟨_, _, _, .int j, e, by unfold nuMax3; rw [n1]; show some (if decide (j < k) = true then V.int k else V.int j) = _; rw [if_neg (by simpa using c2)], q j (by simp) (by omega) (by omega) (by omega)⟩
  · have n1 : nuMax2 (.int i) (.int j) = some (.int i) := by show some (if decide (i < j) = true then V.int j else V.int i) = _; rw [if_neg (by simpa using c1)]
    by_cases c2 : i < k
    · exact call_max3Nu hc pins s σ H xs us Q I r ⟨_, _, _, .int k, e, by unfold nuMax3; rw [n1]; show some (if decide (i < k) = true then V.int k else V.int i) = _; rw [if_pos (by simpa using c2)], q k (by simp) (by omega) (by omega) (by omega)⟩
    · exact call_max3Nu hc pins s σ H xs us Q I r ⟨_, _, _, .int i, e, by unfold nuMax3; rw [n1]; show some (if decide (i < k) = true then V.int k else V.int i) = _; rw [if_neg (by simpa using c2)], q i (by simp) (by omega) (by omega) (by omega)⟩
theorem call_min3 {X : Cx} (hc : X.calm = true) : CallR X (.builtin "min") (fun xs H Q => ∃ i j k : Int, xs = [.int i, .int j, .int k] ∧ ∀ m, m = i ∨ m = j ∨ m = k → m ≤ i → m ≤ j → m ≤ k → Q (.int m) H) := by
  intro pins s σ H xs us Q I r ⟨i, j, k, e, q⟩
  by_cases c1 : j < i
  · have n1 : nuMin2 (.int i) (.int j) = some (.int j) := by show some (if decide (j < i) = true then V.int j else V.int i) = _; rw [if_pos (by simpa using c1)]
    by_cases c2 : k < j
    · exact call_min3Nu hc pins s σ H xs us Q I r ⟨_, _, _, .int k, e, by unfold nuMin3; rw [n1]; show some (if decide (k < j) = true then V.int k else V.int j) = _; rw [if_pos (by simpa using c2)], q k (by simp) (by omega) (by omega) (by omega)⟩
    · exact call_min3Nu hc pins s σ H xs us Q I r ⟨_, _, _, .int j, e, by unfold nuMin3; rw [n1]; show some (if decide (k < j) = true then V.int k else V.int j) = _; rw [if_neg (by simpa using c2)], q j (by simp) (by omega) (by omega) (by omega)⟩
  · have n1 : nuMin2 (.int i) (.int j) = some (.int i) := by show some (if decide (j < i) = true then V.int j else V.int i) = _; rw [if_neg (by simpa using c1)]
    by_cases c2 : k < i
    · exact call_min3Nu hc pins s σ H xs us Q I r ⟨_, _, _, .int k, e, by unfold nuMin3; rw [n1]; show some (if decide (k < i) = true then V.int k else V.int i) = _; rw [if_pos (by simpa using c2)], q k (by simp) (by omega) (by omega) (by omega)⟩
    · exact call_min3Nu hc pins s σ H xs us Q I r ⟨_, _, _, .int i, e, by unfold nuMin3; rw [n1]; show some (if decide (k < i) = true then V.int k else V.int i) = _; rw [if_neg (by simpa using c2)], q i (by simp) (by omega) (by omega) (by omega)⟩
/-! the sums -/
theorem opp_abs {a c g1 g2 : Int} (h1 : 0 ≤ g1) (h2 : 0 ≤ g2) (e : a.natAbs * g1.natAbs = c.natAbs * g2.natAbs) (s : a * c ≤ 0) : g1 * a + g2 * c = 0 := by
  have E : (a.natAbs : Int) * g1 = (c.natAbs : Int) * g2 := by
    have := congrArg (fun n : Nat => (n : Int)) e
    simp only [Int.natCast_mul] at this
    rwa [Int.natAbs_of_nonneg h1, Int.natAbs_of_nonneg h2] at this
  rcases Int.lt_trichotomy a 0 with z | z | z
  · have c0 : 0 ≤ c := by
      apply Classical.byContradiction
      intro n
      have := Int.mul_pos_of_neg_of_neg z (show c < 0 by omega)
      omega
    rw [show (a.natAbs : Int) = -a by omega, show (c.natAbs : Int) = c by omega] at E
    grind
  · subst z
    have z : (c.natAbs : Int) * g2 = 0 := by
      rw [← E]
      simp
    rcases Int.mul_eq_zero.mp z with k | k
    · rw [show c = 0 by omega]
      simp
    · rw [k]
      simp
  · have c0 : c ≤ 0 := by
      apply Classical.byContradiction
      intro n
      have := Int.mul_pos z (show 0 < c by omega)
      omega
    rw [show (a.natAbs : Int) = a by omega, show (c.natAbs : Int) = -c by omega] at E
    grind
theorem two_come {a b c d : Int} (cr : a * d - b * c = 0) (dot : a * c + b * d ≤ 0) :
    ((Nat.gcd c.natAbs d.natAbs : Nat) : Int) * a + ((Nat.gcd a.natAbs b.natAbs : Nat) : Int) * c = 0 ∧ ((Nat.gcd c.natAbs d.natAbs : Nat) : Int) * b + ((Nat.gcd a.natAbs b.natAbs : Nat) : Int) * d = 0 := by
  have eq : a.natAbs * d.natAbs = b.natAbs * c.natAbs := by rw [← Int.natAbs_mul, ← Int.natAbs_mul]; congr 1; omega
  have sq : (a * c) * (b * d) = (a * d) * (a * d) := by
    have : a * d = b * c := by omega
    calc (a * c) * (b * d) = (a * d) * (b * c) := by grind
      _ = _ := by rw [← this]
  have nn : 0 ≤ (a * c) * (b * d) := by
    rw [sq]
    rcases Int.le_total 0 (a * d) with h | h
    · exact Int.mul_nonneg h h
    · exact Int.mul_nonneg_of_nonpos_of_nonpos h h
  have both : a * c ≤ 0 ∧ b * d ≤ 0 := by
    generalize a * c = x at *
    generalize b * d = y at *
    constructor
    · apply Classical.byContradiction
      intro n
      have : x * y < 0 := Int.mul_neg_of_pos_of_neg (by omega) (by omega)
      omega
    · apply Classical.byContradiction
      intro n
      have : x * y < 0 := Int.mul_neg_of_neg_of_pos (by omega) (by omega)
      omega
  constructor
  · refine opp_abs (Int.natCast_nonneg _) (Int.natCast_nonneg _) ?_ both.1
    rw [Int.natAbs_natCast, Int.natAbs_natCast, ← Nat.gcd_mul_left, eq, ← Nat.gcd_mul_left, Nat.mul_comm b.natAbs, Nat.mul_comm a.natAbs]
  · refine opp_abs (Int.natCast_nonneg _) (Int.natCast_nonneg _) ?_ both.2
    rw [Int.natAbs_natCast, Int.natAbs_natCast, ← Nat.gcd_mul_left, ← eq, ← Nat.gcd_mul_left, Nat.mul_comm d.natAbs a.natAbs, Nat.mul_comm d.natAbs b.natAbs]
theorem gcd_small {n : Nat} {c d : Int} (hc : Sz n c) (hd : Sz n d) (nz : ¬ (c = 0 ∧ d = 0)) : 0 < Nat.gcd c.natAbs d.natAbs ∧ Nat.gcd c.natAbs d.natAbs < 2 ^ n := by
  by_cases z : c = 0
  · have d0 : 0 < d.natAbs := by
      have : d ≠ 0 := fun k => nz ⟨z, k⟩
      omega
    exact ⟨Nat.gcd_pos_of_pos_right _ d0, Nat.lt_of_le_of_lt (Nat.gcd_le_right _ d0) hd⟩
  · have c0 : 0 < c.natAbs := by omega
    exact ⟨Nat.gcd_pos_of_pos_left _ c0, Nat.lt_of_le_of_lt (Nat.gcd_le_left _ c0) hc⟩
structure Come2 (a b c d u v : Int) : Prop where
  up : 0 < u
  vp : 0 < v
  su : Sz 1000 u
  sv : Sz 1000 v
  e1 : u * a + v * c = 0
  e2 : u * b + v * d = 0
theorem nat_fdiv {g s : Nat} (hs : 0 < s) (h : s ∣ g) : ∃ u : Nat, g = s * u ∧ (g : Int).fdiv (s : Int) = (u : Int) := by
  obtain ⟨u, rfl⟩ := h
  refine ⟨u, rfl, ?_⟩
  rw [Int.natCast_mul, Int.mul_fdiv_cancel_left _ (by omega)]
theorem come2 {a b c d : Int} (cr : a * d - b * c = 0) (dot : ¬ a * c + b * d > 0) (sa : Sz 20 a) (sb : Sz 20 b) (sc : Sz 20 c) (sd : Sz 20 d) (n1 : ¬ (a = 0 ∧ b = 0)) (n2 : ¬ (c = 0 ∧ d = 0)) :
    0 < Nat.gcd (Nat.gcd c.natAbs d.natAbs) (Nat.gcd a.natAbs b.natAbs) ∧ Nat.gcd (Nat.gcd c.natAbs d.natAbs) (Nat.gcd a.natAbs b.natAbs) < 2 ^ 20 ∧
    Come2 a b c d (((Nat.gcd c.natAbs d.natAbs : Nat) : Int).fdiv ((Nat.gcd (Nat.gcd c.natAbs d.natAbs) (Nat.gcd a.natAbs b.natAbs) : Nat) : Int)) (((Nat.gcd a.natAbs b.natAbs : Nat) : Int).fdiv ((Nat.gcd (Nat.gcd c.natAbs d.natAbs) (Nat.gcd a.natAbs b.natAbs) : Nat) : Int)) := by
  obtain ⟨e1, e2⟩ := two_come cr (by omega)
  obtain ⟨p1, l1⟩ := gcd_small sc sd n2
  obtain ⟨p2, l2⟩ := gcd_small sa sb n1
  generalize Nat.gcd c.natAbs d.natAbs = g1 at *
  generalize Nat.gcd a.natAbs b.natAbs = g2 at *
  have sp : 0 < Nat.gcd g1 g2 := Nat.gcd_pos_of_pos_left _ p1
  have sl := Nat.gcd_le_left g2 p1
  have d1 := Nat.gcd_dvd_left g1 g2
  have d2 := Nat.gcd_dvd_right g1 g2
  generalize Nat.gcd g1 g2 = s at *
  obtain ⟨u, hu, fu⟩ := nat_fdiv sp d1
  obtain ⟨v, hv, fv⟩ := nat_fdiv sp d2
  rw [fu, fv]
  have u0 : 0 < u := Nat.pos_of_ne_zero fun z => by rw [z] at hu; omega
  have v0 : 0 < v := Nat.pos_of_ne_zero fun z => by rw [z] at hv; omega
  have ul : u ≤ g1 := by rw [hu]; exact Nat.le_mul_of_pos_left _ sp
  have vl : v ≤ g2 := by rw [hv]; exact Nat.le_mul_of_pos_left _ sp
  have s0 : (s : Int) ≠ 0 := by omega
  have cut : ∀ {x y : Int}, ((g1 : Nat) : Int) * x + ((g2 : Nat) : Int) * y = 0 → (u : Int) * x + (v : Int) * y = 0 := fun {x y} e => by
    rw [hu, hv, Int.natCast_mul, Int.natCast_mul] at e
    have : (s : Int) * ((u : Int) * x + (v : Int) * y) = 0 := by rw [← e]; grind
    exact (Int.mul_eq_zero.mp this).resolve_left s0
  refine ⟨sp, by omega, by omega, by omega, ?_, ?_, cut e1, cut e2⟩
  · exact Sz.mono (n := 20) (by unfold Sz; rw [Int.natAbs_natCast]; omega) (by decide)
  · exact Sz.mono (n := 20) (by unfold Sz; rw [Int.natAbs_natCast]; omega) (by decide)
structure Come3 (a1 b1 a2 b2 a3 b3 x y z u v w : Int) : Prop where
  up : 0 < u
  vp : 0 < v
  wp : 0 < w
  su : Sz 1000 u
  sv : Sz 1000 v
  sw : Sz 1000 w
  e1 : u * a1 + v * a2 + w * a3 = 0
  e2 : u * b1 + v * b2 + w * b3 = 0
  ex : ∃ k, k ≠ 0 ∧ x = k * u ∧ y = k * v ∧ z = k * w
theorem sign_mul {k u : Int} (h : 0 < k * u) (hk : 0 < k) : 0 < u := Int.pos_of_mul_pos_right h hk
theorem come3 {a1 b1 a2 b2 a3 b3 : Int} (h1 : Sz 41 (a2 * b3 - b2 * a3)) (h2 : Sz 41 (a3 * b1 - b3 * a1)) (h3 : Sz 41 (a1 * b2 - b1 * a2)) {s : Int} (g : Nat) (hg : g = Nat.gcd (Nat.gcd (a2 * b3 - b2 * a3).natAbs (a3 * b1 - b3 * a1).natAbs) (a1 * b2 - b1 * a2).natAbs)
    (h : (s = (g : Int) ∧ 0 < a2 * b3 - b2 * a3 ∧ 0 < a3 * b1 - b3 * a1 ∧ 0 < a1 * b2 - b1 * a2) ∨ (s = -(g : Int) ∧ a2 * b3 - b2 * a3 < 0 ∧ a3 * b1 - b3 * a1 < 0 ∧ a1 * b2 - b1 * a2 < 0)) :
    s ≠ 0 ∧ s.natAbs < 2 ^ 41 ∧ Come3 a1 b1 a2 b2 a3 b3 (a2 * b3 - b2 * a3) (a3 * b1 - b3 * a1) (a1 * b2 - b1 * a2) ((a2 * b3 - b2 * a3).fdiv s) ((a3 * b1 - b3 * a1).fdiv s) ((a1 * b2 - b1 * a2).fdiv s) := by
  have z1 : (a2 * b3 - b2 * a3) * a1 + (a3 * b1 - b3 * a1) * a2 + (a1 * b2 - b1 * a2) * a3 = 0 := by grind
  have z2 : (a2 * b3 - b2 * a3) * b1 + (a3 * b1 - b3 * a1) * b2 + (a1 * b2 - b1 * a2) * b3 = 0 := by grind
  generalize a2 * b3 - b2 * a3 = x at *
  generalize a3 * b1 - b3 * a1 = y at *
  generalize a1 * b2 - b1 * a2 = z at *
  have dx : g ∣ x.natAbs := by rw [hg]; exact Nat.dvd_trans (Nat.gcd_dvd_left _ _) (Nat.gcd_dvd_left _ _)
  have dy : g ∣ y.natAbs := by rw [hg]; exact Nat.dvd_trans (Nat.gcd_dvd_left _ _) (Nat.gcd_dvd_right _ _)
  have dz : g ∣ z.natAbs := by rw [hg]; exact Nat.gcd_dvd_right _ _
  clear hg
  have x0 : 0 < x.natAbs := by omega
  have gl := Nat.le_of_dvd x0 dx
  have gp : 0 < g := Nat.pos_of_dvd_of_pos dx x0
  have s0 : s ≠ 0 := by omega
  have sg : s.natAbs = g := by omega
  have div : ∀ {t : Int}, g ∣ t.natAbs → s ∣ t := fun d => Int.natAbs_dvd_natAbs.mp (by rw [sg]; exact d)
  obtain ⟨u, hu⟩ := div dx
  obtain ⟨v, hv⟩ := div dy
  obtain ⟨w, hw⟩ := div dz
  have ex : x.fdiv s = u := by rw [hu, Int.mul_fdiv_cancel_left _ s0]
  have ey : y.fdiv s = v := by rw [hv, Int.mul_fdiv_cancel_left _ s0]
  have ez : z.fdiv s = w := by rw [hw, Int.mul_fdiv_cancel_left _ s0]
  rw [ex, ey, ez]
  have pos : ∀ {t r : Int}, t = s * r → (s = (g : Int) ∧ 0 < t) ∨ (s = -(g : Int) ∧ t < 0) → 0 < r := by
    rintro t r e (⟨e2, h⟩ | ⟨e2, h⟩)
    · rw [e] at h
      exact sign_mul h (by omega)
    · rw [e] at h
      have : 0 < (-s) * r := by rw [Int.neg_mul]; omega
      exact sign_mul this (by omega)
  have sz : ∀ {t r : Int}, t = s * r → Sz 41 t → Sz 1000 r := by
    intro t r e k
    refine Sz.mono (n := 41) (Nat.lt_of_le_of_lt ?_ k) (by decide)
    rw [e, Int.natAbs_mul]
    exact Nat.le_mul_of_pos_left _ (by omega)
  have cut : ∀ {p q r : Int}, x * p + y * q + z * r = 0 → u * p + v * q + w * r = 0 := fun {p q r} e => by
    rw [hu, hv, hw] at e
    have : s * (u * p + v * q + w * r) = 0 := by rw [← e]; grind
    exact (Int.mul_eq_zero.mp this).resolve_left s0
  refine ⟨s0, Nat.lt_of_le_of_lt (by omega) h1, pos hu ?_, pos hv ?_, pos hw ?_, sz hu h1, sz hv h2, sz hw h3, cut z1, cut z2, s, s0, hu, hv, hw⟩
  · rcases h with ⟨e, h, _, _⟩ | ⟨e, h, _, _⟩
    · exact .inl ⟨e, h⟩
    · exact .inr ⟨e, h⟩
  · rcases h with ⟨e, _, h, _⟩ | ⟨e, _, h, _⟩
    · exact .inl ⟨e, h⟩
    · exact .inr ⟨e, h⟩
  · rcases h with ⟨e, _, _, h⟩ | ⟨e, _, _, h⟩
    · exact .inl ⟨e, h⟩
    · exact .inr ⟨e, h⟩
/-! what the program's defs behind them promise -/
structure Two (K : PySem.W.Frag) (H : Hp) (p : Addr) (a b : Int) : Prop where
  at_ : ∃ t, SqT K H p (.int a :: .int b :: t)
  sa : Sz 20 a
  sb : Sz 20 b
  nz : ¬ (a = 0 ∧ b = 0)
def sp_cross (K : PySem.W.Frag) : Sp := fun vs H Q _ => ∃ (p q : Addr) (a b c d : Int), vs = [.ref p, .ref q] ∧ Two K H p a b ∧ Two K H q c d ∧ Q (.int (a * d - b * c)) H
def sp_balance2 (K : PySem.W.Frag) : Sp := fun vs H Q _ => ∃ (p q : Addr) (a b c d : Int), vs = [.ref p, .ref q] ∧ Two K H p a b ∧ Two K H q c d ∧ ((a * d - b * c ≠ 0 ∨ a * c + b * d > 0) → Q .non H) ∧
  (a * d - b * c = 0 → ¬ a * c + b * d > 0 → ∀ T u v, H T = none → Come2 a b c d u v → Q (.ref T) (upd H T (.tup [.int u, .int v])))
def sp_balance3 (K : PySem.W.Frag) : Sp := fun vs H Q _ => ∃ (p q r : Addr) (a1 b1 a2 b2 a3 b3 : Int), vs = [.ref p, .ref q, .ref r] ∧ Two K H p a1 b1 ∧ Two K H q a2 b2 ∧ Two K H r a3 b3 ∧
  (¬ (0 < a2 * b3 - b2 * a3 ∧ 0 < a3 * b1 - b3 * a1 ∧ 0 < a1 * b2 - b1 * a2) → ¬ (a2 * b3 - b2 * a3 < 0 ∧ a3 * b1 - b3 * a1 < 0 ∧ a1 * b2 - b1 * a2 < 0) → Q .non H) ∧
  ((0 < a2 * b3 - b2 * a3 ∧ 0 < a3 * b1 - b3 * a1 ∧ 0 < a1 * b2 - b1 * a2) ∨ (a2 * b3 - b2 * a3 < 0 ∧ a3 * b1 - b3 * a1 < 0 ∧ a1 * b2 - b1 * a2 < 0) → ∀ T u v w, H T = none → Come3 a1 b1 a2 b2 a3 b3 (a2 * b3 - b2 * a3) (a3 * b1 - b3 * a1) (a1 * b2 - b1 * a2) u v w → Q (.ref T) (upd H T (.tup [.int u, .int v, .int w])))
end LL

namespace LL
open PySem PySem.Spec PySem.Calls PyProof.Rows L2
/-! ### the farthest spot -/
def sp_check_way (K : PySem.W.Frag) : Sp := fun vs H Q E => ∃ x, vs = [x] ∧ FItem H x ∧ ((∀ i j, ¬ IsWay H x i j) → E (.ref (He.ga K "BadWay")) none H) ∧ (∀ i j, IsWay H x i j → Q .non H)
def sp_is_farther : Sp := fun vs H Q _ => ∃ (p q w : Addr) (i j : Int) (x y : LG.Pt), vs = [.ref p, .ref q, .ref w] ∧ H w = some (.tup [.int i, .int j]) ∧ H p = some (ptHO x) ∧ H q = some (ptHO y) ∧ Sz 20 i ∧ Sz 20 j ∧ SzP 1000 x ∧ SzP 1000 y ∧ ∀ H', Same H H' → Q (.bl (decide (farB i j x y))) H'
def sp_farthest_of : Sp := fun vs H Q _ => ∃ (l w : Addr) (cs : List Addr) (qs : List LG.Pt) (i j : Int), vs = [.ref l, .ref w] ∧ PtL H l cs qs ∧ qs ≠ [] ∧ H w = some (.tup [.int i, .int j]) ∧ Sz 20 i ∧ Sz 20 j ∧ (∀ q ∈ qs, SzP 1000 q) ∧ (∀ q ∈ qs, 0 < q.w) ∧
  ∀ (H' : Hp) (p : Addr) (q : LG.Pt), Same H H' → H' p = some (ptHO q) → FarOf i j qs q → Q (.ref p) H'
theorem farB_irr {i j : Int} {q : LG.Pt} : ¬ farB i j q q := by
  unfold farB
  omega
theorem farB_asym {i j : Int} {p q : LG.Pt} (h : farB i j p q) : ¬ farB i j q p := by
  unfold farB at h ⊢
  omega
theorem farB_le {i j : Int} {x y q : LG.Pt} (wx : 0 < x.w) (wy : 0 < y.w) (wq : 0 < q.w) (h1 : ¬ farB i j y q) (h2 : farB i j x q) : farB i j x y := by
  unfold farB at h1 h2 ⊢
  exact LG.frac_le_lt wy wq wx (by omega) h2
theorem far_split {i j : Int} {qs : List LG.Pt} {q : LG.Pt} {k : Nat} (hk : qs[k]? = some q) (first : ∀ m y, m < k → qs[m]? = some y → farB i j q y) (most : ∀ m y, m < qs.length → qs[m]? = some y → ¬ farB i j y q) : FarOf i j qs q := by
  have kl := (List.getElem?_eq_some_iff.mp hk).1
  have kq := (List.getElem?_eq_some_iff.mp hk).2
  refine ⟨⟨qs.take k, qs.drop (k + 1), ?_, fun p hp => ?_⟩, fun p hp => ?_⟩
  · have e := List.take_append_drop k qs
    rw [List.drop_eq_getElem_cons kl, kq] at e
    exact e.symm
  · obtain ⟨m, hm⟩ := List.mem_iff_getElem?.mp hp
    have ml := (List.getElem?_eq_some_iff.mp hm).1
    rw [List.length_take] at ml
    rw [List.getElem?_take_of_lt (by omega)] at hm
    exact first m p (by omega) hm
  · obtain ⟨m, hm⟩ := List.mem_iff_getElem?.mp hp
    exact most m p (List.getElem?_eq_some_iff.mp hm).1 hm
/-! ### what shows that no spot lies farther -/
def lineHO (rp : List Addr) (k : Nat) : HO := .tup [.int (k : Nat), (rp.map V.ref).getD k .non]
instance (rp : List Addr) : TupF (lineHO rp) := ⟨fun k => ⟨_, rfl⟩⟩
theorem line_tup (rp : List Addr) : ∀ k, ∃ t, lineHO rp k = .tup t := fun k => ⟨_, rfl⟩
theorem line_at {H : Hp} {l : Addr} {rp : List Addr} {rs : List LG.Row} (hl : RowL H l rp rs) {k : Nat} (hk : k < rs.length) : ∃ pr, (rp.map V.ref).getD k .non = .ref pr ∧ H pr = some (rowHO (rs.getD k ⟨0, 0, 0⟩)) := by
  obtain ⟨pr, e, _, h⟩ := hl.get (List.getElem?_eq_getElem hk)
  refine ⟨pr, by rw [List.getD_eq_getElem?_getD, e]; rfl, ?_⟩
  rw [h, List.getD_eq_getElem?_getD, List.getElem?_eq_getElem hk]
  rfl
/-- the numbers of the rows on which q lies -/
def thruN (rs : List LG.Row) (q : LG.Pt) (n : Nat) : List Nat := (List.range n).filter fun k => decide (LG.rch (rs.getD k ⟨0, 0, 0⟩) q = 0)
theorem thru_step (rs : List LG.Row) (q : LG.Pt) (n : Nat) : thruN rs q (n + 1) = thruN rs q n ++ if LG.rch (rs.getD n ⟨0, 0, 0⟩) q = 0 then [n] else [] := by
  unfold thruN
  rw [List.range_succ, List.filter_append]
  congr 1
  show List.filter _ [n] = _
  by_cases t : LG.rch (rs.getD n ⟨0, 0, 0⟩) q = 0
  · rw [if_pos t, List.filter_cons_of_pos (by simpa using t)]
    rfl
  · rw [if_neg t, List.filter_cons_of_neg (by simpa using t)]
    rfl
theorem thru_len (rs : List LG.Row) (q : LG.Pt) (n : Nat) : (thruN rs q n).length ≤ n := by
  have := List.length_filter_le (fun k => decide (LG.rch (rs.getD k ⟨0, 0, 0⟩) q = 0)) (List.range n)
  rw [List.length_range] at this
  exact this
theorem thru_mem {rs : List LG.Row} {q : LG.Pt} {n k : Nat} : k ∈ thruN rs q n ↔ k < n ∧ LG.rch (rs.getD k ⟨0, 0, 0⟩) q = 0 := by
  unfold thruN
  rw [List.mem_filter, List.mem_range, decide_eq_true_iff]
theorem thru_rise (rs : List LG.Row) (q : LG.Pt) (n : Nat) : (thruN rs q n).Pairwise (· < ·) := List.Pairwise.filter _ List.pairwise_lt_range
theorem rise_get {l : List Nat} (h : l.Pairwise (· < ·)) {i j x y : Nat} (ij : i < j) (hx : l[i]? = some x) (hy : l[j]? = some y) : x < y := by
  obtain ⟨li, ei⟩ := List.getElem?_eq_some_iff.mp hx
  obtain ⟨lj, ej⟩ := List.getElem?_eq_some_iff.mp hy
  have := List.pairwise_iff_getElem.mp h i j li lj ij
  rwa [ei, ej] at this
def sp_shown (K : PySem.W.Frag) : Sp := fun vs H Q _ => ∃ (l p w : Addr) (rp : List Addr) (rs : List LG.Row) (q : LG.Pt) (i j : Int), vs = [.ref l, .ref p, .ref w] ∧ RowL H l rp rs ∧ RowsOk rs ∧ (∀ r ∈ rs, ¬ (r.a = 0 ∧ r.b = 0)) ∧ H p = some (ptHO q) ∧ SzP 1000 q ∧ H w = some (.tup [.int i, .int j]) ∧ Sz 20 i ∧ Sz 20 j ∧ ¬ (i = 0 ∧ j = 0) ∧
  ((∃ r u m, LG.Far1 rs q ⟨i, j⟩ r u m) ∨ ∃ r s, LG.Far2 rs q ⟨i, j⟩ r s) ∧
  ∀ (H' : Hp) (t d : Addr) (ps : List Addr) (m : Int) (ks : List (Int × Int)), Same H H' → H t = none → H d = none → H' t = some (.tup [.int m, .ref d]) → PairL H' d ps ks → FarP rs i j q m ks → Q (.ref t) H'
theorem row_two {K : PySem.W.Frag} {H : Hp} {p : Addr} {r : LG.Row} {rs : List LG.Row} (ok : RowsOk rs) (nz : ∀ r ∈ rs, ¬ (r.a = 0 ∧ r.b = 0)) (m : r ∈ rs) (h : H p = some (rowHO r)) : Two K H p r.a r.b :=
  ⟨⟨_, SqT.of h⟩, .of (ok.small r m).1 (by decide), .of (ok.small r m).2.1 (by decide), nz r m⟩
theorem far1_two {rs : List LG.Row} {q : LG.Pt} {i j : Int} {r : LG.Row} {u m : Int} (h : LG.Far1 rs q ⟨i, j⟩ r u m) : r.a * -j - r.b * -i = 0 ∧ ¬ r.a * -i + r.b * -j > 0 := by
  have ea : u * r.a = m * i := h.ea
  have eb : u * r.b = m * j := h.eb
  have up := h.up
  have mp := h.mp
  constructor
  · have : u * (r.a * -j - r.b * -i) = 0 := by
      have : u * (r.a * -j - r.b * -i) = (u * r.b) * i - (u * r.a) * j := by grind
      rw [this, ea, eb]
      grind
    exact (Int.mul_eq_zero.mp this).resolve_left (by omega)
  · intro z
    have : 0 < u * (r.a * -i + r.b * -j) := Int.mul_pos up z
    have e : u * (r.a * -i + r.b * -j) = -(m * (i * i + j * j)) := by
      have : u * (r.a * -i + r.b * -j) = -((u * r.a) * i + (u * r.b) * j) := by grind
      rw [this, ea, eb]
      grind
    rw [e] at this
    have s : 0 ≤ i * i + j * j := by
      have h1 : 0 ≤ i * i := by rcases Int.le_total 0 i with z | z; exact Int.mul_nonneg z z; exact Int.mul_nonneg_of_nonpos_of_nonpos z z
      have h2 : 0 ≤ j * j := by rcases Int.le_total 0 j with z | z; exact Int.mul_nonneg z z; exact Int.mul_nonneg_of_nonpos_of_nonpos z z
      omega
    have := Int.mul_nonneg (show 0 ≤ m by omega) s
    omega
theorem IsWay.up {H H' : Hp} {x : V} {i j : Int} (s : Same H H') (h : IsWay H x i j) : IsWay H' x i j := by
  obtain ⟨p, e, a, w⟩ := h
  exact ⟨p, e, s _ _ a, w⟩
theorem IsWay.down {H H' : Hp} {x : V} {i j : Int} (f : FItem H x) (s : Same H H') (h : IsWay H' x i j) : IsWay H x i j := by
  obtain ⟨p, rfl, e, ok⟩ := h
  refine ⟨p, rfl, ?_, ok⟩
  have sure : ∀ o, H p = some o → (∀ ps, o ≠ .tbl ps) → H p = some (.tup [.int i, .int j]) := fun o k n => by
    have := s.not k n
    rw [e] at this
    rw [k, ← Option.some.inj this]
  cases f with
  | plain k n => exact absurd rfl (n p)
  | dK k => exact sure _ k (by intro _ z; cases z)
  | tup k _ => exact sure _ k (by intro _ z; cases z)
  | lst k => exact sure _ k (by intro _ z; cases z)
end LL

namespace LL
open PySem PySem.Spec PySem.Calls PyProof.Rows L2
/-! ### list(..) of what gives new pairs -/
def lstO (acc : Array Value) (c : Nat) : Obj := { cls := .type "list", dict := none, data := .seq acc c, slots := #[] }
def twoO (k v : Value) : Obj := { cls := .type "tuple", data := .seq #[k, v] }
/-- what isn't in wr stays -/
abbrev Kp (wr : List Addr) (h h' : Heap) : Prop := ∀ b o, b ∉ wr → h.get? b = some o → h'.get? b = some o
/-- I gives n new pairs, one a turn; the list at S holds them, so that none of them is given anew -/
structure Gives2 (prog : Program) (w : World) (I S : Addr) (wr : List Addr) (n : Nat) (Rel : Nat → Value → Value → Prop) (St : Nat → Heap → Prop) : Prop where
  off : S ∉ wr
  frame : ∀ {i : Nat} {h h' : Heap}, St i h → Kp [S] h h' → St i h'
  item : ∀ {A : Around} {i : Nat} {s : Shared} {Q : Option Value → Shared → Prop} {E : Value → Shared → Prop}, i < n → St i s.heap → S < s.heap.objs.size →
    (∀ k v h' tk, Rel i k v → h'.get? s.heap.objs.size = some (twoO k v) → St (i + 1) h' → Kp wr s.heap h' → Q (some (.ref s.heap.objs.size)) { s with heap := h', toks := tk }) → wpAny (model prog w) A (pyNext (.ref I)) Q E s
  done : ∀ {A : Around} {s : Shared} {Q : Option Value → Shared → Prop} {E : Value → Shared → Prop}, A.handled = none → St n s.heap → (∀ h' tk, Kp wr s.heap h' → Q none { s with heap := h', toks := tk }) → wpAny (model prog w) A (pyNext (.ref I)) Q E s
/-- the pairs so far -/
structure Got (Rel : Nat → Value → Value → Prop) (S : Addr) (h : Heap) (as : List Addr) : Prop where
  rise : as.Pairwise (· < ·)
  above : ∀ a ∈ as, S < a
  pairs : ∀ (j : Nat) (a : Addr), as[j]? = some a → ∃ k v, Rel j k v ∧ h.get? a = some (twoO k v)
theorem Got.keep {Rel : Nat → Value → Value → Prop} {S : Addr} {h h' : Heap} {as : List Addr} (g : Got Rel S h as) (kp : ∀ a o, S < a → h.get? a = some o → h'.get? a = some o) : Got Rel S h' as :=
  ⟨g.rise, g.above, fun j a hj => by
    obtain ⟨k, v, r, e⟩ := g.pairs j a hj
    exact ⟨k, v, r, kp a _ (g.above a (List.mem_of_getElem? hj)) e⟩⟩
theorem Got.snoc {Rel : Nat → Value → Value → Prop} {S : Addr} {h : Heap} {as : List Addr} {a : Addr} {k v : Value} (g : Got Rel S h as) (lt : ∀ b ∈ as, b < a) (hS : S < a) (r : Rel as.length k v) (e : h.get? a = some (twoO k v)) : Got Rel S h (as ++ [a]) := by
  refine ⟨List.pairwise_append.mpr ⟨g.rise, List.pairwise_singleton _ _, fun b hb c hc => ?_⟩, fun b hb => ?_, fun j b hj => ?_⟩
  · rw [List.mem_singleton.mp hc]
    exact lt b hb
  · rcases List.mem_append.mp hb with z | z
    · exact g.above b z
    · rw [List.mem_singleton.mp z]
      exact hS
  · by_cases c : j < as.length
    · rw [List.getElem?_append_left c] at hj
      exact g.pairs j b hj
    · rw [List.getElem?_append_right (by omega)] at hj
      have z := (List.getElem?_eq_some_iff.mp hj).1
      simp only [List.length_cons, List.length_nil] at z
      have z : j = as.length := by omega
      subst z
      rw [Nat.sub_self] at hj
      cases hj
      exact ⟨k, v, r, e⟩
section
variable {prog : Program} {w : World} {A : Around} {I S : Addr} {wr : List Addr} {n : Nat} {Rel : Nat → Value → Value → Prop} {St : Nat → Heap → Prop}
theorem fill {R : Result → Shared → Prop} {s : Shared} {h0 : Heap} (hh : A.handled = none) (G : Gives2 prog w I S wr n Rel St) (low : ∀ b ∈ wr, b < S) (hn : n ≤ sizeLine) (res : Value)
    (hR : ∀ h' tk acc c as, Kp (S :: wr) h0 h' → h'.get? S = some (lstO acc c) → as.length = n → Got Rel S h' as → acc.toList = as.map Value.ref → R (.ok (.ret res)) { s with heap := h', toks := tk }) :
    ∀ (k i : Nat) (h : Heap) (tk c : Nat) (acc : Array Value) (as : List Addr), n - i = k → i ≤ n → St i h → Kp (S :: wr) h0 h → h.get? S = some (lstO acc c) → acc.toList = as.map Value.ref → as.length = i → Got Rel S h as →
      codeAny (model prog w) A (.builtin "list.extend.loop" ⟨[.ref S, .ref I, res], []⟩) R { s with heap := h, toks := tk } := by
  have noS : ∀ {b : Addr}, S < b → b ∉ wr := fun hb z => Nat.lt_irrefl _ (Nat.lt_trans hb (low _ z))
  intro k
  induction k with
  | zero =>
    intro i h tk c acc as hk hi hst kp hS hacc hal g
    have e : i = n := by omega
    subst e
    refine codeAny_builtin PySem.F.entry_extend_loop ?_; rw [Around.under_plainId PySem.F.plain_extend_loop _]; show wpAny _ A.in1 (pyNext (.ref I) >>= _) _ _ _
    refine wpAny_bind (G.done (s := { s with heap := h, toks := tk }) (A := A.in1) hh hst fun h' tk' k1 => wpAny_pure ?_)
    exact hR h' tk' acc c as (fun b o hb e => k1 b o (fun z => hb (List.mem_cons_of_mem _ z)) (kp b o hb e)) (k1 S _ G.off hS) hal (g.keep fun a o ha e => k1 a o (noS ha) e) hacc
  | succ k ih =>
    intro i h tk c acc as hk hi hst kp hS hacc hal g
    have lt : i < n := by omega
    have sz : acc.size = i := by rw [← Array.length_toList, hacc, List.length_map, hal]
    refine codeAny_builtin PySem.F.entry_extend_loop ?_; rw [Around.under_plainId PySem.F.plain_extend_loop _]; show wpAny _ A.in1 (pyNext (.ref I) >>= _) _ _ _
    refine wpAny_bind (G.item (s := { s with heap := h, toks := tk }) (A := A.in1) lt hst (Heap.lt_size hS) fun u v h' tk' rel at' hst' k1 => ?_)
    dsimp only at at' k1 ⊢
    have hS1 := k1 S _ G.off hS
    have up : ∀ b o, b ≠ S → h'.get? b = some o → (h'.update S (Obj.mapSeq (·.push (Value.ref h.objs.size)))).get? b = some o := fun b o hb e => (Heap.get?_update_other _ _ fun z => hb z.symm).trans e
    have lS : S < h.objs.size := Heap.lt_size hS
    have there : ∀ a ∈ as, a < h.objs.size := fun a ha => by
      obtain ⟨j, hj⟩ := List.mem_iff_getElem?.mp ha
      obtain ⟨_, _, _, e⟩ := g.pairs j a hj
      exact Heap.lt_size e
    show wpAny _ A.in1 (updateSeq S (·.push (Value.ref h.objs.size)) >>= _) _ _ _
    refine wpAny_bind (wpAny_updateSeq hS1 rfl (wpAny_pure ⟨plainId_quiet PySem.F.plain_extend_loop _, ih (i + 1) _ tk' _ (acc.push (Value.ref h.objs.size)) (as ++ [h.objs.size]) (by omega) lt (G.frame hst' fun b o hb e => up b o (by simpa using hb) e) (fun b o hb e => ?_) (Heap.get?_update_self _ hS1 rfl) ?_ ?_ ?_⟩) ?_ ?_)
    · exact up b o (fun z => hb (by simp [z])) (k1 b o (fun z => hb (List.mem_cons_of_mem _ z)) (kp b o hb e))
    · rw [Array.toList_push, hacc, List.map_append]
      rfl
    · rw [List.length_append, hal]
      rfl
    · refine (g.keep fun a o ha e => up a o (fun z => ?_) (k1 a o (noS ha) e)).snoc there lS (by rw [hal]; exact rel) (up _ _ (Nat.ne_of_gt lS) at')
      rw [z] at ha
      exact Nat.lt_irrefl _ ha
    · rw [sz]
      omega
    · show (acc.push (Value.ref h.objs.size)).size ≤ _
      rw [Array.size_push, sz]
      omega
end
section
variable {prog : Program} {w : World} {A : Around} {e : Addr} {wr : List Addr} {n : Nat} {Rel : Nat → Value → Value → Prop} {St : Nat → Heap → Prop} {s : Shared} {Q : Value → Shared → Prop} {E : Value → Shared → Prop} {T : String}
theorem list_two (hh : A.handled = none) (G : Gives2 prog w e s.heap.objs.size wr n Rel St) (hst : St 0 s.heap) (low : ∀ b ∈ wr, b < s.heap.objs.size) (he : e < s.heap.objs.size) (hn : n ≤ sizeLine) (ty : ∀ h, St 0 h → ∃ o, h.get? e = some o ∧ o.cls = .type T)
    (noLen : typeLookup (.type T) "__len__" = pure none) (noHint : typeLookup (.type T) "__length_hint__" = pure none) (n1 : (Value.type T == Value.type "list") = false) (n2 : (Value.type T == Value.type "tuple") = false)
    (self : ∀ {A : Around} {s : Shared} {Q : Value → Shared → Prop} {E : Value → Shared → Prop}, St 0 s.heap → Q (.ref e) s → wpAny (model prog w) A (pyIter (.ref e)) Q E s)
    (hQ : ∀ h' tk acc c as, Kp wr s.heap h' → h'.get? s.heap.objs.size = some (lstO acc c) → as.length = n → Got Rel s.heap.objs.size h' as → acc.toList = as.map Value.ref → Q (.ref s.heap.objs.size) { s with heap := h', toks := tk }) :
    wpAny (model prog w) A (call (.type "list") [.ref e]) Q E s := by
  have off : s.heap.objs.size ≠ e := Nat.ne_of_gt he
  refine callType_codes (Q₁ := fun u s1 => u = .ref s.heap.objs.size ∧ s1 = { s with heap := s.heap.push { cls := .type "list", data := .seq #[] } }) PySem.F.called_list (PySem.F.typeCall_list_1 _) PySem.F.entry_list_init (code_list_new _ ⟨rfl, rfl⟩) fun u s1 ⟨eu, es⟩ => ?_
  subst eu es
  have g0 : (s.heap.push { cls := .type "list", data := .seq #[] }).get? s.heap.objs.size = some { cls := .type "list", data := .seq #[] } := Heap.get?_push_size _ rfl
  have q0 : Kp [s.heap.objs.size] s.heap (s.heap.push { cls := .type "list", data := .seq #[] }) := fun b o _ e => Heap.get?_push_of_some _ e
  have q1 : ∀ {h : Heap} {f : Obj → Obj}, Kp [s.heap.objs.size] s.heap h → Kp [s.heap.objs.size] s.heap (h.update s.heap.objs.size f) := fun k b o hb e => (Heap.get?_update_other _ _ fun z => hb (by simp [z])).trans (k b o hb e)
  refine ⟨⟨_, g0, rfl⟩, PySem.F.args_list_init_2 _ _, ?_⟩
  show wpAny _ A.in1.in1 (do let old ← Builtin.List.listItems (.ref s.heap.objs.size); Builtin.List.listUpdate (.ref s.heap.objs.size) (fun _ => #[]); letGo old.toList.reverse; Builtin.List.listExtendWith (.ref s.heap.objs.size) (.ref e) .none) _ _ _
  unfold Builtin.List.listItems
  refine wpAny_bind (wpAny_bind (wpAny_seqItems g0 rfl (wpAny_pure ?_)))
  show wpAny _ A.in1.in1 (updateSeq s.heap.objs.size (fun _ => #[]) >>= fun _ => letGo (#[] : Array Value).toList.reverse >>= fun _ => Builtin.List.listExtendWith (.ref s.heap.objs.size) (.ref e) .none) _ _ _
  refine wpAny_bind (wpAny_updateSeq g0 rfl (wpAny_bind (wpAny_letGo ?_)))
  have g1 := Heap.get?_update_self (Obj.mapSeq (fun _ => (#[] : Array Value))) g0 rfl
  have q2 := q1 (f := Obj.mapSeq (fun _ => (#[] : Array Value))) q0
  have ty1 := ty _ (G.frame hst q2)
  unfold Builtin.List.listExtendWith
  refine wpAny_bind (wpAny_typeOf (s := { s with heap := _ }) ty1 ?_)
  have same : Builtin.List.listSameRef (.ref s.heap.objs.size) (.ref e) = false := by simp [Builtin.List.listSameRef, off]
  simp only [same, n1, n2, Bool.or_false, Bool.false_eq_true, if_false]
  refine wpAny_bind (self (s := { s with heap := _ }) (G.frame hst q2) (wpAny_bind (wpAny_holding ?_)))
  unfold Builtin.List.listLengthHint
  refine wpAny_bind (wpAny_specialOf (s := { s with heap := _ }) ty1 noLen ?_)
  show wpAny _ A.in1.in1 (specialOf (Value.ref e) (Str.ofString "__length_hint__") >>= _) _ _ _
  refine wpAny_bind (wpAny_specialOf (s := { s with heap := _ }) ty1 noHint (wpAny_pure ?_))
  show wpAny _ A.in1.in1 (rule "list.extend.makes-room" >>= fun _ => Builtin.List.listTouch (.ref s.heap.objs.size) >>= fun _ => again (.builtin "list.extend.loop" ⟨[.ref s.heap.objs.size, .ref e, .none], []⟩)) _ _ _
  refine wpAny_bind (wpAny_rule (wpAny_bind ?_))
  show wpAny _ A.in1.in1 (updateSeq s.heap.objs.size (·.push .none) >>= fun _ => updateSeq s.heap.objs.size (·.pop)) _ _ _
  refine wpAny_bind (wpAny_updateSeq g1 rfl ?_)
  have g2 := Heap.get?_update_self (Obj.mapSeq (·.push Value.none)) g1 rfl
  refine wpAny_updateSeq (hz := by seq_fits) g2 rfl ?_
  have g3 := Heap.get?_update_self (Obj.mapSeq (·.pop)) g2 rfl
  have q4 := q1 (f := Obj.mapSeq (·.pop)) (q1 (f := Obj.mapSeq (·.push Value.none)) q2)
  refine wpAny_pure ⟨plainId_quiet PySem.F.plain_extend_loop _, ?_⟩
  refine fill (A := A.in1) hh G low hn .none (h0 := s.heap) (fun h' tk acc c as k hS hl g ha => ?_) n 0 _ _ _ #[] [] (Nat.sub_zero _) (Nat.zero_le _) (G.frame hst q4) (fun b o hb e => q4 b o (fun z => hb (by simp at z; simp [z])) e) g3 rfl rfl ⟨.nil, fun a ha => absurd ha List.not_mem_nil, fun j a hj => by simp at hj⟩
  refine ⟨rfl, hQ h' tk acc c as (fun b o hb e => k b o (fun z => ?_) e) hS hl g ha⟩
  rcases List.mem_cons.mp z with z | z
  · rw [z] at e
    exact Nat.lt_irrefl _ (Heap.lt_size e)
  · exact hb z
end
section
variable {X : Cx} {pins : List (Addr × Obj)} {σ : L2.St} {H : Hp} {s : Shared}
/-- the pairs and their list are seen -/
theorem pairs_laid {h' : Heap} {tk : Nat} {S : Addr} {acc : Array Value} {c : Nat} {as : List Addr} {kvs : List (Key × V)} {Rel : Nat → Value → Value → Prop} (I : Inv X pins σ H s) (hS0 : s.heap.objs.size ≤ S) (kp : ∀ b o, s.heap.get? b = some o → h'.get? b = some o) (hS : h'.get? S = some (lstO acc c)) (hl : as.length = kvs.length)
    (hz : kvs.length ≤ sizeLine) (g : Got Rel S h' as) (rel : ∀ j k v, Rel j k v → ∃ q, kvs[j]? = some q ∧ RelV (kV q.1) k ∧ RelV q.2 v) (hacc : acc.toList = as.map Value.ref) :
    ∃ H' : Hp, Same H H' ∧ H S = none ∧ H' S = some (.lst (as.map V.ref)) ∧ Paired (fun (t : Addr) (q : Key × V) => H' t = some (.tup [kV q.1, q.2])) as kvs ∧ Inv X pins σ H' { s with heap := h', toks := tk } := by
  have fresh : ∀ {b : Addr}, S ≤ b → H b = none := fun hb => I.hok.fresh (Nat.le_trans hS0 hb)
  have notS : S ∉ as := fun z => Nat.lt_irrefl _ (g.above _ z)
  have nd : as.Nodup := g.rise.imp fun h => Nat.ne_of_lt h
  have all := LiI.putT_at as kvs (upd H S (.lst (as.map V.ref))) hl nd
  have out : ∀ {b : Addr}, b ∉ as → b ≠ S → LiI.putT (upd H S (.lst (as.map V.ref))) as kvs b = H b := fun h1 h2 => by rw [LiI.putT_off as kvs _ h1, upd_ne h2]
  have old : ∀ {b : Addr} {u : HO}, H b = some u → LiI.putT (upd H S (.lst (as.map V.ref))) as kvs b = some u := fun {b u} q => by
    rw [out (fun z => by rw [fresh (Nat.le_of_lt (g.above b z))] at q; cases q) (fun z => by rw [z, fresh (Nat.le_refl _)] at q; cases q)]
    exact q
  have atS : LiI.putT (upd H S (.lst (as.map V.ref))) as kvs S = some (.lst (as.map V.ref)) := by rw [LiI.putT_off as kvs _ notS, upd_same]
  have lt : ∀ {b : Addr} {o : Obj}, s.heap.get? b = some o → b < S := fun e => Nat.lt_of_lt_of_le (Heap.lt_size e) hS0
  refine ⟨_, .of fun b o q => old q, fresh (Nat.le_refl _), atS, all, ?_⟩
  refine I.call' (ch := []) rfl ⟨fun b o q _ _ _ => kp b o q, fun b o q _ _ _ => ⟨o.slots, kp b o q⟩, fun b o q z _ => ?_, fun b o q _ => ⟨o, kp b o q⟩, fun b xs q => old q, fun b o u q => old q, fun b qs q => ⟨#[], by rw [old q, Array.append_empty]⟩⟩ (fun b u q => ?_) I.bare fun b z => absurd z List.not_mem_nil
  · rw [out (fun y => absurd (lt q) (Nat.not_lt.mpr (Nat.le_of_lt (g.above b y)))) (Nat.ne_of_lt (lt q))]
    exact z
  · by_cases hb : b ∈ as
    · obtain ⟨j, pk, e1, e2, e3⟩ := LiI.paired_ix all hb
      rw [e3] at q
      cases q
      obtain ⟨k, v, r, f⟩ := g.pairs j b e1
      obtain ⟨qq, e4, r1, r2⟩ := rel j k v r
      rw [e2] at e4
      cases e4
      exact ⟨by show 2 ≤ sizeLine; decide, [k, v], .cons r1 (.cons r2 .nil), ⟨_, f, rfl, _, rfl⟩⟩
    · by_cases hb2 : b = S
      · subst hb2
        rw [atS] at q
        cases q
        refine ⟨by rw [List.length_map, hl]; exact hz, acc.toList, c, by rw [hacc]; exact LiI.vals_refs as, ?_⟩
        rw [Array.toArray_toList]
        exact hS
      · rw [out hb hb2] at q
        exact (I.hok b u q).stay (fun d v _ y => kp d v y) (fun d y => old y) fun d xs y => old y
end
end LL

namespace LL
open PySem PySem.Spec PySem.Calls PyProof.Rows L2
/-! ### list(enumerate(..)) -/
theorem noLen_enum : typeLookup (.type "enumerate") "__len__" = pure none := am_miss_of_fast (by decide +kernel)
theorem noHint_enum : typeLookup (.type "enumerate") "__length_hint__" = pure none := am_miss_of_fast (by decide +kernel)
theorem noLen_zip : typeLookup (.type "zip") "__len__" = pure none := am_miss_of_fast (by decide +kernel)
theorem noHint_zip : typeLookup (.type "zip") "__length_hint__" = pure none := am_miss_of_fast (by decide +kernel)
def EnumSt (e it l S : Addr) (items : Array Value) (i : Nat) (h : Heap) : Prop :=
  h.IsListIter it l i ∧ h.IsList l items ∧ ((∃ old, IsEnum h e it i old) ∨ ∃ old T f oT, IsEnumHeld h e it i old T f ∧ h.get? T = some oT ∧ T ≠ e ∧ T ≠ it ∧ T ≠ S ∧ 0 < i)
theorem gives_enum {prog : Program} {w : World} {e it l S : Addr} {items : Array Value} (ei : e ≠ it) (le : l ≠ e) (li : l ≠ it) (Se : S ≠ e) (Si : S ≠ it) (Sl : S ≠ l) :
    Gives2 prog w e S [e, it] items.size (fun i k v => (∃ t, k = .int i t) ∧ items[i]? = some v) (EnumSt e it l S items) := by
  have no : ∀ {b c : Addr}, b ≠ c → b ∉ [c] := fun h z => h (by simpa using z)
  refine ⟨fun z => ?_, fun {i h h'} st kp => ?_, fun {A i s Q E} lt st lS hQ => ?_, fun {A s Q E} hh st hQ => ?_⟩
  · rcases List.mem_cons.mp z with z | z
    · exact Se z
    · exact Si (by simpa using z)
  · obtain ⟨hit, hl, he⟩ := st
    refine ⟨hit.at fun o x => kp _ o (no (Ne.symm Si)) x, hl.at fun o x => kp _ o (no (Ne.symm Sl)) x, ?_⟩
    rcases he with ⟨old, he⟩ | ⟨old, T, f, oT, he, hT, t1, t2, t3, i0⟩
    · exact .inl ⟨old, kp _ _ (no (Ne.symm Se)) he⟩
    · exact .inr ⟨old, T, f, oT, kp _ _ (no (Ne.symm Se)) he, kp _ _ (no t3) hT, t1, t2, t3, i0⟩
  · obtain ⟨hit, hl, he⟩ := st
    have at' := Array.getElem?_eq_getElem lt
    have next : ((i + 1 : Nat) : Int) = (i : Int) + 1 := by omega
    have ni : s.heap.objs.size ≠ it := by
      obtain ⟨_, x, _⟩ := hit
      exact Nat.ne_of_gt (Heap.lt_size x)
    have out : ∀ {h' : Heap}, (∀ b o, b ≠ e → b ≠ it → s.heap.get? b = some o → h'.get? b = some o) → Kp [e, it] s.heap h' := fun k b o hb x => k b o (fun y => hb (by simp [y])) (fun y => hb (by simp [y])) x
    rcases he with ⟨old, he⟩ | ⟨old, T, f, oT, he, hT, t1, t2, t3, i0⟩
    · refine wpAny_pyNext_enum_item he hit hl at' ei fun h' ho hit' hN _ k => hQ _ _ h' (s.toks + 1) ⟨⟨_, rfl⟩, at'⟩ hN ⟨hit', hl.at fun o x => k l o le li x, .inr ⟨items[i], s.heap.objs.size, false, _, by rw [next]; exact ho, hN, Nat.ne_of_gt (Heap.lt_size he), ni, Nat.ne_of_gt lS, Nat.succ_pos i⟩⟩ (out k)
    · refine wpAny_pyNext_enum_item_held he hT t1 t2 hit hl at' ei fun h' ho hit' hN _ k => hQ _ _ h' (s.toks + 1) ⟨⟨_, rfl⟩, at'⟩ hN ⟨hit', hl.at fun o x => k l o le li x, .inr ⟨old, T, true, oT, by rw [next]; exact ho, k _ _ t1 t2 hT, t1, t2, t3, Nat.succ_pos i⟩⟩ (out k)
  · obtain ⟨hit, hl, he⟩ := st
    have no' : items[items.size]? = none := Array.getElem?_eq_none (Nat.le_refl _)
    have out : ∀ {h' : Heap}, Heap.ExtBut it s.heap h' → Kp [e, it] s.heap h' := fun k b o hb x => k b o (fun y => hb (by simp [y])) x
    rcases he with ⟨old, he⟩ | ⟨old, T, f, oT, he, hT, t1, t2, t3, i0⟩
    · exact wpAny_pyNext_enum_end hh he hit hl no' fun h' k => hQ h' s.toks (out k)
    · exact wpAny_pyNext_enum_end_held hh he hit hl no' fun h' k => hQ h' s.toks (out k)
/-- the items by their numbers -/
def numK (xs : List V) : List (Key × V) := xs.zipIdx.map fun p => (.inl (p.2 : Int), p.1)
theorem numK_len (xs : List V) : (numK xs).length = xs.length := by
  unfold numK
  rw [List.length_map, List.length_zipIdx]
theorem numK_get (xs : List V) (i : Nat) : (numK xs)[i]? = xs[i]?.map fun x => (.inl (i : Int), x) := by
  unfold numK
  rw [List.getElem?_map, List.getElem?_zipIdx, Option.map_map]
  cases xs[i]? with
  | none => rfl
  | some x => simp
def tListEnum (K : PySem.W.Frag) (te : TE) : TE := fun σ H Q => te σ H fun x H1 => ∃ (a : Addr) (xs : List V), x = .ref a ∧ SqL K H1 a xs ∧
  ∀ (H2 : Hp) (L : Addr) (as : List Addr), Same H1 H2 → H1 L = none → H2 L = some (.lst (as.map V.ref)) → as.length = xs.length → (∀ i t, as[i]? = some t → ∃ x, xs[i]? = some x ∧ H2 t = some (.tup [.int (i : Nat), x])) → Q (.ref L) H2
section
variable {X : Cx} {e : Expr} {te : TE} {p1 p2 p3 p4 : Pos}
theorem pe_listEnum (hc : X.calm = true) (hg1 : Gl X "list") (hm1 : X.mg "list" = none) (hg2 : Gl X "enumerate") (hm2 : X.mg "enumerate" = none) (he : PE X e te)
    (h1 : starEach [.Call (.Name "enumerate" p2) [e] [] p3] X.env = (false, eval (.Call (.Name "enumerate" p2) [e] [] p3) X.env) :: starEach [] X.env := by rfl)
    (h2 : starEach [e] X.env = (false, eval e X.env) :: starEach [] X.env := by rfl) :
    PE X (.Call (.Name "list" p1) [.Call (.Name "enumerate" p2) [e] [] p3] [] p4) (tListEnum X.K te) := by
  refine ⟨fun pins s σ H Q I h => ?_⟩
  refine wpAny_Call_Name_kw (ld_blt I hg1 hm1 (by first | rfl | decide +kernel) ?_)
  refine callWith_type1 ?_ h1 (by rfl)
  rw [h1]
  show wpAny _ _ (spliced ((false, eval (.Call (.Name "enumerate" p2) [e] [] p3) X.env) :: backTo p4 (starEach [] X.env))) _ _ s
  refine Calls.spliced_cons ?_
  refine wpAny_Call_Name_kw (ld_blt I hg2 hm2 (by first | rfl | decide +kernel) ?_)
  refine callWith_type1 ?_ h2 (by rfl)
  rw [h2]
  show wpAny _ _ (spliced ((false, eval e X.env) :: backTo p3 (starEach [] X.env))) _ _ s
  refine Calls.spliced_cons (thn (he.run pins s σ H _ I h) fun u s1 ⟨v, H1, I1, rv, a, xs, ev, hq, q⟩ => ?_)
  subst ev
  obtain rfl : u = Value.ref a := rv
  refine Calls.spliced_nil ?_
  obtain ⟨its, rs, pl, hz⟩ := I1.list hq
  have len := rs.length
  refine call_enumerate_list pl.isList fun h' hE hit hsz hk => ?_
  refine Calls.spliced_nil ?_
  have ne : s1.heap.objs.size + 1 ≠ s1.heap.objs.size := Nat.succ_ne_self _
  have al : a < s1.heap.objs.size := by
    obtain ⟨o, ho, _⟩ := pl.isList
    exact Heap.lt_size ho
  have S2 : h'.objs.size = s1.heap.objs.size + 2 := hsz
  have gv := gives_enum (prog := X.prog) (w := X.w) (e := s1.heap.objs.size + 1) (it := s1.heap.objs.size) (l := a) (S := h'.objs.size) (items := its.toArray) ne (Nat.ne_of_lt (Nat.lt_succ_of_lt al)) (Nat.ne_of_lt al) (by rw [S2]; exact Nat.ne_of_gt (Nat.lt_succ_self _)) (by rw [S2]; exact Nat.ne_of_gt (Nat.lt_succ_of_lt (Nat.lt_succ_self _))) (by rw [S2]; exact Nat.ne_of_gt (Nat.lt_trans al (Nat.lt_succ_of_lt (Nat.lt_succ_self _))))
  refine list_two (s := { s1 with heap := h' }) (T := "enumerate") (I.ok.hd hc) gv ⟨hit, pl.isList.at fun o x => hk _ o x, .inl ⟨_, hE⟩⟩ (fun b hb => ?_) (by show _ < h'.objs.size; rw [S2]; exact Nat.lt_succ_self _) (by rw [List.size_toArray]; omega) (fun h st => ?_) noLen_enum noHint_enum (by decide) (by decide) (fun {A s Q E} st q => ?_) fun h2 tk acc c as kp hS hl g ha => ?_
  · show b < h'.objs.size
    rw [S2]
    rcases List.mem_cons.mp hb with z | z
    · rw [z]; exact Nat.lt_succ_self _
    · rw [show b = s1.heap.objs.size by simpa using z]; exact Nat.lt_succ_of_lt (Nat.lt_succ_self _)
  · rcases st.2.2 with ⟨old, x⟩ | ⟨old, T, f, oT, x, _⟩
    · exact ⟨_, x, rfl⟩
    · exact ⟨_, x, rfl⟩
  · rcases st.2.2 with ⟨old, x⟩ | ⟨old, T, f, oT, x, _, _, _, _, i0⟩
    · exact wpAny_pyIter_enum x q
    · exact absurd i0 (Nat.lt_irrefl 0)
  · have old : ∀ b o, s1.heap.get? b = some o → h2.get? b = some o := fun b o x => kp b o (fun z => by
      have lt := Heap.lt_size x
      rcases List.mem_cons.mp z with z | z
      · rw [z] at lt
        exact absurd lt (Nat.not_lt.mpr (Nat.le_succ _))
      · rw [show b = s1.heap.objs.size by simpa using z] at lt
        exact Nat.lt_irrefl _ lt) (hk b o x)
    have rel : ∀ (j : Nat) (k v : Value), ((∃ t, k = .int j t) ∧ its.toArray[j]? = some v) → ∃ q, (numK xs)[j]? = some q ∧ RelV (kV q.1) k ∧ RelV q.2 v := fun j k v ⟨⟨t, ek⟩, ev⟩ => by
      have lj : j < xs.length := by
        have := (Array.getElem?_eq_some_iff.mp ev).1
        rw [List.size_toArray] at this
        omega
      obtain ⟨u, hu, ru⟩ := rs.get (List.getElem?_eq_getElem lj)
      rw [List.getElem?_toArray, hu] at ev
      cases ev
      refine ⟨(.inl (j : Int), xs[j]), by rw [numK_get, List.getElem?_eq_getElem lj]; rfl, ?_, ru⟩
      rw [ek]
      exact ⟨t, rfl⟩
    obtain ⟨H2, s12, nL, atL, all, J⟩ := pairs_laid (kvs := numK xs) (tk := tk) I1 (S := h'.objs.size) (by rw [S2]; exact Nat.le_add_right _ _) old hS (by rw [hl, numK_len, List.size_toArray]; omega) (by rw [numK_len]; exact hz) g rel ha
    refine ⟨.ref h'.objs.size, H2, J, rfl, q H2 _ as s12 nL atL (by rw [hl, List.size_toArray]; omega) fun i t hi => ?_⟩
    obtain ⟨y, hy, f⟩ := LiI.paired_get all hi
    rw [numK_get] at hy
    cases hx : xs[i]? with
    | none => rw [hx] at hy; cases hy
    | some x =>
      rw [hx] at hy
      cases hy
      exact ⟨x, rfl, f⟩
end
end LL

namespace LL
open PySem PySem.Spec PySem.Calls PyProof.Rows L2
/-! ### list(zip(..)) of two tuples -/
section
variable {prog : Program} {w : World} {A : Around} {E : Value → Shared → Prop} {s : Shared}
/-- the next pair, while the one before is still held -/
theorem zipT_item_held {z TI TO T i1 i2 l1 l2 : Addr} {f : Bool} {oT : Obj} {k1 k2 : Nat} {xs ys : Array Value} {x y : Value} {Q : Option Value → Shared → Prop} (D : ZipApart z TI TO i1 i2 l1 l2) (hz : IsZipHeld s.heap z TI TO T f) (hT : s.heap.get? T = some oT) (hTI : IsPair s.heap TI (.ref i1) (.ref i2))
    (h1 : s.heap.IsTupleIter i1 l1 k1) (h2 : s.heap.IsTupleIter i2 l2 k2) (hl1 : s.heap.IsTuple l1 xs) (hl2 : s.heap.IsTuple l2 ys) (hx : xs[k1]? = some x) (hy : ys[k2]? = some y)
    (hQ : ∀ h', IsZipHeld h' z TI TO T true → h'.IsTupleIter i1 l1 (k1 + 1) → h'.IsTupleIter i2 l2 (k2 + 1) → IsPair h' s.heap.objs.size x y → (∀ c o, c ≠ z → c ≠ i1 → c ≠ i2 → s.heap.get? c = some o → h'.get? c = some o) → Q (some (.ref s.heap.objs.size)) { s with heap := h' }) :
    wpAny (model prog w) A (pyNext (.ref z)) Q E s := by
  have ty : s.TypeIs (.ref z) "zip" := ⟨_, hz, rfl⟩
  unfold pyNext
  refine wpAny_bind (wpAny_attempt (wpAny_callSpecial?_slot (name := Str.ofString "__next__") ty F.slot_zip_next (wpAny_call_entry F.slot_zip_next ty F.entry_zip_next ?_ (F.args_zip_next_1 _))))
  show wpAny _ _ (field (.ref z) 2 >>= _) _ _ _; refine wpAny_bind (wpAny_field hz rfl (x := .bool false) rfl ?_)
  show wpAny _ _ (field (.ref z) 3 >>= _) _ _ _; refine wpAny_bind (wpAny_field hz rfl (x := .ref TI) rfl (wpAny_bind (wpAny_seqItems hTI rfl ?_)))
  show wpAny _ _ (Builtin.SmallTypes.ownedTupleIsFree (.ref z) >>= _) _ _ _; refine wpAny_bind (wpAny_tupleHeld_zip hz hT fun g1 z1 s1 => ?_)
  simp only [Bool.false_eq_true, if_false]
  refine wpAny_bind ?_; rw [← Array.forIn_toList]
  simp only [List.forIn_cons, List.forIn_nil]
  refine wpAny_bind (wpAny_bind (wpAny_holding ?_)); show wpAny _ _ (Builtin.SmallTypes.nextOf (.ref i1) >>= _) _ _ _
  refine wpAny_bind (RZ.nextOf_tuple_item (s := { s with heap := g1 }) (h1.extBut s1.extBut D.i1z) (hl1.extBut s1.extBut D.l1z) hx fun g2 a2 s2 => wpAny_pure (wpAny_pure ?_))
  refine wpAny_bind (wpAny_bind (wpAny_holding ?_)); show wpAny _ _ (Builtin.SmallTypes.nextOf (.ref i2) >>= _) _ _ _
  refine wpAny_bind (RZ.nextOf_tuple_item (s := { s with heap := g2 }) ((h2.extBut s1.extBut D.i2z).extBut s2.extBut D.i12.symm) ((hl2.extBut s1.extBut D.l2z).extBut s2.extBut D.l2i1) hy fun g3 a3 s3 => wpAny_pure (wpAny_pure (wpAny_pure ?_)))
  show wpAny _ _ (newTuple [x, y] >>= _) _ _ _
  have sz : g3.objs.size = s.heap.objs.size := by rw [s3.1, s2.1, s1.1]
  have z3 : IsZipHeld g3 z TI TO T true := s3.extBut _ _ D.i2z.symm (s2.extBut _ _ D.i1z.symm z1)
  have k3 : ∀ c o, c ≠ z → c ≠ i1 → c ≠ i2 → s.heap.get? c = some o → g3.get? c = some o := fun c o c1 c2 c3 e => s3.extBut _ _ c3 (s2.extBut _ _ c2 (s1.extBut _ _ c1 e))
  have b3 : g3.IsTupleIter i1 l1 (k1 + 1) := a2.extBut s3.extBut D.i12
  refine wpAny_bind (wpAny_newTuple (wpAny_pure ⟨_, rfl, wpAny_pure ?_⟩))
  show Q (some (.ref g3.objs.size)) _
  have pr : IsPair (g3.push { cls := .type "tuple", data := .seq #[x, y] }) g3.objs.size x y := Heap.get?_push_size _ rfl
  rw [sz] at pr ⊢
  exact hQ _ (Heap.get?_push_of_some _ z3) (b3.at fun o e => Heap.get?_push_of_some _ e) (a3.at fun o e => Heap.get?_push_of_some _ e) pr fun c o c1 c2 c3 e => Heap.get?_push_of_some _ (k3 c o c1 c2 c3 e)
/-- no more -/
theorem zipT_end_held {z TI TO T i1 i2 l1 l2 : Addr} {f : Bool} {oT : Obj} {k1 : Nat} {xs : Array Value} {Q : Option Value → Shared → Prop} (hh : A.handled = none) (D : ZipApart z TI TO i1 i2 l1 l2) (hz : IsZipHeld s.heap z TI TO T f) (hT : s.heap.get? T = some oT) (hTI : IsPair s.heap TI (.ref i1) (.ref i2))
    (h1 : s.heap.IsTupleIter i1 l1 k1) (hl1 : s.heap.IsTuple l1 xs) (hx : xs[k1]? = none)
    (hQ : ∀ h', (∀ c o, c ≠ z → c ≠ i1 → s.heap.get? c = some o → h'.get? c = some o) → Q none { s with heap := h' }) : wpAny (model prog w) A (pyNext (.ref z)) Q E s := by
  have ty : s.TypeIs (.ref z) "zip" := ⟨_, hz, rfl⟩
  unfold pyNext
  refine wpAny_bind (wpAny_attempt (wpAny_callSpecial?_slot (name := Str.ofString "__next__") ty F.slot_zip_next (wpAny_call_entry F.slot_zip_next ty F.entry_zip_next ?_ (F.args_zip_next_1 _))))
  show wpAny _ _ (field (.ref z) 2 >>= _) _ _ _; refine wpAny_bind (wpAny_field hz rfl (x := .bool false) rfl ?_)
  show wpAny _ _ (field (.ref z) 3 >>= _) _ _ _; refine wpAny_bind (wpAny_field hz rfl (x := .ref TI) rfl (wpAny_bind (wpAny_seqItems hTI rfl ?_)))
  show wpAny _ _ (Builtin.SmallTypes.ownedTupleIsFree (.ref z) >>= _) _ _ _; refine wpAny_bind (wpAny_tupleHeld_zip hz hT fun g1 z1 s1 => ?_)
  simp only [Bool.false_eq_true, if_false]
  refine wpAny_bind ?_; rw [← Array.forIn_toList]
  simp only [List.forIn_cons, List.forIn_nil]
  refine wpAny_bind (wpAny_bind (wpAny_holding ?_)); show wpAny _ _ (Builtin.SmallTypes.nextOf (.ref i1) >>= _) _ _ _
  refine wpAny_bind (RZ.nextOf_tuple_end (s := { s with heap := g1 }) hh (h1.extBut s1.extBut D.i1z) (hl1.extBut s1.extBut D.l1z) hx fun g2 u s2 he => ?_)
  obtain ⟨o, ho, hc⟩ := he
  exact wpAny_bind (wpAny_isInstance (T := "StopIteration") (b := true) ⟨o, ho, hc⟩ isSubtype_stop (wpAny_pure (hQ _ fun c o c1 c2 x => s2 _ _ c2 (s1.extBut _ _ c1 x))))
end
def ZipSt (z TI TO i1 i2 l1 l2 S : Addr) (xs ys : Array Value) (i : Nat) (h : Heap) : Prop :=
  IsPair h TI (.ref i1) (.ref i2) ∧ h.IsTupleIter i1 l1 i ∧ h.IsTupleIter i2 l2 i ∧ h.IsTuple l1 xs ∧ h.IsTuple l2 ys ∧ ((IsZip h z TI TO .none ∧ ∃ a b, IsPair h TO a b) ∨ ∃ T f oT, IsZipHeld h z TI TO T f ∧ h.get? T = some oT ∧ T ≠ z ∧ T ≠ i1 ∧ T ≠ i2 ∧ T ≠ S ∧ 0 < i)
theorem gives_zipT {prog : Program} {w : World} {z TI TO i1 i2 l1 l2 S : Addr} {xs ys : Array Value} (D : ZipApart z TI TO i1 i2 l1 l2) (len : xs.size = ys.size) (off : ∀ b ∈ [z, TI, TO, i1, i2, l1, l2], S ≠ b) :
    Gives2 prog w z S [z, TO, i1, i2] xs.size (fun i k v => xs[i]? = some k ∧ ys[i]? = some v) (ZipSt z TI TO i1 i2 l1 l2 S xs ys) := by
  have no : ∀ {b : Addr}, b ∈ [z, TI, TO, i1, i2, l1, l2] → b ∉ [S] := fun h y => off _ h (List.mem_singleton.mp y).symm
  have out : ∀ {s h' : Heap}, (∀ c o, c ≠ z → c ≠ TO → c ≠ i1 → c ≠ i2 → s.get? c = some o → h'.get? c = some o) → Kp [z, TO, i1, i2] s h' := fun k c o hc x => k c o (fun y => hc (by simp [y])) (fun y => hc (by simp [y])) (fun y => hc (by simp [y])) (fun y => hc (by simp [y])) x
  refine ⟨fun y => ?_, fun {i h h'} st kp => ?_, fun {A i s Q E} lt st lS hQ => ?_, fun {A s Q E} hh st hQ => ?_⟩
  · exact off S (by simp only [List.mem_cons, List.not_mem_nil, or_false] at y ⊢; rcases y with y | y | y | y <;> simp [y]) rfl
  · obtain ⟨p, a1, a2, b1, b2, st⟩ := st
    refine ⟨kp _ _ (no (by simp)) p, a1.at fun o x => kp _ o (no (by simp)) x, a2.at fun o x => kp _ o (no (by simp)) x, b1.at fun o x => kp _ o (no (by simp)) x, b2.at fun o x => kp _ o (no (by simp)) x, ?_⟩
    rcases st with ⟨hz, a, b, q⟩ | ⟨T, f, oT, hz, hT, t1, t2, t3, t4, i0⟩
    · exact .inl ⟨kp _ _ (no (by simp)) hz, a, b, kp _ _ (no (by simp)) q⟩
    · exact .inr ⟨T, f, oT, kp _ _ (no (by simp)) hz, kp _ _ (fun y => t4 (by simpa using y)) hT, t1, t2, t3, t4, i0⟩
  · obtain ⟨p, a1, a2, b1, b2, st⟩ := st
    have ex := Array.getElem?_eq_getElem lt
    have ey := Array.getElem?_eq_getElem (show i < ys.size by omega)
    have ne : ∀ {c : Addr} {o : Obj}, s.heap.get? c = some o → s.heap.objs.size ≠ c := fun x => Nat.ne_of_gt (Heap.lt_size x)
    have m1 : s.heap.objs.size ≠ i1 := by obtain ⟨_, x, _⟩ := a1; exact ne x
    have m2 : s.heap.objs.size ≠ i2 := by obtain ⟨_, x, _⟩ := a2; exact ne x
    rcases st with ⟨hz, a, b, q⟩ | ⟨T, f, oT, hz, hT, t1, t2, t3, t4, i0⟩
    · exact RZ.pyNext_zipT_item D hz p q a1 a2 b1 b2 ex ey fun h' c1 c2 c3 c4 c5 _ k => hQ _ _ h' s.toks ⟨ex, ey⟩ c5
        ⟨k _ _ D.TIz D.TITO D.TIi1 D.TIi2 p, c3, c4, b1.at fun o x => k _ o D.l1z D.l1TO D.l1i1 D.l1i2 x, b2.at fun o x => k _ o D.l2z D.l2TO D.l2i1 D.l2i2 x, .inr ⟨s.heap.objs.size, false, _, c1, c5, ne hz, m1, m2, Nat.ne_of_gt lS, Nat.succ_pos i⟩⟩ (out k)
    · exact zipT_item_held D hz hT p a1 a2 b1 b2 ex ey fun h' c1 c3 c4 c5 k => hQ _ _ h' s.toks ⟨ex, ey⟩ c5
        ⟨k _ _ D.TIz D.TIi1 D.TIi2 p, c3, c4, b1.at fun o x => k _ o D.l1z D.l1i1 D.l1i2 x, b2.at fun o x => k _ o D.l2z D.l2i1 D.l2i2 x, .inr ⟨T, true, oT, c1, k _ _ t1 t2 t3 hT, t1, t2, t3, t4, Nat.succ_pos i⟩⟩ (out fun c o d1 _ d3 d4 x => k c o d1 d3 d4 x)
  · obtain ⟨p, a1, a2, b1, b2, st⟩ := st
    have ex : xs[xs.size]? = none := Array.getElem?_eq_none (Nat.le_refl _)
    rcases st with ⟨hz, a, b, q⟩ | ⟨T, f, oT, hz, hT, t1, t2, t3, t4, i0⟩
    · exact RZ.pyNext_zipT_end hh D hz p q a1 a2 b1 b2 (.inl ex) fun h' k => hQ h' s.toks (out k)
    · exact zipT_end_held hh D hz hT p a1 b1 ex fun h' k => hQ h' s.toks (out fun c o d1 _ d3 _ x => k c o d1 d3 x)
def zipK (ns : List Int) (ys : List V) : List (Key × V) := (ns.zip ys).map fun p => (.inl p.1, p.2)
theorem zipK_get (ns : List Int) (ys : List V) (i : Nat) {n : Int} {y : V} (hn : ns[i]? = some n) (hy : ys[i]? = some y) : (zipK ns ys)[i]? = some (.inl n, y) := by
  unfold zipK
  have e : (ns.zip ys)[i]? = some (n, y) := by
    rw [List.getElem?_zip_eq_some]
    exact ⟨hn, hy⟩
  rw [List.getElem?_map, e]
  rfl
def tListZip (K : PySem.W.Frag) (ta : TA) : TE := fun σ H Q => ta σ H fun vs H1 => ∃ (a b : Addr) (ns : List Int) (ys : List V), vs = [.ref a, .ref b] ∧ SqT K H1 a (ns.map V.int) ∧ SqT K H1 b ys ∧ ns.length = ys.length ∧
  ∀ (H2 : Hp) (L : Addr) (as : List Addr), Same H1 H2 → H1 L = none → H2 L = some (.lst (as.map V.ref)) → as.length = ns.length → (∀ (i : Nat) (t : Addr), as[i]? = some t → ∃ (n : Int) (y : V), ns[i]? = some n ∧ ys[i]? = some y ∧ H2 t = some (.tup [.int n, y])) → Q (.ref L) H2
section
variable {X : Cx} {e1 e2 : Expr} {ta : TA} {p1 p2 p3 p4 : Pos}
theorem pe_listZip (hc : X.calm = true) (hg1 : Gl X "list") (hm1 : X.mg "list" = none) (hg2 : Gl X "zip") (hm2 : X.mg "zip" = none) (ha : PA X [e1, e2] ta)
    (h1 : starEach [.Call (.Name "zip" p2) [e1, e2] [] p3] X.env = (false, eval (.Call (.Name "zip" p2) [e1, e2] [] p3) X.env) :: starEach [] X.env := by rfl)
    (h2 : starEach [e1, e2] X.env = (false, eval e1 X.env) :: starEach [e2] X.env := by rfl) (h3 : (backTo p3 (starEach [e2] X.env)).any (·.1) = false := by rfl) :
    PE X (.Call (.Name "list" p1) [.Call (.Name "zip" p2) [e1, e2] [] p3] [] p4) (tListZip X.K ta) := by
  refine ⟨fun pins s σ H Q I h => ?_⟩
  refine wpAny_Call_Name_kw (ld_blt I hg1 hm1 (by first | rfl | decide +kernel) (callWith_type1 ?_ h1 (by rfl)))
  rw [h1]
  show wpAny _ _ (spliced ((false, eval (.Call (.Name "zip" p2) [e1, e2] [] p3) X.env) :: backTo p4 (starEach [] X.env))) _ _ s
  refine Calls.spliced_cons ?_
  refine wpAny_Call_Name_kw (ld_blt I hg2 hm2 (by first | rfl | decide +kernel) (callWith_type1 (thn (ha.run p3 pins s σ H _ I h) fun us s1 ⟨vs, H1, I1, rv, a, b, ns, ys, ev, hqa, hqb, len, q⟩ => ?_) h2 h3))
  subst ev
  cases rv with
  | cons r rr =>
    cases rr with
    | cons r' rr =>
      cases rr
      cases r
      cases r'
      obtain ⟨its, rs, pl, hz⟩ := I1.tuple hqa
      obtain ⟨its2, rs2, pl2, _⟩ := I1.tuple hqb
      have l1 := rs.length
      have l2 := rs2.length
      rw [List.length_map] at l1 hz
      refine RZ.call_zipT (show s1.heap.IsTuple a its.toArray from pl) (show s1.heap.IsTuple b its2.toArray from pl2) fun h' hZ hTI hTO b1 b2 hsz hk => ?_
      refine Calls.spliced_nil ?_
      have la : a < s1.heap.objs.size := by obtain ⟨o, ho, _⟩ := id pl; exact Heap.lt_size ho
      have lb : b < s1.heap.objs.size := by obtain ⟨o, ho, _⟩ := id pl2; exact Heap.lt_size ho
      have S5 : h'.objs.size = s1.heap.objs.size + 5 := hsz
      have under : ∀ c ∈ [s1.heap.objs.size + 4, s1.heap.objs.size + 2, s1.heap.objs.size + 3, s1.heap.objs.size, s1.heap.objs.size + 1, a, b], c < h'.objs.size := fun c hc => by
        rw [S5]
        simp only [List.mem_cons, List.not_mem_nil, or_false] at hc
        have p5 : ∀ k, k < 5 → s1.heap.objs.size + k < s1.heap.objs.size + 5 := fun k hk => Nat.add_lt_add_left hk _
        rcases hc with y | y | y | y | y | y | y <;> rw [y]
        · exact p5 4 (by decide)
        · exact p5 2 (by decide)
        · exact p5 3 (by decide)
        · exact p5 0 (by decide)
        · exact p5 1 (by decide)
        · exact Nat.lt_of_lt_of_le la (Nat.le_add_right _ _)
        · exact Nat.lt_of_lt_of_le lb (Nat.le_add_right _ _)
      have gv := gives_zipT (prog := X.prog) (w := X.w) (S := h'.objs.size) (xs := its.toArray) (ys := its2.toArray) (PySem.W.ktu_apart s1.heap.objs.size a b la lb) (by rw [List.size_toArray, List.size_toArray]; omega) fun c hc => Nat.ne_of_gt (under c hc)
      refine list_two (s := { s1 with heap := h' }) (T := "zip") (I.ok.hd hc) gv ⟨hTI, b1, b2, ?_, ?_, .inl ⟨hZ, _, _, hTO⟩⟩ (fun c hc => under c ?_) (under _ (by simp)) (by rw [List.size_toArray]; omega) (fun h st => ?_) noLen_zip noHint_zip (by decide) (by decide) (fun {A s Q E} st q => ?_) fun h2 tk acc c as kp hS hl g hacc => ?_
      · obtain ⟨o, ho, r⟩ := id pl
        exact ⟨o, hk _ o ho, r⟩
      · obtain ⟨o, ho, r⟩ := id pl2
        exact ⟨o, hk _ o ho, r⟩
      · simp only [List.mem_cons, List.not_mem_nil, or_false] at hc ⊢
        rcases hc with y | y | y | y <;> simp [y]
      · rcases st.2.2.2.2.2 with ⟨x, _⟩ | ⟨T, f, oT, x, _⟩
        · exact ⟨_, x, rfl⟩
        · exact ⟨_, x, rfl⟩
      · rcases st.2.2.2.2.2 with ⟨x, _⟩ | ⟨T, f, oT, x, _, _, _, _, _, i0⟩
        · exact wpAny_pyIter_zip x q
        · exact absurd i0 (Nat.lt_irrefl 0)
      · have old : ∀ d o, s1.heap.get? d = some o → h2.get? d = some o := fun d o x => kp d o (fun y => by
          have lt := Heap.lt_size x
          simp only [List.mem_cons, List.not_mem_nil, or_false] at y
          rcases y with y | y | y | y <;> rw [y] at lt <;> first | exact absurd lt (Nat.not_lt.mpr (Nat.le_add_right _ _)) | exact absurd lt (Nat.lt_irrefl _)) (hk d o x)
        have rel : ∀ (j : Nat) (k v : Value), (its.toArray[j]? = some k ∧ its2.toArray[j]? = some v) → ∃ q, (zipK ns ys)[j]? = some q ∧ RelV (kV q.1) k ∧ RelV q.2 v := fun j k v ⟨ek, ev⟩ => by
          have lj : j < ns.length := by
            have := (Array.getElem?_eq_some_iff.mp ek).1
            rw [List.size_toArray] at this
            omega
          have lj2 : j < ys.length := by omega
          obtain ⟨u, hu, ru⟩ := rs.get (show (ns.map V.int)[j]? = some (V.int ns[j]) by rw [List.getElem?_map, List.getElem?_eq_getElem lj]; rfl)
          obtain ⟨u2, hu2, ru2⟩ := rs2.get (List.getElem?_eq_getElem lj2)
          rw [List.getElem?_toArray, hu] at ek
          rw [List.getElem?_toArray, hu2] at ev
          cases ek
          cases ev
          exact ⟨(.inl ns[j], ys[j]), zipK_get ns ys j (List.getElem?_eq_getElem lj) (List.getElem?_eq_getElem lj2), ru, ru2⟩
        have zl : (zipK ns ys).length = ns.length := by
          unfold zipK
          rw [List.length_map, List.length_zip]
          omega
        obtain ⟨H2, s12, nL, atL, all, J⟩ := pairs_laid (kvs := zipK ns ys) (tk := tk) I1 (S := h'.objs.size) (by rw [S5]; exact Nat.le_add_right _ _) old hS (by rw [hl, zl, List.size_toArray]; omega) (by rw [zl]; exact hz) g rel hacc
        refine ⟨.ref h'.objs.size, H2, J, rfl, q H2 _ as s12 nL atL (by rw [hl, List.size_toArray]; omega) fun i t hi => ?_⟩
        obtain ⟨y, hy, f⟩ := LiI.paired_get all hi
        have il : i < ns.length := by
          have := (List.getElem?_eq_some_iff.mp hi).1
          rw [hl, List.size_toArray] at this
          omega
        rw [zipK_get ns ys i (List.getElem?_eq_getElem il) (List.getElem?_eq_getElem (show i < ys.length by omega))] at hy
        cases hy
        exact ⟨ns[i], ys[i], List.getElem?_eq_getElem il, List.getElem?_eq_getElem _, f⟩
end
end LL

namespace LG
/-! ### two, or three, that leave nothing; none that do -/
def Bad2 (r s : Row) : Prop := ∀ p q : Int, 0 < p → 0 < q → p * r.a + q * s.a = 0 → p * r.b + q * s.b = 0 → ¬ p * r.c + q * s.c < 0
def Bad3 (r s t : Row) : Prop := ¬ (0 < cross s t ∧ 0 < cross t r ∧ 0 < cross r s ∧ cross s t * r.c + cross t r * s.c + cross r s * t.c < 0) ∧ ¬ (cross s t < 0 ∧ cross t r < 0 ∧ cross r s < 0 ∧ 0 < cross s t * r.c + cross t r * s.c + cross r s * t.c)
theorem sq_nn (x : Int) : 0 ≤ x * x := by
  rcases Int.le_total 0 x with z | z
  · exact Int.mul_nonneg z z
  · exact Int.mul_nonneg_of_nonpos_of_nonpos z z
theorem bad2_no {r s : Row} (h : r.a * s.b - r.b * s.a ≠ 0 ∨ r.a * s.a + r.b * s.b > 0) : Bad2 r s := by
  intro p q hp hq ea eb _
  rcases h with h | h
  · have : q * (r.a * s.b - r.b * s.a) = 0 := by
      have e1 : q * s.a = -(p * r.a) := by omega
      have e2 : q * s.b = -(p * r.b) := by omega
      have : q * (r.a * s.b - r.b * s.a) = r.a * (q * s.b) - r.b * (q * s.a) := by grind
      rw [this, e1, e2]
      grind
    exact h ((Int.mul_eq_zero.mp this).resolve_left (by omega))
  · have e1 : q * s.a = -(p * r.a) := by omega
    have e2 : q * s.b = -(p * r.b) := by omega
    have e : q * (r.a * s.a + r.b * s.b) = -(p * (r.a * r.a + r.b * r.b)) := by
      have : q * (r.a * s.a + r.b * s.b) = r.a * (q * s.a) + r.b * (q * s.b) := by grind
      rw [this, e1, e2]
      grind
    have z1 := Int.mul_pos hq h
    have z2 := Int.mul_nonneg (show 0 ≤ p by omega) (show 0 ≤ r.a * r.a + r.b * r.b by have := sq_nn r.a; have := sq_nn r.b; omega)
    omega
theorem bad2_yes {r s : Row} {u v : Int} (nz : ¬ (r.a = 0 ∧ r.b = 0)) (hu : 0 < u) (e1 : u * r.a + v * s.a = 0) (e2 : u * r.b + v * s.b = 0) (n : ¬ u * r.c + v * s.c < 0) : Bad2 r s := by
  intro p q hp hq ea eb h
  have key : u * q = p * v := by
    have f : ∀ {x y : Int}, u * x + v * y = 0 → p * x + q * y = 0 → (u * q - p * v) * x = 0 := fun {x y} h1 h2 => by
      have : (u * q - p * v) * x = q * (u * x + v * y) - v * (p * x + q * y) := by grind
      rw [this, h1, h2]
      simp
    rcases Int.mul_eq_zero.mp (f e1 ea) with k | k
    · omega
    · rcases Int.mul_eq_zero.mp (f e2 eb) with k2 | k2
      · omega
      · exact absurd ⟨k, k2⟩ nz
  have e : u * (p * r.c + q * s.c) = p * (u * r.c + v * s.c) := by
    have : u * (p * r.c + q * s.c) = p * (u * r.c) + (u * q) * s.c := by grind
    rw [this, key]
    grind
  have z1 := Int.mul_neg_of_pos_of_neg hu h
  have z2 := Int.mul_nonneg (show 0 ≤ p by omega) (show 0 ≤ u * r.c + v * s.c by omega)
  omega
theorem bad3_yes {r s t : Row} {u v w k : Int} (hu : 0 < u) (e1 : cross s t = k * u) (e2 : cross t r = k * v) (e3 : cross r s = k * w) (n : ¬ u * r.c + v * s.c + w * t.c < 0) : Bad3 r s t := by
  have e : cross s t * r.c + cross t r * s.c + cross r s * t.c = k * (u * r.c + v * s.c + w * t.c) := by
    rw [e1, e2, e3]
    grind
  rw [Bad3, e]
  constructor
  · rintro ⟨x, _, _, z⟩
    rw [e1] at x
    have kp : 0 < k := Int.pos_of_mul_pos_left x (by omega)
    have := Int.mul_nonneg (show 0 ≤ k by omega) (show 0 ≤ u * r.c + v * s.c + w * t.c by omega)
    omega
  · rintro ⟨x, _, _, z⟩
    rw [e1] at x
    have kn : k ≤ 0 := by
      apply Classical.byContradiction
      intro c
      have := Int.mul_pos (show 0 < k by omega) hu
      omega
    have := Int.mul_nonpos_of_nonpos_of_nonneg kn (show 0 ≤ u * r.c + v * s.c + w * t.c by omega)
    omega
theorem cross_anti (r s : Row) : cross s r = -(cross r s) := by
  unfold cross
  grind
theorem cross_same (r : Row) : cross r r = 0 := by
  unfold cross
  grind
/-- no two, no three of a list: then some land is left -/
theorem some_left {n : Int} (hn : 0 ≤ n) {fs : List Row} (hf : ∀ r ∈ fs, Nz r) (two : ∀ (i j : Nat) (r s : Row), i < j → (rowsOf n fs)[i]? = some r → (rowsOf n fs)[j]? = some s → Bad2 r s)
    (three : ∀ (i j k : Nat) (r s t : Row), i < j → j < k → (rowsOf n fs)[i]? = some r → (rowsOf n fs)[j]? = some s → (rowsOf n fs)[k]? = some t → Bad3 r s t) : ∃ p, Kept (rowsOf n fs) p := by
  apply Classical.byContradiction
  intro no
  rcases nothing_shape hn hf (fun p k => no ⟨p, k⟩) with ⟨r, s, p, q, h⟩ | ⟨r, s, t, h⟩
  · obtain ⟨i, hi⟩ := List.mem_iff_getElem?.mp h.hr
    obtain ⟨j, hj⟩ := List.mem_iff_getElem?.mp h.hs
    have pp := h.pp
    have qp := h.qp
    have ea := h.ea
    have eb := h.eb
    have ec := h.ec
    rcases Nat.lt_trichotomy i j with z | z | z
    · exact two i j r s z hi hj p q pp qp ea eb ec
    · subst z
      rw [hi] at hj
      cases hj
      have nz : Nz r := by
        rcases List.mem_append.mp h.hr with k | k
        · exact hf r k
        · exact edges_nz r k
      refine nz ⟨?_, ?_⟩
      · have : (p + q) * r.a = 0 := by rw [Int.add_mul]; omega
        exact (Int.mul_eq_zero.mp this).resolve_left (by omega)
      · have : (p + q) * r.b = 0 := by rw [Int.add_mul]; omega
        exact (Int.mul_eq_zero.mp this).resolve_left (by omega)
    · exact two j i s r z hj hi q p qp pp (by omega) (by omega) (by omega)
  · obtain ⟨i, hi⟩ := List.mem_iff_getElem?.mp h.hr
    obtain ⟨j, hj⟩ := List.mem_iff_getElem?.mp h.hs
    obtain ⟨k, hk⟩ := List.mem_iff_getElem?.mp h.ht
    have x := h.x
    have y := h.y
    have z := h.z
    have ec := h.ec
    have ij : i ≠ j := fun e => by
      subst e
      rw [hi] at hj
      cases hj
      rw [cross_same] at z
      omega
    have jk : j ≠ k := fun e => by
      subst e
      rw [hj] at hk
      cases hk
      rw [cross_same] at x
      omega
    have ki : k ≠ i := fun e => by
      subst e
      rw [hk] at hi
      cases hi
      rw [cross_same] at y
      omega
    have even : ∀ {r s t : Row}, 0 < cross s t → 0 < cross t r → 0 < cross r s → cross s t * r.c + cross t r * s.c + cross r s * t.c < 0 → ¬ Bad3 r s t := fun a b c d h => h.1 ⟨a, b, c, d⟩
    have odd : ∀ {r s t : Row}, 0 < cross t s → 0 < cross r t → 0 < cross s r → cross t s * r.c + cross r t * s.c + cross s r * t.c < 0 → ¬ Bad3 r s t := fun {r s t} a b c d h => h.2 (by
      rw [cross_anti t s, cross_anti r t, cross_anti s r]
      refine ⟨by omega, by omega, by omega, ?_⟩
      rw [Int.neg_mul, Int.neg_mul, Int.neg_mul]
      omega)
    rcases Nat.lt_or_gt_of_ne ij with a | a
    · rcases Nat.lt_or_gt_of_ne jk with b | b
      · exact even x y z ec (three i j k r s t a b hi hj hk)
      · rcases Nat.lt_or_gt_of_ne ki with c | c
        · exact even z x y (by omega) (three k i j t r s c a hk hi hj)
        · exact odd x z y (by omega) (three i k j r t s c b hi hk hj)
    · rcases Nat.lt_or_gt_of_ne jk with b | b
      · rcases Nat.lt_or_gt_of_ne ki with c | c
        · exact even y z x (by omega) (three j k i s t r b c hj hk hi)
        · exact odd y x z (by omega) (three j i k s r t a c hj hi hk)
      · exact odd z y x (by omega) (three k j i t s r b a hk hj hi)
theorem none_of2 {R : List Row} {r s : Row} {u v : Int} (hr : r ∈ R) (hs : s ∈ R) (hu : 0 < u) (hv : 0 < v) (ea : u * r.a + v * s.a = 0) (eb : u * r.b + v * s.b = 0) (ec : u * r.c + v * s.c < 0) : ∀ p, ¬ Kept R p := by
  intro p k
  have e : u * rch r p + v * rch s p = (u * r.a + v * s.a) * p.x + (u * r.b + v * s.b) * p.y - (u * r.c + v * s.c) * p.w := by
    unfold rch
    grind
  rw [ea, eb] at e
  have z1 := Int.mul_nonpos_of_nonneg_of_nonpos (show 0 ≤ u by omega) (k.le r hr)
  have z2 := Int.mul_nonpos_of_nonneg_of_nonpos (show 0 ≤ v by omega) (k.le s hs)
  have z3 := Int.mul_neg_of_neg_of_pos ec k.pos
  omega
theorem none_of3 {R : List Row} {r s t : Row} {u v m : Int} (hr : r ∈ R) (hs : s ∈ R) (ht : t ∈ R) (hu : 0 < u) (hv : 0 < v) (hm : 0 < m) (ea : u * r.a + v * s.a + m * t.a = 0) (eb : u * r.b + v * s.b + m * t.b = 0) (ec : u * r.c + v * s.c + m * t.c < 0) : ∀ p, ¬ Kept R p := by
  intro p k
  have e : u * rch r p + v * rch s p + m * rch t p = (u * r.a + v * s.a + m * t.a) * p.x + (u * r.b + v * s.b + m * t.b) * p.y - (u * r.c + v * s.c + m * t.c) * p.w := by
    unfold rch
    grind
  rw [ea, eb] at e
  have z1 := Int.mul_nonpos_of_nonneg_of_nonpos (show 0 ≤ u by omega) (k.le r hr)
  have z2 := Int.mul_nonpos_of_nonneg_of_nonpos (show 0 ≤ v by omega) (k.le s hs)
  have z4 := Int.mul_nonpos_of_nonneg_of_nonpos (show 0 ≤ m by omega) (k.le t ht)
  have z3 := Int.mul_neg_of_neg_of_pos ec k.pos
  omega
end LG
namespace LL
open PySem PySem.Spec PySem.Calls PyProof.Rows L2
theorem walk_zipT {K : PySem.W.Frag} {a b : Addr} {xs ys : List V} (len : xs.length = ys.length) : Walk (RZ.ItzT K a b) xs.length (fun H => SqT K H a xs ∧ SqT K H b ys) (YPair (fun i => xs[i]?) (fun i => ys[i]?)) := by
  refine ⟨fun i _ hi q => ⟨xs, ys, xs[i], ys[i]'(by omega), q.1, q.2, by simp [hi], by simp [show i < ys.length by omega]⟩, fun _ q => ⟨xs, ys, q.1, q.2, .inl (Nat.le_refl _)⟩, fun i H v H' _ q y => ?_⟩
  obtain ⟨T, x, z, h1, h2, h3, h4, h5⟩ := y
  exact ⟨T, x, z, h1, h2, h3, h4 xs q.1, h5 ys q.2⟩
/-- how the last numbers come, taken so often -/
def lastBy (us : List Int) (rs : List LG.Row) : Int := ((rs.zip us).map fun p => p.2 * p.1.c).sum
def sp_below (K : PySem.W.Frag) : Sp := fun vs H Q _ => ∃ (f o : Addr) (ps : List Addr) (rs : List LG.Row) (us : List Int), vs = [.ref f, .ref o] ∧ SqT K H f (ps.map V.ref) ∧ At rowHO H ps rs ∧ SqT K H o (us.map V.int) ∧ us.length = rs.length ∧ rs.length ≤ 3 ∧ (∀ r ∈ rs, Sz 1000 r.c) ∧ (∀ u ∈ us, Sz 1000 u) ∧
  ∀ H', Same H H' → Q (.bl (decide (lastBy us rs < 0))) H'
theorem Same.seqT {H H' : Hp} (s : Same H H') {K : PySem.W.Frag} {a : Addr} {xs : List V} (h : SqT K H a xs) : SqT K H' a xs := by
  rcases h with (e | ⟨o, e⟩) | h
  · exact .inl (.inl (s _ _ e))
  · exact .inl (.inr ⟨o, s _ _ e⟩)
  · exact .inr h
theorem pairs_at {H : Hp} {L : Addr} {as : List Addr} {ns us : List Int} (atL : H L = some (.lst (as.map V.ref))) (len : as.length = ns.length) (lu : us.length = ns.length)
    (items : ∀ (i : Nat) (t : Addr), as[i]? = some t → ∃ (n : Int) (y : V), ns[i]? = some n ∧ (us.map V.int)[i]? = some y ∧ H t = some (.tup [.int n, y])) : PairL H L as (ns.zip us) := by
  refine ⟨atL, ?_⟩
  refine List.ext_getElem? fun i => ?_
  rw [List.getElem?_map, List.getElem?_map]
  by_cases c : i < as.length
  · obtain ⟨n, y, hn, hy, e⟩ := items i as[i] (List.getElem?_eq_getElem c)
    rw [List.getElem?_map] at hy
    have z : (ns.zip us)[i]? = some (n, us[i]'(by omega)) := by
      rw [List.getElem?_zip_eq_some]
      exact ⟨hn, List.getElem?_eq_getElem _⟩
    rw [List.getElem?_eq_getElem (show i < us.length by omega)] at hy
    cases hy
    rw [List.getElem?_eq_getElem c, z]
    show some (H as[i]) = some (some (pairHO _))
    rw [e]
    rfl
  · rw [List.getElem?_eq_none (by omega), List.getElem?_eq_none (by rw [List.length_zip]; omega)]
    rfl
theorem rowAt_of {rs : List LG.Row} {x : Nat} {r : LG.Row} (h : rs[x]? = some r) : rowAt rs (x : Nat) = r := by
  show rs.getD x ⟨0, 0, 0⟩ = r
  rw [List.getD_eq_getElem?_getD, h]
  rfl
theorem whyP2 {rs : List LG.Row} {x y : Nat} {r s : LG.Row} {u v : Int} (xy : x < y) (hx : rs[x]? = some r) (hy : rs[y]? = some s) (hu : 0 < u) (hv : 0 < v) (su : Sz 1000 u) (sv : Sz 1000 v) (ea : u * r.a + v * s.a = 0) (eb : u * r.b + v * s.b = 0) (ec : u * r.c + v * s.c < 0) :
    WhyP rs [(((x : Nat) : Int), u), (((y : Nat) : Int), v)] := by
  have lx := (List.getElem?_eq_some_iff.mp hx).1
  have ly := (List.getElem?_eq_some_iff.mp hy).1
  have all : ∀ {Pr : Int × Int → Prop}, Pr (((x : Nat) : Int), u) → Pr (((y : Nat) : Int), v) → ∀ k ∈ [(((x : Nat) : Int), u), (((y : Nat) : Int), v)], Pr k := fun {Pr} h1 h2 k hk => by
    simp only [List.mem_cons, List.not_mem_nil, or_false] at hk
    rcases hk with e | e <;> rw [e] <;> assumption
  refine ⟨⟨?_, all (Int.natCast_nonneg _) (Int.natCast_nonneg _), all (Pr := fun k => k.1 < rs.length) (by show (x : Int) < _; omega) (by show (y : Int) < _; omega), all (Pr := fun k => 1 ≤ k.2) hu hv, all (Pr := fun k => Sz 1000 k.2) su sv⟩, by simp, by simp, ?_, ?_, ?_⟩
  · refine List.pairwise_cons.mpr ⟨fun k hk => ?_, List.pairwise_singleton _ _⟩
    have e : k = (((y : Nat) : Int), v) := by simpa using hk
    rw [e]
    show (x : Int) < (y : Int)
    omega
  · show u * (rowAt rs (x : Nat)).a + (v * (rowAt rs (y : Nat)).a + 0) = 0
    rw [rowAt_of hx, rowAt_of hy]
    omega
  · show u * (rowAt rs (x : Nat)).b + (v * (rowAt rs (y : Nat)).b + 0) = 0
    rw [rowAt_of hx, rowAt_of hy]
    omega
  · show u * (rowAt rs (x : Nat)).c + (v * (rowAt rs (y : Nat)).c + 0) < 0
    rw [rowAt_of hx, rowAt_of hy]
    omega
theorem whyP3 {rs : List LG.Row} {x y z : Nat} {r s t : LG.Row} {u v w : Int} (xy : x < y) (yz : y < z) (hx : rs[x]? = some r) (hy : rs[y]? = some s) (hz : rs[z]? = some t) (hu : 0 < u) (hv : 0 < v) (hw : 0 < w) (su : Sz 1000 u) (sv : Sz 1000 v) (sw : Sz 1000 w)
    (ea : u * r.a + v * s.a + w * t.a = 0) (eb : u * r.b + v * s.b + w * t.b = 0) (ec : u * r.c + v * s.c + w * t.c < 0) : WhyP rs [(((x : Nat) : Int), u), (((y : Nat) : Int), v), (((z : Nat) : Int), w)] := by
  have lx := (List.getElem?_eq_some_iff.mp hx).1
  have ly := (List.getElem?_eq_some_iff.mp hy).1
  have lz := (List.getElem?_eq_some_iff.mp hz).1
  have all : ∀ {Pr : Int × Int → Prop}, Pr (((x : Nat) : Int), u) → Pr (((y : Nat) : Int), v) → Pr (((z : Nat) : Int), w) → ∀ k ∈ [(((x : Nat) : Int), u), (((y : Nat) : Int), v), (((z : Nat) : Int), w)], Pr k := fun {Pr} h1 h2 h3 k hk => by
    simp only [List.mem_cons, List.not_mem_nil, or_false] at hk
    rcases hk with e | e | e <;> rw [e] <;> assumption
  refine ⟨⟨?_, all (Int.natCast_nonneg _) (Int.natCast_nonneg _) (Int.natCast_nonneg _), all (Pr := fun k => k.1 < rs.length) (by show (x : Int) < _; omega) (by show (y : Int) < _; omega) (by show (z : Int) < _; omega), all (Pr := fun k => 1 ≤ k.2) hu hv hw, all (Pr := fun k => Sz 1000 k.2) su sv sw⟩, by simp, by simp, ?_, ?_, ?_⟩
  · refine List.pairwise_cons.mpr ⟨fun k hk => ?_, List.pairwise_cons.mpr ⟨fun k hk => ?_, List.pairwise_singleton _ _⟩⟩
    · simp only [List.mem_cons, List.not_mem_nil, or_false] at hk
      rcases hk with e | e <;> rw [e]
      · show (x : Int) < (y : Int)
        omega
      · show (x : Int) < (z : Int)
        omega
    · have e : k = (((z : Nat) : Int), w) := by simpa using hk
      rw [e]
      show (y : Int) < (z : Int)
      omega
  · show u * (rowAt rs (x : Nat)).a + (v * (rowAt rs (y : Nat)).a + (w * (rowAt rs (z : Nat)).a + 0)) = 0
    rw [rowAt_of hx, rowAt_of hy, rowAt_of hz]
    omega
  · show u * (rowAt rs (x : Nat)).b + (v * (rowAt rs (y : Nat)).b + (w * (rowAt rs (z : Nat)).b + 0)) = 0
    rw [rowAt_of hx, rowAt_of hy, rowAt_of hz]
    omega
  · show u * (rowAt rs (x : Nat)).c + (v * (rowAt rs (y : Nat)).c + (w * (rowAt rs (z : Nat)).c + 0)) < 0
    rw [rowAt_of hx, rowAt_of hy, rowAt_of hz]
    omega
/-- the rows with their numbers, as a list -/
structure Numb (H : Hp) (as : List Addr) (rs : List LG.Row) : Prop where
  len : as.length = rs.length
  get : ∀ (i : Nat) (r : LG.Row), rs[i]? = some r → ∃ t p, as[i]? = some t ∧ H t = some (.tup [.int (i : Nat), .ref p]) ∧ H p = some (rowHO r)
theorem Numb.up {H H' : Hp} {as : List Addr} {rs : List LG.Row} (h : Numb H as rs) (s : Same H H') : Numb H' as rs := ⟨h.len, fun i r e => by
  obtain ⟨t, p, e1, e2, e3⟩ := h.get i r e
  exact ⟨t, p, e1, s _ _ e2, s _ _ e3⟩⟩
theorem numb_of {H : Hp} {l : Addr} {rp as : List Addr} {rs : List LG.Row} (hl : RowL H l rp rs) (len : as.length = (rp.map V.ref).length) (items : ∀ i t, as[i]? = some t → ∃ x, (rp.map V.ref)[i]? = some x ∧ H t = some (.tup [.int (i : Nat), x])) : Numb H as rs := by
  refine ⟨by rw [len, hl.len], fun i r e => ?_⟩
  obtain ⟨p, e1, _, e2⟩ := hl.get e
  have lt : i < as.length := by
    rw [len, hl.len]
    exact (List.getElem?_eq_some_iff.mp e).1
  obtain ⟨x, e3, e4⟩ := items i as[i] (List.getElem?_eq_getElem lt)
  rw [e1] at e3
  cases e3
  exact ⟨as[i], p, List.getElem?_eq_getElem lt, e4, e2⟩
end LL

namespace LL
open PySem PySem.Spec PySem.Calls PyProof.Rows L2
/-! ### a ground's fences, by their numbers -/
abbrev Slot := Option (Addr × LG.Row)
/-- from the number n on -/
def gKf : Nat → List Slot → List (Key × V)
  | _, [] => []
  | n, none :: t => gKf (n + 1) t
  | n, some g :: t => (.inl (n : Int), .ref g.1) :: gKf (n + 1) t
def live : List Slot → List (Addr × LG.Row)
  | [] => []
  | none :: t => live t
  | some g :: t => g :: live t
theorem gKf_app : ∀ (n : Nat) (xs ys : List Slot), gKf n (xs ++ ys) = gKf n xs ++ gKf (n + xs.length) ys
  | n, [], ys => rfl
  | n, none :: t, ys => by
    show gKf (n + 1) (t ++ ys) = gKf (n + 1) t ++ _
    rw [gKf_app (n + 1) t ys, List.length_cons, show n + 1 + t.length = n + (t.length + 1) by omega]
  | n, some g :: t, ys => by
    show _ :: gKf (n + 1) (t ++ ys) = _ :: (gKf (n + 1) t ++ _)
    rw [gKf_app (n + 1) t ys, List.length_cons, show n + 1 + t.length = n + (t.length + 1) by omega]
theorem live_app : ∀ (xs ys : List Slot), live (xs ++ ys) = live xs ++ live ys
  | [], ys => rfl
  | none :: t, ys => live_app t ys
  | some g :: t, ys => by
    show g :: live (t ++ ys) = g :: (live t ++ live ys)
    rw [live_app t ys]
theorem gKf_len : ∀ (n : Nat) (xs : List Slot), (gKf n xs).length = (live xs).length
  | n, [] => rfl
  | n, none :: t => gKf_len (n + 1) t
  | n, some g :: t => congrArg (· + 1) (gKf_len (n + 1) t)
theorem live_le : ∀ xs : List Slot, (live xs).length ≤ xs.length
  | [] => Nat.le_refl _
  | none :: t => Nat.le_succ_of_le (live_le t)
  | some g :: t => Nat.succ_le_succ (live_le t)
theorem live_mem : ∀ {xs : List Slot} {g : Addr × LG.Row}, g ∈ live xs ↔ some g ∈ xs
  | [], g => by constructor <;> exact fun h => absurd h List.not_mem_nil
  | none :: t, g => by
    show g ∈ live t ↔ _
    rw [live_mem (xs := t)]
    simp
  | some x :: t, g => by
    show g ∈ x :: live t ↔ _
    rw [List.mem_cons, live_mem (xs := t), List.mem_cons]
    simp
/-- below n nothing stands -/
theorem gKf_low : ∀ (n : Nat) (xs : List Slot) (k : Int), k < (n : Int) → valV (gKf n xs) (.inl k) = none
  | n, [], k, h => rfl
  | n, none :: t, k, h => gKf_low (n + 1) t k (by omega)
  | n, some g :: t, k, h => by
    show valV ((Sum.inl (n : Int), V.ref g.1) :: gKf (n + 1) t) (.inl k) = none
    rw [valV_neg (by intro z; have : (n : Int) = k := Sum.inl.inj z; omega)]
    exact gKf_low (n + 1) t k (by omega)
/-- beyond the last nothing stands -/
theorem gKf_high : ∀ (n : Nat) (xs : List Slot) (k : Int), (n : Int) + xs.length ≤ k → valV (gKf n xs) (.inl k) = none
  | n, [], k, h => rfl
  | n, none :: t, k, h => gKf_high (n + 1) t k (by simp only [List.length_cons] at h; omega)
  | n, some g :: t, k, h => by
    simp only [List.length_cons] at h
    show valV ((Sum.inl (n : Int), V.ref g.1) :: gKf (n + 1) t) (.inl k) = none
    rw [valV_neg (by intro z; have : (n : Int) = k := Sum.inl.inj z; omega)]
    exact gKf_high (n + 1) t k (by omega)
def slotV : Option Slot → Option V
  | some (some g) => some (.ref g.1)
  | _ => none
theorem gKf_at : ∀ (n : Nat) (xs : List Slot) (i : Nat), valV (gKf n xs) (.inl ((n + i : Nat) : Int)) = slotV xs[i]?
  | n, [], i => rfl
  | n, none :: t, 0 => gKf_low (n + 1) t _ (by omega)
  | n, none :: t, i + 1 => by
    have := gKf_at (n + 1) t i
    rw [show n + 1 + i = n + (i + 1) by omega] at this
    exact this
  | n, some g :: t, 0 => by
    show valV ((Sum.inl (n : Int), V.ref g.1) :: gKf (n + 1) t) _ = _
    rw [valV_pos (by rfl)]
    rfl
  | n, some g :: t, i + 1 => by
    show valV ((Sum.inl (n : Int), V.ref g.1) :: gKf (n + 1) t) _ = _
    rw [valV_neg (by intro z; have : (n : Int) = ((n + (i + 1) : Nat) : Int) := Sum.inl.inj z; omega)]
    have := gKf_at (n + 1) t i
    rw [show n + 1 + i = n + (i + 1) by omega] at this
    exact this
theorem dropK_cons_ne {kv : Key × V} {t : List (Key × V)} {k : Key} (h : kv.1 ≠ k) : dropK (kv :: t) k = kv :: dropK t k := by
  unfold dropK
  rw [List.filter_cons_of_pos (by simpa using h)]
theorem dropK_out : ∀ {kvs : List (Key × V)} {k : Key}, valV kvs k = none → dropK kvs k = kvs
  | [], k, _ => rfl
  | kv :: t, k, h => by
    by_cases e : kv.1 = k
    · rw [valV_pos e] at h
      cases h
    · rw [valV_neg e] at h
      rw [dropK_cons_ne e, dropK_out h]
theorem gKf_drop : ∀ (n : Nat) (xs : List Slot) (i : Nat), i < xs.length → dropK (gKf n xs) (.inl ((n + i : Nat) : Int)) = gKf n (xs.set i none)
  | n, [], i, h => absurd h (Nat.not_lt_zero _)
  | n, none :: t, 0, h => dropK_out (gKf_low (n + 1) t _ (by omega))
  | n, none :: t, i + 1, h => by
    have := gKf_drop (n + 1) t i (by simpa using h)
    rw [show n + 1 + i = n + (i + 1) by omega] at this
    exact this
  | n, some g :: t, 0, h => by
    show dropK ((Sum.inl (n : Int), V.ref g.1) :: gKf (n + 1) t) (.inl (n : Int)) = gKf (n + 1) t
    have : dropK ((Sum.inl (n : Int), V.ref g.1) :: gKf (n + 1) t) (.inl (n : Int)) = dropK (gKf (n + 1) t) (.inl (n : Int)) := by
      unfold dropK
      rw [List.filter_cons_of_neg (by simp)]
    rw [this]
    exact dropK_out (gKf_low (n + 1) t _ (by omega))
  | n, some g :: t, i + 1, h => by
    show dropK ((Sum.inl (n : Int), V.ref g.1) :: gKf (n + 1) t) _ = (Sum.inl (n : Int), V.ref g.1) :: gKf (n + 1) (t.set i none)
    rw [dropK_cons_ne (by intro z; have : (n : Int) = ((n + (i + 1) : Nat) : Int) := Sum.inl.inj z; omega)]
    have := gKf_drop (n + 1) t i (by simpa using h)
    rw [show n + 1 + i = n + (i + 1) by omega] at this
    rw [this]
theorem live_set_le : ∀ (xs : List Slot) (i : Nat), (live (xs.set i none)).length ≤ (live xs).length
  | [], i => Nat.le_refl _
  | none :: t, 0 => Nat.le_refl _
  | some g :: t, 0 => Nat.le_succ _
  | none :: t, i + 1 => live_set_le t i
  | some g :: t, i + 1 => Nat.succ_le_succ (live_set_le t i)
theorem gKf_vals : ∀ (n : Nat) (xs : List Slot), (gKf n xs).map (·.2) = (live xs).map fun g => V.ref g.1
  | n, [] => rfl
  | n, none :: t => gKf_vals (n + 1) t
  | n, some g :: t => congrArg (V.ref g.1 :: ·) (gKf_vals (n + 1) t)
end LL

namespace LL
open PySem PySem.Spec PySem.Calls PyProof.Rows L2
/-! ### list(d.values()) -/
def tListVals (te : TE) : TE := fun σ H Q => te σ H fun x H1 => ∃ (d : Addr) (kvs : List (Key × V)), x = .ref d ∧ H1 d = some (.dK kvs) ∧ ∀ L, H1 L = none → Q (.ref L) (upd H1 L (.lst (kvs.map (·.2))))
section
variable {X : Cx} {e : Expr} {te : TE} {p apos cpos pos : Pos}
theorem pe_listValues (hc : X.calm = true) (he : PE X e te) (hg : Gl X "list") (hm : X.mg "list" = none) (hbase : attributeBase e "values" X.env (eval e X.env) = eval e X.env := by rfl) (hline : (apos.endLine == cpos.line) = true := by rfl)
    (hs : starEach [.Call (.Attribute e "values" apos) [] [] cpos] X.env = (false, eval (.Call (.Attribute e "values" apos) [] [] cpos) X.env) :: starEach [] X.env := by rfl) :
    PE X (.Call (.Name "list" p) [.Call (.Attribute e "values" apos) [] [] cpos] [] pos) (tListVals te) := by
  refine ⟨fun pins s σ H Q I hq => ?_⟩
  refine wpAny_Call_Name_kw (ld_blt I hg hm (by first | rfl | decide +kernel) (callWith_type1 ?_ hs rfl))
  rw [hs]
  show wpAny _ _ (spliced ((false, eval (.Call (.Attribute e "values" apos) [] [] cpos) X.env) :: backTo pos (starEach [] X.env))) _ _ s
  refine Calls.spliced_cons (wpAny_Call_method (T := "dict") (id := "dict.values") hbase rfl hline F.plainAttrs_dict F.slot_dict_values F.type_dict_values (thn (he.run pins s σ H _ I hq) fun u s1 ⟨x, H1, I1, rx, d, kvs, ex, hd, q⟩ => ?_))
  subst ex
  obtain rfl : u = Value.ref d := rx
  obtain ⟨hz, hs0, vs, kv, hdo⟩ := I1.hok d _ hd
  obtain ⟨ep, hat⟩ := hdo.dictAt
  have lk : kvs.length = vs.length := Paired.length kv
  refine ⟨hdo.typeIs, hdo.mapOf.noDict, ?_⟩
  show wpAny _ _ (callWith cpos (.builtin "dict.values") [.ref d] [] []) _ X.xe s1
  refine method_meetsIn F.slot_dict_values F.entry_dict_values rfl (PySem.evalArgs_none ⟨rfl, hdo.typeIs, F.args_dict_values_1 _, _, meets_dict_values (mixKind X.prog X.w) d hs0, ⟨vs, hdo⟩, Calls.spliced_nil ?_⟩)
  refine PySem.W.kdl_call (PySem.W.kdl_values (knd := mixKind X.prog X.w) (kvs := vs) (ep := ep)) (I1.ok.hd hc) ⟨⟨_, Heap.get?_push_size _ rfl, rfl, rfl⟩, hat.push _⟩ (by omega) fun h' tk acc c hk hS hi => ?_
  have z : (s1.heap.push { cls := .type "dict_values", data := .fields #[.ref d] }).objs.size = s1.heap.objs.size + 1 := Heap.size_push ..
  have le : s1.heap.objs.size ≤ (s1.heap.push { cls := .type "dict_values", data := .fields #[.ref d] }).objs.size := by rw [z]; exact Nat.le_succ _
  have vals : Vals (kvs.map (·.2)) acc.toList := by
    have al : acc.toList.length = vs.length := Array.length_toList.trans hi.1
    refine vals_of_at (by rw [List.length_map, al, lk]) fun j x u hx hu => ?_
    rw [Array.getElem?_toList] at hu
    obtain ⟨k, hk2⟩ := hi.2 j u hu
    rw [List.getElem?_map] at hx
    cases hkv : kvs[j]? with
    | none => rw [hkv] at hx; cases hx
    | some kk =>
      rw [hkv] at hx
      cases hx
      obtain ⟨y, hy, f⟩ := LiI.paired_get kv hkv
      rw [hk2] at hy
      cases hy
      exact f.2
  refine ⟨.ref _, upd H1 _ (.lst (kvs.map (·.2))), I1.laid (t' := tk) (fun b o x => hk b o (Heap.get?_push_of_some _ x)) le (show ObjOk X.prog X.w _ _ _ (.lst (kvs.map (·.2))) from ⟨by rw [List.length_map]; exact hz, acc.toList, c, vals, by rw [Array.toArray_toList]; exact hS⟩), rfl, q _ (I1.hok.fresh le)⟩
end
end LL

namespace LL
open PySem PySem.Spec PySem.Calls PyProof.Rows L2
/-! ### methods of a class of the program's own -/
abbrev FnM (K : PySem.W.Frag) (C m q : Str) (st : Stmt) (fd : FuncData) : Prop := FunD K m q (defArgs st) (defBody st) (defScope st) [] [] (He.ma K (He.ga K C) m) fd
structure GoodM (P : Program) (w : World) (K : PySem.W.Frag) (mg : Str → Option Value) (base : Heap) (CX : CXT) (k : Nat) (C m : Str) (ps : List Str) (sp : Sp) : Prop where
  me : Meth K (He.ga K C) m (He.ma K (He.ga K C) m)
  cl : Cls K (He.ga K C)
  ex : ∃ fd, Binds K fd ps [] ∧ FnOk P w K mg base CX k (He.ma K (He.ga K C) m) fd ps sp
structure GoodI (P : Program) (w : World) (K : PySem.W.Frag) (mg : Str → Option Value) (base : Heap) (CX : CXT) (k : Nat) (C : Str) (ps : List Str) (sp : Sp) : Prop where
  made : Mk K (He.ga K C) (He.ma K (He.ga K C) "__init__")
  g : mg C = some (.ref (He.ga K C))
  ex : ∃ fd, Binds K fd ps [] ∧ FnOk P w K mg base CX k (He.ma K (He.ga K C) "__init__") fd ps sp
section
variable {X : Cx} {CX : CXT} {k : Nat} {C m : Str} {ps : List Str} {sp : Sp} {E : XK} {o e : Expr} {es : List Expr} {ta : TE} {t : TA} {p apos pos : Pos}
theorem pe_makeG (G : GoodI X.prog X.w X.K X.mg X.base CX k C ps sp) (hg : Gl X C) (hr : Room (k + 1) X.A) (hx : Passes CX X E) (ha : PA X (e :: es) t) (hdb : (C == ("__debug__" : Str)) = false := by decide)
    (he : starEach (e :: es) X.env = (false, eval e X.env) :: starEach es X.env := by rfl) (hpl : (backTo pos (starEach es X.env)).any (·.1) = false := by rfl) :
    PE X (.Call (.Name C p) (e :: es) [] pos) (tMake (He.ga X.K C) sp [] E t) := by
  obtain ⟨fd, b, F⟩ := G.ex
  exact pe_make G.made F hr hg G.g b .nil hx ha hdb he hpl
theorem pe_methG {pl : Sem Bool} (G : GoodM X.prog X.w X.K X.mg X.base CX k C m ps sp) (hr : Room k X.A) (hx : Passes CX X E) (he : PE X o ta) (ha : PA X (e :: es) t)
    (hst : starEach (e :: es) X.env = (false, eval e X.env) :: starEach es X.env := by rfl) (hpl : (backTo pos (starEach es X.env)).any (·.1) = false := by rfl)
    (ht : eval (.Call (.Attribute o m apos) (e :: es) [] pos) X.env = (do
      let ov ← eval o X.env
      standAt apos.atName
      let (f, first) ← holding [ov] (getMethod ov m pl)
      callWith pos f first (backTo pos (starEach (e :: es) X.env)) (backToKw pos (keywordEach [] X.env))) := by rfl) :
    PE X (.Call (.Attribute o m apos) (e :: es) [] pos) (tMeth (He.ga X.K C) m sp [] E ta t) := by
  obtain ⟨fd, b, F⟩ := G.ex
  exact pe_meth he G.cl G.me F hr b .nil hx ha hst hpl ht
theorem pe_methG0 {pl : Sem Bool} (G : GoodM X.prog X.w X.K X.mg X.base CX k C m ps sp) (hr : Room k X.A) (hx : Passes CX X E) (he : PE X o ta)
    (ht : eval (.Call (.Attribute o m apos) [] [] pos) X.env = (do
      let ov ← eval o X.env
      standAt apos.atName
      let (f, first) ← holding [ov] (getMethod ov m pl)
      callWith pos f first (backTo pos (starEach [] X.env)) (backToKw pos (keywordEach [] X.env))) := by rfl) :
    PE X (.Call (.Attribute o m apos) [] [] pos) (tMeth (He.ga X.K C) m sp [] E ta tNil) := by
  obtain ⟨fd, b, F⟩ := G.ex
  exact pe_meth0 he G.cl G.me F hr b .nil hx ht
end
/-! ### a ground as it stands -/
theorem nq1 : ¬ (("_size" : Str) = "_fences") := by decide +kernel
theorem nq2 : ¬ (("_size" : Str) = "_coming") := by decide +kernel
theorem nq3 : ¬ (("_fences" : Str) = "_coming") := by decide +kernel
def gF (n : Int) (d : Addr) (c : Int) : List (Str × V) := [("_size", .int n), ("_fences", .ref d), ("_coming", .int c)]
theorem gF_made (n : Int) (d : Addr) (c : Int) : putF "_coming" (.int c) (putF "_fences" (.ref d) (putF "_size" (.int n) [])) = gF n d c := by rfl
theorem gF_size (n : Int) (d : Addr) (c : Int) : (gF n d c).lookup ("_size" : Str) = some (.int n) := by rfl
theorem gF_fences (n : Int) (d : Addr) (c : Int) : (gF n d c).lookup ("_fences" : Str) = some (.ref d) := by rfl
theorem gF_coming (n : Int) (d : Addr) (c : Int) : (gF n d c).lookup ("_coming" : Str) = some (.int c) := by rfl
theorem gF_put (n : Int) (d : Addr) (c c' : Int) : putF "_coming" (.int c') (gF n d c) = gF n d c' := by rfl
/-- all but what stands at bs is as it was -/
def SameX (bs : List Addr) (H H' : Hp) : Prop := ∀ b o, b ∉ bs → H b = some o → KeptO H H' b o
theorem Same.x {bs : List Addr} {H H' : Hp} (s : Same H H') : SameX bs H H' := fun b o _ e => s b o e
theorem SameX.not {bs : List Addr} {H H' : Hp} (s : SameX bs H H') {b : Addr} {o : HO} (hb : b ∉ bs) (e : H b = some o) (n : ∀ ps, o ≠ .tbl ps) : H' b = some o := by
  have := s b o hb e
  cases o with
  | tbl ps => exact absurd rfl (n ps)
  | _ => exact this
theorem SameX.trans {bs : List Addr} {H H1 H2 : Hp} (a : SameX bs H H1) (b : SameX bs H1 H2) : SameX bs H H2 := fun c o hc e => by
  cases o with
  | tbl ps =>
    obtain ⟨ps1, e1, t1⟩ := a c _ hc e
    obtain ⟨ps2, e2, t2⟩ := b c _ hc e1
    exact ⟨ps2, e2, fun t => t2 (t1 t)⟩
  | _ => exact b c _ hc (a c _ hc e)
theorem upd_X {bs : List Addr} {H : Hp} {p : Addr} {o o' : HO} (hp : H p = some o) (no : ∀ φ, o ≠ .ext φ) (hb : p ∈ bs) : SameX bs H (upd H p o') := fun b u nb e => by
  have ne : b ≠ p := fun z => nb (z ▸ hb)
  cases u with
  | tbl ps =>
    refine ⟨ps, (upd_ne ne).trans e, fun ⟨t1, t2⟩ => ⟨t1, fun pos cv hc => ?_⟩⟩
    obtain ⟨c, e1, e2⟩ := t2 pos cv hc
    refine ⟨c, e1, (upd_ne (ne_of e2 hp fun z => no _ z.symm)).trans e2⟩
  | _ => exact (upd_ne ne).trans e
theorem SameX.list {bs : List Addr} {H H' : Hp} (s : SameX bs H H') {K : PySem.W.Frag} {a : Addr} {xs : List V} (hb : ∀ b ∈ bs, ∀ o, H b = some o → (∀ xs, o ≠ .lst xs) ∧ ∀ u xs, o ≠ .frz u (.lst xs)) (h : SqL K H a xs) : SqL K H' a xs := by
  have out : ∀ {o : HO}, H a = some o → ((∃ xs, o = .lst xs) ∨ ∃ u xs, o = .frz u (.lst xs)) → a ∉ bs := fun {o} e k z => by
    obtain ⟨n1, n2⟩ := hb a z o e
    rcases k with ⟨xs, k⟩ | ⟨u, xs, k⟩
    · exact n1 xs k
    · exact n2 u xs k
  rcases h with (e | ⟨o, e⟩) | h
  · exact .inl (.inl (s.not (out e (.inl ⟨_, rfl⟩)) e fun ps z => by cases z))
  · exact .inl (.inr ⟨o, s.not (out e (.inr ⟨_, _, rfl⟩)) e fun ps z => by cases z⟩)
  · exact .inr h
/-- its places are two: the instance, its dict of fences -/
structure GroundAt (C : Addr) (H : Hp) (p d : Addr) (n : Int) (rows : List Slot) : Prop where
  ob : ∃ dx, H p = some (.ins C dx (gF n d (rows.length : Nat)))
  dc : H d = some (.dK (gKf 0 rows))
  at_ : ∀ g ∈ live rows, H g.1 = some (rowHO g.2) ∧ FenceR g.2
  n1 : 1 ≤ n
  n2 : n ≤ 1000
  few : (live rows).length ≤ 16
section
variable {C p d : Addr} {H H' : Hp} {n : Int} {rows : List Slot}
theorem GroundAt.up (g : GroundAt C H p d n rows) (s : Same H H') : GroundAt C H' p d n rows := by
  obtain ⟨dx, ob⟩ := g.ob
  exact ⟨⟨dx, s _ _ ob⟩, s _ _ g.dc, fun x hx => ⟨s _ _ (g.at_ x hx).1, (g.at_ x hx).2⟩, g.n1, g.n2, g.few⟩
theorem GroundAt.out (g : GroundAt C H p d n rows) {b : Addr} {o : HO} (e : H b = some o) (n1 : ∀ C dx fs, o ≠ .ins C dx fs) (n2 : ∀ kvs, o ≠ .dK kvs) : b ∉ [p, d] := fun z => by
  obtain ⟨dx, ob⟩ := g.ob
  rcases List.mem_cons.mp z with z | z
  · rw [z, ob] at e
    exact n1 _ _ _ (Option.some.inj e).symm
  · have z : b = d := by simpa using z
    rw [z, g.dc] at e
    exact n2 _ (Option.some.inj e).symm
theorem GroundAt.kept (g : GroundAt C H p d n rows) (s : SameX [p, d] H H') {b : Addr} {o : HO} (e : H b = some o) (n1 : ∀ C dx fs, o ≠ .ins C dx fs) (n2 : ∀ kvs, o ≠ .dK kvs) (n3 : ∀ ps, o ≠ .tbl ps) : H' b = some o := s.not (g.out e n1 n2) e n3
theorem GroundAt.tup (g : GroundAt C H p d n rows) (s : SameX [p, d] H H') {b : Addr} {xs : List V} (e : H b = some (.tup xs)) : H' b = some (.tup xs) := g.kept s e (fun _ _ _ z => by cases z) (fun _ z => by cases z) (fun _ z => by cases z)
theorem GroundAt.lst (g : GroundAt C H p d n rows) (s : SameX [p, d] H H') {b : Addr} {xs : List V} (e : H b = some (.lst xs)) : H' b = some (.lst xs) := g.kept s e (fun _ _ _ z => by cases z) (fun _ z => by cases z) (fun _ z => by cases z)
theorem GroundAt.pd (g : GroundAt C H p d n rows) : p ≠ d := by
  obtain ⟨dx, ob⟩ := g.ob
  exact ne_of ob g.dc (by intro z; cases z)
/-- another ground stays -/
theorem GroundAt.other (g : GroundAt C H p d n rows) (s : SameX [p, d] H H') {q e : Addr} {m : Int} {rs : List Slot} (k : GroundAt C H q e m rs) (n1 : q ≠ p) (n2 : e ≠ d) : GroundAt C H' q e m rs := by
  obtain ⟨dx, ob⟩ := k.ob
  obtain ⟨dy, ob2⟩ := g.ob
  refine ⟨⟨dx, s.not (fun z => ?_) ob fun _ z => (by cases z)⟩, s.not (fun z => ?_) k.dc fun _ z => (by cases z), fun x hx => ⟨g.tup s (k.at_ x hx).1, (k.at_ x hx).2⟩, k.n1, k.n2, k.few⟩
  · rcases List.mem_cons.mp z with z | z
    · exact n1 z
    · have z : q = d := by simpa using z
      rw [z, g.dc] at ob
      cases ob
  · rcases List.mem_cons.mp z with z | z
    · have dc := k.dc
      rw [z, ob2] at dc
      cases dc
    · exact n2 (by simpa using z)
theorem GroundAt.tabs {K : PySem.W.Frag} (g : GroundAt C H p d n rows) (s : SameX [p, d] H H') (t : Tabs K H) : Tabs K H' := by
  obtain ⟨ps, e, q⟩ := t.between
  obtain ⟨ps', e', k⟩ := s _ _ (g.out e (fun _ _ _ z => by cases z) (fun _ z => by cases z)) e
  exact ⟨g.kept s t.kept (fun _ _ _ z => by cases z) (fun _ z => by cases z) (fun _ z => by cases z), ps', e', k q⟩
theorem GroundAt.seq {K : PySem.W.Frag} (g : GroundAt C H p d n rows) (s : SameX [p, d] H H') {a : Addr} {xs : List V} (h : SqL K H a xs) : SqL K H' a xs := by
  obtain ⟨dx, ob⟩ := g.ob
  refine s.list (fun b hb o e => ?_) h
  rcases List.mem_cons.mp hb with z | z
  · rw [z, ob] at e
    cases e
    exact ⟨fun _ z => (by cases z), fun _ _ z => (by cases z)⟩
  · have z : b = d := by simpa using z
    rw [z, g.dc] at e
    cases e
    exact ⟨fun _ z => (by cases z), fun _ _ z => (by cases z)⟩
/-- its fences as a land -/
theorem GroundAt.land {L : Addr} (g : GroundAt C H p d n rows) (hL : H L = some (.lst (((live rows).map Prod.fst).map V.ref))) : Land H n L ((live rows).map Prod.fst) ((live rows).map Prod.snd) := by
  refine ⟨g.n1, g.n2, ⟨hL, ?_⟩, by rw [List.length_map]; exact g.few, fun r hr => ?_⟩
  · show ((live rows).map Prod.fst).map H = ((live rows).map Prod.snd).map _
    rw [List.map_map, List.map_map]
    exact List.map_congr_left fun x hx => (g.at_ x hx).1
  · obtain ⟨x, hx, rfl⟩ := List.mem_map.mp hr
    exact (g.at_ x hx).2
end
/-! ### what its methods promise -/
def sp_g_init (K : PySem.W.Frag) : Sp := fun vs H Q E => ∃ (p dx : Addr) (v : V), vs = [.ref p, v] ∧ Arg H v ∧ H p = some (.ins (He.ga K "Ground") dx []) ∧ (within v 1 1000 = false → E (.ref (He.ga K "BadSize")) none H) ∧
  ∀ n, v = .int n → 1 ≤ n → n ≤ 1000 → ∀ (d : Addr) (H' : Hp), H d = none → GroundAt (He.ga K "Ground") H' p d n [] → SameX [p] H H' → Q .non H'
def sp_g_put (K : PySem.W.Frag) : Sp := fun vs H Q E => ∃ (p d : Addr) (n : Int) (rows : List Slot) (x : V), vs = [.ref p, x] ∧ GroundAt (He.ga K "Ground") H p d n rows ∧ FItem H x ∧ rows.length < 900 ∧ (¬ IsFence H x → ∀ H', Same H H' → E (.ref (He.ga K "BadFence")) none H') ∧
  (IsFence H x → 16 ≤ (live rows).length → ∀ H', Same H H' → E (.ref (He.ga K "TooMany")) none H') ∧
  ∀ (a : Addr) (r : LG.Row), x = .ref a → H a = some (rowHO r) → FenceR r → (live rows).length < 16 → ∀ H', SameX [p, d] H H' → GroundAt (He.ga K "Ground") H' p d n (rows ++ [some (a, r)]) → Q (.int (rows.length : Nat)) H'
/-- the number v stands -/
def Stands (rows : List Slot) (v : V) : Prop := ∃ (i : Nat) (g : Addr × LG.Row), v = .int (i : Nat) ∧ rows[i]? = some (some g)
def sp_g_take (K : PySem.W.Frag) : Sp := fun vs H Q E => ∃ (p d : Addr) (n : Int) (rows : List Slot) (v : V), vs = [.ref p, v] ∧ GroundAt (He.ga K "Ground") H p d n rows ∧ Arg H v ∧ (¬ Stands rows v → E (.ref (He.ga K "NoFence")) none H) ∧
  ∀ (i : Nat) (g : Addr × LG.Row), v = .int (i : Nat) → rows[i]? = some (some g) → ∀ H', SameX [p, d] H H' → GroundAt (He.ga K "Ground") H' p d n (rows.set i none) → Q (.ref g.1) H'
def sp_g_standing (K : PySem.W.Frag) : Sp := fun vs H Q _ => ∃ (p d : Addr) (n : Int) (rows : List Slot), vs = [.ref p] ∧ GroundAt (He.ga K "Ground") H p d n rows ∧
  ∀ (H' : Hp) (L : Addr) (ts : List Addr), Same H H' → H L = none → H' L = some (.lst (ts.map V.ref)) → Paired (fun (t : Addr) (q : Key × V) => H' t = some (.tup [kV q.1, q.2])) ts (gKf 0 rows) → Q (.ref L) H'
def sp_g_numbered (K : PySem.W.Frag) : Sp := fun vs H Q _ => ∃ (p d : Addr) (n : Int) (rows : List Slot), vs = [.ref p] ∧ GroundAt (He.ga K "Ground") H p d n rows ∧ ∀ L, H L = none → Q (.ref L) (upd H L (.lst (((live rows).map Prod.fst).map V.ref)))
def sp_g_corners (K : PySem.W.Frag) : Sp := fun vs H Q _ => ∃ (p d : Addr) (n : Int) (rows : List Slot), vs = [.ref p] ∧ GroundAt (He.ga K "Ground") H p d n rows ∧ Tabs K H ∧
  ∀ (H' : Hp) (L : Addr) (cs : List Addr) (qs : List LG.Pt), Same H H' → H L = none → PtL H' L cs qs → LG.Told (LG.rowsOf n ((live rows).map Prod.snd)) qs → Q (.ref L) H'
def sp_g_area (K : PySem.W.Frag) : Sp := fun vs H Q _ => ∃ (p d : Addr) (n : Int) (rows : List Slot), vs = [.ref p] ∧ GroundAt (He.ga K "Ground") H p d n rows ∧ Tabs K H ∧
  ∀ (H' : Hp) (t : Addr) (m b : Int), Same H H' → H' t = some (.tup [.int m, .int b]) → AreaOf n ((live rows).map Prod.snd) m b → Q (.ref t) H'
theorem gKf_val (rows : List Slot) (k : Int) : (∃ (i : Nat) (g : Addr × LG.Row), k = (i : Nat) ∧ rows[i]? = some (some g) ∧ valV (gKf 0 rows) (.inl k) = some (.ref g.1)) ∨ (¬ Stands rows (.int k) ∧ valV (gKf 0 rows) (.inl k) = none) := by
  by_cases c : 0 ≤ k
  · obtain ⟨i, rfl⟩ : ∃ i : Nat, k = i := ⟨k.toNat, by omega⟩
    have e := gKf_at 0 rows i
    rw [Nat.zero_add] at e
    have no : rows[i]? = none ∨ rows[i]? = some none → ¬ Stands rows (.int ((i : Nat) : Int)) := fun hz ⟨j, g, ej, hj⟩ => by
      have ej : ((i : Nat) : Int) = (j : Nat) := V.int.inj ej
      rw [show j = i by omega] at hj
      rcases hz with hz | hz <;> rw [hz] at hj <;> cases hj
    cases h : rows[i]? with
    | none =>
      rw [h] at e
      exact .inr ⟨no (.inl h), e⟩
    | some o =>
      cases o with
      | none =>
        rw [h] at e
        exact .inr ⟨no (.inr h), e⟩
      | some g =>
        rw [h] at e
        exact .inl ⟨i, g, rfl, h, e⟩
  · refine .inr ⟨fun ⟨j, g, ej, _⟩ => ?_, gKf_low 0 rows k (by omega)⟩
    have ej : k = (j : Nat) := V.int.inj ej
    omega
end LL

namespace LL
open PySem PySem.Spec PySem.Calls PyProof.Rows L2
/-! ### a method called, an instance made, within a try -/
def tMethT (C : Addr) (m : Str) (sp : Sp) (E : L2.St → XK) (ta : TE) (t : TA) : TE := fun σ H Q => ta σ H fun x H1 => ∃ a dx fs, x = .ref a ∧ H1 a = some (.ins C dx fs) ∧ fs.lookup m = none ∧ t σ H1 fun vs H2 => sp (x :: vs) H2 Q (E σ)
def tMakeT (C : Addr) (sp : Sp) (E : L2.St → XK) (t : TA) : TE := fun σ H Q => t σ H fun vs H1 => ∀ x dx, H1 x = none → H1 dx = none → dx ≠ x → sp (.ref x :: vs) (upd (upd H1 dx (.own x)) x (.ins C dx [])) (fun v H2 => v = .non ∧ Q (.ref x) H2) (E σ)
section
variable {X : Cx} {W : WX} {k : Nat} {C m : Str} {ps : List Str} {sp : Sp} {o e : Expr} {es : List Expr} {ta : TE} {t : TA} {p apos pos : Pos}
theorem pe_methGS {K0 : PySem.W.Frag} {pl : Sem Bool} (G : GoodM X.prog X.w K0 X.mg X.base (L2.CX X.prog X.w) k C m ps sp) (hr : Room k X.A) (tk : Takes X W) (he : PE X o ta) (ha : PA X (e :: es) t)
    (hst : starEach (e :: es) X.env = (false, eval e X.env) :: starEach es X.env := by rfl) (hpl : (backTo pos (starEach es X.env)).any (·.1) = false := by rfl)
    (ht : eval (.Call (.Attribute o m apos) (e :: es) [] pos) X.env = (do
      let ov ← eval o X.env
      standAt apos.atName
      let (f, first) ← holding [ov] (getMethod ov m pl)
      callWith pos f first (backTo pos (starEach (e :: es) X.env)) (backToKw pos (keywordEach [] X.env))) := by rfl) (eK : X.K = K0 := by rfl) :
    PE X (.Call (.Attribute o m apos) (e :: es) [] pos) (tMethT (He.ga K0 C) m sp (WE W) ta t) := by
  subst eK
  obtain ⟨fd, b, F⟩ := G.ex
  refine ⟨fun pins s σ H Q I h => PySem.W.methodCall_KW (pl := pl) (thn (he.run pins s σ H _ I h) fun u s1 ⟨x, H1, I1, rx, a, dx, fs, ex, ea, l, q⟩ => ?_) ht⟩
  subst ex
  obtain rfl : u = Value.ref a := rx
  refine getmeth_ok I1 ea G.cl G.me l (PySem.W.callWith_K (first := [.ref a]) (h₀ := X.base) I.ok.mod.kin G.me.kp (thn (ha.run pos pins s1 σ H1 _ I1 q) fun us s2 ⟨vs, H2, I2, r, q2⟩ => ⟨I2.kIn, ?_⟩) hst hpl)
  exact run_fnS (us := .ref a :: us) (vs := .ref a :: vs) (E := WE W) F hr b (passAt tk σ) I2 (.cons rfl r) q2
theorem run_makeS {pins : List (Addr × Obj)} {σ : L2.St} {H : Hp} {s : Shared} {Q : VK} {us : List Value} {vs : List V} {f Ca : Addr} {fd : FuncData} {E : L2.St → XK} {CX : CXT} (M : Mk X.K Ca f) (F : FnOk X.prog X.w X.K X.mg X.base CX k f fd ps sp) (hr : Room (k + 1) X.A) (hb : Binds X.K fd ps []) (hx : PassesAt CX X σ (E σ)) (I : Inv X pins σ H s) (r : Vals vs us)
    (h : ∀ x dx, H x = none → H dx = none → dx ≠ x → sp (.ref x :: vs) (upd (upd H dx (.own x)) x (.ins Ca dx [])) (fun v H2 => v = .non ∧ Q (.ref x) H2) (E σ)) : wpAny (model X.prog X.w) X.A (call (.ref Ca) us) (EP X pins σ Q) X.xe s := by
  have q := h (s.heap.objs.size + 1) s.heap.objs.size (I.hok.fresh (Nat.le_succ _)) (I.hok.fresh (Nat.le_refl _)) (Nat.ne_of_lt (Nat.lt_succ_self _))
  have J := Inv.made (C := Ca) I
  have rr : Vals (V.ref (s.heap.objs.size + 1) :: vs) (Value.ref (s.heap.objs.size + 1) :: us) := .cons rfl r
  have len : (Value.ref (s.heap.objs.size + 1) :: us).length = ps.length := by
    have e := rr.length
    rw [F.len _ _ _ _ q] at e
    exact e.symm
  have bb := hb _ (Value.ref (s.heap.objs.size + 1) :: us) J.kIn (by rw [List.append_nil]; exact len)
  rw [List.append_nil] at bb
  refine wpAny_call (make_map (f := f) I.kIn M.makes M.init (beq_iff_eq.mp M.fn) (codeAny_mono (F.run _ X.stack _ _ ⟨Value.ref (s.heap.objs.size + 1) :: us, []⟩ _ _ _ (E σ) (hr.make Ca us []) (J.env0.make Ca us []) bb rr q) fun z s' hz => ?_))
  cases z with
  | error er => exact hx pins _ _ er s' J hz
  | ok fl =>
    cases fl with
    | ret u =>
      obtain ⟨v, H', I3, rv, ev, q3⟩ := J.after hz
      subst ev
      exact ⟨rv, ⟨V.ref (s.heap.objs.size + 1), H', I3, rfl, q3⟩⟩
    | next => exact False.elim hz
    | brk => exact False.elim hz
    | cont => exact False.elim hz
theorem pe_makeGS {K0 : PySem.W.Frag} (G : GoodI X.prog X.w K0 X.mg X.base (L2.CX X.prog X.w) k C ps sp) (hr : Room (k + 1) X.A) (tk : Takes X W) (hg : Gl X C) (ha : PA X (e :: es) t) (hdb : (C == ("__debug__" : Str)) = false := by decide)
    (he : starEach (e :: es) X.env = (false, eval e X.env) :: starEach es X.env := by rfl) (hpl : (backTo pos (starEach es X.env)).any (·.1) = false := by rfl) (eK : X.K = K0 := by rfl) :
    PE X (.Call (.Name C p) (e :: es) [] pos) (tMakeT (He.ga K0 C) sp (WE W) t) := by
  subst eK
  obtain ⟨fd, b, F⟩ := G.ex
  refine ⟨fun pins s σ H Q I h => wpAny_Call_Name_kw (ld_glob I hg G.g (PySem.W.callWith_K (h₀ := X.base) I.ok.mod.kin G.made.kp (thn (ha.run pos pins s σ H _ I h) fun us s1 ⟨vs, H1, I1, r, q⟩ => ⟨I1.kIn, ?_⟩) he hpl) hdb)⟩
  exact run_makeS (E := WE W) G.made F hr b (passAt tk σ) I1 r q
end
end LL

namespace LL
open PySem PySem.Spec PySem.Calls PyProof.Rows L2
/-! ### a ground, and what the law holds of it -/
def gV : Slot → V
  | none => .non
  | some g => .ref g.1
/-- at R the law's own rows -/
structure GR (C : Addr) (H : Hp) (p d R : Addr) (n : Int) (rows : List Slot) : Prop where
  g : GroundAt C H p d n rows
  r : H R = some (.lst (rows.map gV))
theorem SameX.mono {bs cs : List Addr} {H H' : Hp} (s : SameX bs H H') (h : ∀ b ∈ bs, b ∈ cs) : SameX cs H H' := fun b o nb e => s b o (fun z => nb (h b z)) e
section
variable {C p d R : Addr} {H H' : Hp} {n : Int} {rows : List Slot}
theorem GR.up (g : GR C H p d R n rows) (s : Same H H') : GR C H' p d R n rows := ⟨g.g.up s, s _ _ g.r⟩
theorem GR.Rp (g : GR C H p d R n rows) : R ≠ p := by
  obtain ⟨dx, ob⟩ := g.g.ob
  exact ne_of g.r ob (by intro z; cases z)
theorem GR.Rd (g : GR C H p d R n rows) : R ≠ d := ne_of g.r g.g.dc (by intro z; cases z)
/-- what the ground's own methods changed -/
theorem GR.in3 (s : SameX [p, d] H H') : SameX [p, d, R] H H' := s.mono fun b hb => by
  simp only [List.mem_cons, List.not_mem_nil, or_false] at hb ⊢
  rcases hb with z | z
  · exact .inl z
  · exact .inr (.inl z)
theorem GR.out (g : GR C H p d R n rows) {b : Addr} {o : HO} (e : H b = some o) (n1 : ∀ C dx fs, o ≠ .ins C dx fs) (n2 : ∀ kvs, o ≠ .dK kvs) (n3 : b ≠ R) : b ∉ [p, d, R] := fun z => by
  have := g.g.out e n1 n2
  simp only [List.mem_cons, List.not_mem_nil, or_false] at this z
  rcases z with z | z | z
  · exact this (.inl z)
  · exact this (.inr z)
  · exact n3 z
theorem GR.kept (g : GR C H p d R n rows) (s : SameX [p, d, R] H H') {b : Addr} {o : HO} (e : H b = some o) (n1 : ∀ C dx fs, o ≠ .ins C dx fs) (n2 : ∀ kvs, o ≠ .dK kvs) (n3 : ∀ ps, o ≠ .tbl ps) (n4 : b ≠ R) : H' b = some o := s.not (g.out e n1 n2 n4) e n3
theorem GR.tup (g : GR C H p d R n rows) (s : SameX [p, d, R] H H') {b : Addr} {xs : List V} (e : H b = some (.tup xs)) : H' b = some (.tup xs) :=
  g.kept s e (fun _ _ _ z => by cases z) (fun _ z => by cases z) (fun _ z => by cases z) (ne_of e g.r (by intro z; cases z))
theorem GR.lst (g : GR C H p d R n rows) (s : SameX [p, d, R] H H') {b : Addr} {xs : List V} (e : H b = some (.lst xs)) (nb : b ≠ R) : H' b = some (.lst xs) :=
  g.kept s e (fun _ _ _ z => by cases z) (fun _ z => by cases z) (fun _ z => by cases z) nb
theorem GR.tabs {K : PySem.W.Frag} (g : GR C H p d R n rows) (s : SameX [p, d, R] H H') (t : Tabs K H) : Tabs K H' := by
  obtain ⟨ps, e, q⟩ := t.between
  have nt : ∀ {b : Addr} {ps}, H b = some (.tbl ps) → b ≠ R := fun e => ne_of e g.r (by intro z; cases z)
  obtain ⟨ps', e', k⟩ := s _ _ (g.out e (fun _ _ _ z => by cases z) (fun _ z => by cases z) (nt e)) e
  exact ⟨g.kept s t.kept (fun _ _ _ z => by cases z) (fun _ z => by cases z) (fun _ z => by cases z) (ne_of t.kept g.r (by intro z; cases z)), ps', e', k q⟩
theorem GR.seq {K : PySem.W.Frag} (g : GR C H p d R n rows) (s : SameX [p, d, R] H H') {a : Addr} {xs : List V} (h : SqL K H a xs) (na : a ≠ R) : SqL K H' a xs := by
  rcases h with (e | ⟨o, e⟩) | h
  · exact .inl (.inl (g.lst s e na))
  · exact .inl (.inr ⟨o, g.kept s e (fun _ _ _ z => by cases z) (fun _ z => by cases z) (fun _ z => by cases z) na⟩)
  · exact .inr h
/-- another ground stays -/
theorem GR.other (g : GR C H p d R n rows) (s : SameX [p, d, R] H H') {q e S : Addr} {m : Int} {rs : List Slot} (k : GR C H q e S m rs) (n1 : q ≠ p) (n2 : e ≠ d) (n3 : S ≠ R) : GR C H' q e S m rs := by
  obtain ⟨dx, ob⟩ := k.g.ob
  obtain ⟨dy, ob2⟩ := g.g.ob
  refine ⟨⟨⟨dx, s.not (fun z => ?_) ob fun _ z => (by cases z)⟩, s.not (fun z => ?_) k.g.dc fun _ z => (by cases z), fun x hx => ⟨g.tup s (k.g.at_ x hx).1, (k.g.at_ x hx).2⟩, k.g.n1, k.g.n2, k.g.few⟩, g.lst s k.r n3⟩
  · simp only [List.mem_cons, List.not_mem_nil, or_false] at z
    rcases z with z | z | z
    · exact n1 z
    · rw [z, g.g.dc] at ob
      cases ob
    · rw [z, g.r] at ob
      cases ob
  · have dc := k.g.dc
    simp only [List.mem_cons, List.not_mem_nil, or_false] at z
    rcases z with z | z | z
    · rw [z, ob2] at dc
      cases dc
    · exact n2 z
    · rw [z, g.r] at dc
      cases dc
/-- its rows written anew -/
theorem GR.write (g : GR C H p d R n rows) {rows' : List Slot} {H1 : Hp} (s : SameX [p, d] H H1) (k : GroundAt C H1 p d n rows') (ys : List V) (e : ys = rows'.map gV) : SameX [p, d, R] H (upd H1 R (.lst ys)) ∧ GR C (upd H1 R (.lst ys)) p d R n rows' := by
  have r1 : H1 R = some (.lst (rows.map gV)) := g.g.lst s g.r
  have s2 : SameX [R] H1 (upd H1 R (.lst ys)) := upd_X r1 (fun _ z => by cases z) (by simp)
  obtain ⟨dx, ob⟩ := k.ob
  refine ⟨(GR.in3 s).trans (s2.mono fun b hb => by simp at hb ⊢; exact .inr (.inr hb)), ⟨⟨dx, (upd_ne g.Rp.symm).trans ob⟩, (upd_ne g.Rd.symm).trans k.dc, fun x hx => ⟨?_, (k.at_ x hx).2⟩, k.n1, k.n2, k.few⟩, by rw [upd_same, e]⟩
  have e1 := (k.at_ x hx).1
  exact (upd_ne (ne_of e1 r1 (by intro z; cases z))).trans e1
end
def slotL : Slot → List (Addr × LG.Row)
  | none => []
  | some g => [g]
theorem live_step {rows : List Slot} {i : Nat} {x : Slot} (h : rows[i]? = some x) : live (rows.take (i + 1)) = live (rows.take i) ++ slotL x := by
  rw [List.take_add_one, h, live_app]
  cases x <;> rfl
theorem gV_at {rows : List Slot} {i : Nat} {v : V} (h : (rows.map gV)[i]? = some v) : ∃ x, rows[i]? = some x ∧ v = gV x := by
  rw [List.getElem?_map] at h
  cases hx : rows[i]? with
  | none => rw [hx] at h; cases h
  | some x =>
    rw [hx] at h
    exact ⟨x, rfl, (Option.some.inj h).symm⟩
theorem FenceR.at_ {r : LG.Row} (f : FenceR r) {H : Hp} {p : Addr} (h : H p = some (rowHO r)) : IsFence H (.ref p) ∧ FItem H (.ref p) := by
  refine ⟨⟨p, _, _, _, rfl, h, ?_⟩, .tup h fun v hv => ?_⟩
  · have a := f.ha
    have b := f.hb
    have c := f.hc
    unfold fenceOk
    rw [within_of (by omega) (by omega), within_of (by omega) (by omega), within_of (by omega) (by omega), decide_eq_false (fun ⟨e1, e2⟩ => f.ab ⟨V.int.inj e1, V.int.inj e2⟩)]
    rfl
  · simp only [List.mem_cons, List.not_mem_nil, or_false] at hv
    rcases hv with e | e | e <;> rw [e] <;> exact .int _
/-- what may stand in a list of fences, and is none -/
def Bad (H : Hp) (v : V) : Prop := FItem H v ∧ ¬ IsFence H v
theorem Bad.up {H H' : Hp} {v : V} (b : Bad H v) (s : Same H H') : Bad H' v := ⟨b.1.up s, fun k => b.2 (IsFence.down b.1 s k)⟩
theorem bads_nil {H : Hp} : ∀ v ∈ ([] : List V), Bad H v := fun _ h => absurd h List.not_mem_nil
theorem bads_up {H H' : Hp} {xs : List V} (b : ∀ v ∈ xs, Bad H v) (s : Same H H') : ∀ v ∈ xs, Bad H' v := fun v h => (b v h).up s
theorem bads_more {H H' : Hp} {xs : List V} {u : V} (b : ∀ v ∈ xs, Bad H v) (s : Same H H') (k : Bad H' u) : ∀ v ∈ xs ++ [u], Bad H' v := fun v h => by
  rcases List.mem_append.mp h with h | h
  · exact (b v h).up s
  · have e : v = u := by simpa using h
    rw [e]
    exact k
theorem bad3 {H : Hp} {p : Addr} {x y z : V} (e : H p = some (.tup [x, y, z])) (ax : Arg H x) (ay : Arg H y) (az : Arg H z) (nf : fenceOk x y z = false) : Bad H (.ref p) := by
  refine ⟨.tup e fun v hv => ?_, ?_⟩
  · simp only [List.mem_cons, List.not_mem_nil, or_false] at hv
    rcases hv with e | e | e <;> rw [e] <;> assumption
  · rintro ⟨p', a, b, c, ep, e2, ok⟩
    cases ep
    rw [e] at e2
    cases e2
    rw [nf] at ok
    cases ok
theorem badT {H : Hp} {p : Addr} {vs : List V} (e : H p = some (.tup vs)) (ar : ∀ v ∈ vs, Arg H v) (n : vs.length ≠ 3) : Bad H (.ref p) := by
  refine ⟨.tup e ar, ?_⟩
  rintro ⟨p', a, b, c, ep, e2, ok⟩
  cases ep
  rw [e] at e2
  cases e2
  exact n rfl
theorem badL {H : Hp} {p : Addr} {vs : List V} (e : H p = some (.lst vs)) : Bad H (.ref p) := by
  refine ⟨.lst e, ?_⟩
  rintro ⟨p', a, b, c, ep, e2, ok⟩
  cases ep
  rw [e] at e2
  cases e2
theorem badP {H : Hp} {v : V} (a : Arg H v) (n : ∀ p, v ≠ .ref p) : Bad H v := ⟨.plain a n, fun ⟨p, _, _, _, ep, _⟩ => n p ep⟩
theorem args_int {H : Hp} (is : List Int) : ∀ v ∈ is.map V.int, Arg H v := fun v hv => by
  obtain ⟨i, _, rfl⟩ := List.mem_map.mp hv
  exact .int i
theorem fence_c {a b : V} {c : Int} (h : c < -1000000 ∨ 1000000 < c) : fenceOk a b (.int c) = false := by
  unfold fenceOk
  rw [within_not h, Bool.and_false]
theorem fence_a {a : Int} {b c : V} (h : a < -1000 ∨ 1000 < a) : fenceOk (.int a) b c = false := by
  unfold fenceOk
  rw [within_not h]
  rfl
theorem fence_b {b : Int} {a c : V} (h : b < -1000 ∨ 1000 < b) : fenceOk a (.int b) c = false := by
  unfold fenceOk
  rw [within_not h, Bool.and_false]
  rfl
theorem fence_0 {c : V} : fenceOk (.int 0) (.int 0) c = false := by
  unfold fenceOk
  rw [decide_eq_true ⟨rfl, rfl⟩, Bool.not_true, Bool.and_false]
  rfl
theorem st_cut {t u : TS} {D : Ends} {σ : L2.St} {H : Hp} (R : L2.St → Hp → Prop) (h2 : ∀ σ' H', R σ' H' → u D σ' H') (h1 : (∀ σ' H', R σ' H' → u D σ' H') → t { D with nx := u D } σ H) : tSeq t u D σ H := h1 h2
theorem gV_get {rows : List Slot} {i : Nat} {x : Slot} (h : rows[i]? = some x) : (rows.map gV)[i]? = some (gV x) := by rw [List.getElem?_map, h]; rfl
def sp_law_put (K : PySem.W.Frag) : Sp := fun vs H Q _ => ∃ (p d R : Addr) (n c : Int) (rows : List Slot), vs = [.ref p, .ref R, .int c, .int n] ∧ GR (He.ga K "Ground") H p d R n rows ∧ rows.length < 900 ∧
  ∀ (H' : Hp) (rows' : List Slot), SameX [p, d, R] H H' → GR (He.ga K "Ground") H' p d R n rows' → (rows' = rows ∨ ∃ g, rows' = rows ++ [some g]) → Q (.bl true) H'
end LL

namespace LL
open PySem PySem.Spec PySem.Calls PyProof.Rows L2
/-! ### the fences that stand, each with its number -/
abbrev Ent := Int × (Addr × LG.Row)
def entHO (e : Ent) : HO := .tup [.int e.1, .ref e.2.1]
instance : TupF entHO := ⟨fun _ => ⟨_, rfl⟩⟩
theorem ent_tup : ∀ x : Ent, ∃ t, entHO x = .tup t := fun _ => ⟨_, rfl⟩
def entD (e : Ent) : PyData := .tuple [.int e.1, rowD e.2.2]
def ent : Nat → List Slot → List Ent
  | _, [] => []
  | n, none :: t => ent (n + 1) t
  | n, some g :: t => ((n : Int), g) :: ent (n + 1) t
theorem ent_app : ∀ (n : Nat) (xs ys : List Slot), ent n (xs ++ ys) = ent n xs ++ ent (n + xs.length) ys
  | n, [], ys => rfl
  | n, none :: t, ys => by
    show ent (n + 1) (t ++ ys) = ent (n + 1) t ++ _
    rw [ent_app (n + 1) t ys, List.length_cons, show n + 1 + t.length = n + (t.length + 1) by omega]
  | n, some g :: t, ys => by
    show _ :: ent (n + 1) (t ++ ys) = _ :: (ent (n + 1) t ++ _)
    rw [ent_app (n + 1) t ys, List.length_cons, show n + 1 + t.length = n + (t.length + 1) by omega]
def entS (i : Nat) : Slot → List Ent
  | none => []
  | some g => [((i : Nat), g)]
theorem ent_step {rows : List Slot} {i : Nat} {x : Slot} (h : rows[i]? = some x) : ent 0 (rows.take (i + 1)) = ent 0 (rows.take i) ++ entS i x := by
  have il := (List.getElem?_eq_some_iff.mp h).1
  rw [List.take_add_one, h, ent_app, List.length_take, Nat.zero_add, Nat.min_eq_left (by omega)]
  cases x <;> rfl
theorem ent_mem : ∀ {n : Nat} {xs : List Slot} {e : Ent}, e ∈ ent n xs → e.2 ∈ live xs
  | n, [], e, h => absurd h List.not_mem_nil
  | n, none :: t, e, h => ent_mem (n := n + 1) (xs := t) h
  | n, some g :: t, e, h => by
    rcases List.mem_cons.mp h with h | h
    · rw [h]
      exact List.mem_cons_self
    · exact List.mem_cons_of_mem _ (ent_mem h)
theorem ent_len : ∀ (n : Nat) (xs : List Slot), (ent n xs).length = (live xs).length
  | n, [] => rfl
  | n, none :: t => ent_len (n + 1) t
  | n, some g :: t => congrArg (· + 1) (ent_len (n + 1) t)
abbrev EntL (H : Hp) (l : Addr) (ts : List Addr) (es : List Ent) : Prop := LstAt entHO H l ts es
def EntOk (H : Hp) (es : List Ent) : Prop := ∀ e ∈ es, H e.2.1 = some (rowHO e.2.2)
theorem EntOk.up {H H' : Hp} {es : List Ent} (h : EntOk H es) (s : Same H H') : EntOk H' es := fun e he => s _ _ (h e he)
theorem dp_entA {K : PySem.W.Frag} {H : Hp} : ∀ {ts : List Addr} {es : List Ent}, At entHO H ts es → EntOk H es → DpAll K H (ts.map V.ref) (es.map entD)
  | [], [], _, _ => .nil
  | [], x :: xs, h, _ => by cases h
  | p :: ps, [], h, _ => by cases h
  | p :: ps, x :: xs, h, ok => by
    have h1 : H p = some (entHO x) := by injection h
    have h2 : At entHO H ps xs := by injection h
    exact .cons (.tup (SqT.of h1) (.cons (.int _) (.cons (dp_row (ok x List.mem_cons_self)) .nil))) (dp_entA h2 fun e he => ok e (List.mem_cons_of_mem _ he))
theorem dp_ents {K : PySem.W.Frag} {H : Hp} {l : Addr} {ts : List Addr} {es : List Ent} (h : EntL H l ts es) (ok : EntOk H es) : Dp K H (.ref l) (.list (es.map entD)) := .lst h.seq (dp_entA h.at_ ok)
theorem lay_ents : ∀ (es : List Ent), PyData.canLayAll0 (es.map entD) = true ∧ PyData.depthAll (es.map entD) ≤ 2
  | [] => ⟨rfl, by decide⟩
  | e :: es => by
    obtain ⟨h1, h2⟩ := lay_ents es
    constructor
    · show (true && PyData.canLayAll0 (es.map entD)) = true
      rw [h1]
      rfl
    · show max 2 (PyData.depthAll (es.map entD)) ≤ 2
      omega
theorem shaped_ents (es : List Ent) : SeqAt.shaped (.list (es.map entD)) = true := by
  obtain ⟨h1, h2⟩ := lay_ents es
  unfold SeqAt.shaped
  rw [PySem.PyData.canLay0.eq_def]
  simp only
  rw [h1]
  show (true && decide (PyData.depthAll (es.map entD) + 1 ≤ 64)) = true
  rw [decide_eq_true (by omega)]
  rfl
theorem lay_ent (es : List Ent) : PyData.canLay0 (.list (es.map entD)) = true := by
  rw [PySem.PyData.canLay0.eq_def]
  exact (lay_ents es).1
theorem eqv_ents (es : List Ent) : PyData.eqv (.list (es.map entD)) (.list (es.map entD)) = true := SeqAt.eqv_refl _ (lay_ent es)
theorem ents_of {H : Hp} : ∀ {ts : List Addr} {n : Nat} {rows : List Slot}, Paired (fun (t : Addr) (q : Key × V) => H t = some (.tup [kV q.1, q.2])) ts (gKf n rows) → At entHO H ts (ent n rows)
  | ts, n, [], h => by
    cases h
    rfl
  | ts, n, none :: t, h => ents_of (n := n + 1) (rows := t) h
  | ts, n, some g :: t, h => by
    cases h with
    | cons h1 h2 =>
      show H _ :: _ = some (entHO _) :: _
      rw [h1, ents_of (n := n + 1) (rows := t) h2]
      rfl
theorem AreaOf.one {n : Int} {fs : List LG.Row} {m b m2 b2 : Int} (h : AreaOf n fs m b) (k : AreaOf n fs m2 b2) : m = m2 ∧ b = b2 := by
  obtain ⟨qs, t, e⟩ := h.eq
  have e2 := k.eq' qs t
  refine LG.low_frac h.pos k.pos h.low k.low ?_
  have : ((m * b2 : Int) : Rat) = ((m2 * b : Int) : Rat) := by
    rw [Rat.intCast_mul, Rat.intCast_mul, e, e2]
    grind
  exact Rat.intCast_inj.mp this
/-- one more, of the number n -/
abbrev extE (n : Nat) (t : Addr) : Ent := ((n : Int), (t, ⟨1, 0, 0⟩))
theorem ent_at : ∀ {n : Nat} {xs : List Slot} {e : Ent}, e ∈ ent n xs → ∃ i : Nat, e.1 = ((n + i : Nat) : Int) ∧ xs[i]? = some (some e.2)
  | n, [], e, h => absurd h List.not_mem_nil
  | n, none :: t, e, h => by
    obtain ⟨i, e1, e2⟩ := ent_at (n := n + 1) (xs := t) h
    exact ⟨i + 1, by omega, e2⟩
  | n, some g :: t, e, h => by
    rcases List.mem_cons.mp h with h | h
    · exact ⟨0, by rw [h]; rfl, by rw [h]; rfl⟩
    · obtain ⟨i, e1, e2⟩ := ent_at (n := n + 1) (xs := t) h
      exact ⟨i + 1, by omega, e2⟩
theorem live_set_lt : ∀ {xs : List Slot} {i : Nat} {g : Addr × LG.Row}, xs[i]? = some (some g) → (live (xs.set i none)).length + 1 = (live xs).length
  | [], i, g, h => by cases h
  | none :: t, 0, g, h => by cases h
  | some x :: t, 0, g, h => rfl
  | none :: t, i + 1, g, h => live_set_lt (xs := t) h
  | some x :: t, i + 1, g, h => congrArg (· + 1) (live_set_lt (xs := t) (i := i) h)
/-- the numbers that stand -/
def nums (es : List Ent) : List V := es.map fun e => V.int e.1
theorem dp_nums {K : PySem.W.Frag} {H : Hp} : ∀ (es : List Ent), DpAll K H (nums es) (es.map fun e => PyData.int e.1)
  | [] => .nil
  | e :: es => .cons (.int _) (dp_nums es)
theorem lay_nums : ∀ (es : List Ent), PyData.canLayAll0 (es.map fun e => PyData.int e.1) = true ∧ PyData.depthAll (es.map fun e => PyData.int e.1) ≤ 2
  | [] => ⟨rfl, by decide⟩
  | e :: es => by
    obtain ⟨h1, h2⟩ := lay_nums es
    constructor
    · show (true && PyData.canLayAll0 (es.map fun e => PyData.int e.1)) = true
      rw [h1]
      rfl
    · show max 0 (PyData.depthAll (es.map fun e => PyData.int e.1)) ≤ 2
      omega
theorem shaped_nums (es : List Ent) : SeqAt.shaped (.list (es.map fun e => PyData.int e.1)) = true := by
  obtain ⟨h1, h2⟩ := lay_nums es
  unfold SeqAt.shaped
  rw [PySem.PyData.canLay0.eq_def]
  simp only
  rw [h1]
  show (true && decide (PyData.depthAll (es.map fun e => PyData.int e.1) + 1 ≤ 64)) = true
  rw [decide_eq_true (by omega)]
  rfl
theorem GroundAt.lstAt {α : Type} {f : α → HO} [TupF f] {C p d : Addr} {H H' : Hp} {n : Int} {rows : List Slot} (g : GroundAt C H p d n rows) (s : SameX [p, d] H H') {l : Addr} {ps : List Addr} {xs : List α} (h : LstAt f H l ps xs) : LstAt f H' l ps xs := by
  have k : ∀ {ps : List Addr} {xs : List α}, At f H ps xs → At f H' ps xs := by
    intro ps
    induction ps with
    | nil => intro xs h; cases xs with
      | nil => rfl
      | cons x xs => cases h
    | cons p ps ih => intro xs h; cases xs with
      | nil => cases h
      | cons x xs =>
        have h1 : H p = some (f x) := by injection h
        have h2 : At f H ps xs := by injection h
        show H' p :: ps.map H' = some (f x) :: xs.map _
        have h3 : H' p = some (f x) := by
          obtain ⟨t, e⟩ := TupF.out (f := f) x
          rw [e] at h1 ⊢
          exact g.tup s h1
        rw [h3, ih h2]
  exact ⟨g.lst s h.lst, k h.at_⟩
theorem GR.lstAt {α : Type} {f : α → HO} [TupF f] {C p d R : Addr} {H H' : Hp} {n : Int} {rows : List Slot} (g : GR C H p d R n rows) (s : SameX [p, d, R] H H') {l : Addr} {ps : List Addr} {xs : List α} (h : LstAt f H l ps xs) (ne : l ≠ R) : LstAt f H' l ps xs := by
  have k : ∀ {ps : List Addr} {xs : List α}, At f H ps xs → At f H' ps xs := by
    intro ps
    induction ps with
    | nil => intro xs h; cases xs with
      | nil => rfl
      | cons x xs => cases h
    | cons p ps ih => intro xs h; cases xs with
      | nil => cases h
      | cons x xs =>
        have h1 : H p = some (f x) := by injection h
        have h2 : At f H ps xs := by injection h
        show H' p :: ps.map H' = some (f x) :: xs.map _
        have h3 : H' p = some (f x) := by
          obtain ⟨t, e⟩ := TupF.out (f := f) x
          rw [e] at h1 ⊢
          exact g.tup s h1
        rw [h3, ih h2]
  exact ⟨g.lst s h.lst ne, k h.at_⟩
def sp_law_take (K : PySem.W.Frag) : Sp := fun vs H Q _ => ∃ (p d R : Addr) (n c : Int) (rows : List Slot), vs = [.ref p, .ref R, .int c] ∧ GR (He.ga K "Ground") H p d R n rows ∧ rows.length < 900 ∧
  ∀ (H' : Hp) (rows' : List Slot), SameX [p, d, R] H H' → GR (He.ga K "Ground") H' p d R n rows' → rows'.length = rows.length → Q (.bl true) H'
def sp_law_standing (K : PySem.W.Frag) : Sp := fun vs H Q _ => ∃ (p d R : Addr) (n : Int) (rows : List Slot), vs = [.ref p, .ref R] ∧ GR (He.ga K "Ground") H p d R n rows ∧ rows.length < 900 ∧ ∀ H', Same H H' → Q (.bl true) H'
def sp_law_ended (K : PySem.W.Frag) : Sp := fun vs H Q _ => ∃ (p d R : Addr) (n : Int) (rows : List Slot), vs = [.ref p, .ref R, .int n] ∧ GR (He.ga K "Ground") H p d R n rows ∧ rows.length < 900 ∧ Tabs K H ∧ ∀ H', Same H H' → Q (.bl true) H'
end LL

namespace LL
open PySem PySem.Spec PySem.Calls PyProof.Rows L2
/-! ### two grounds -/
/-- what is made anew and written since is no change of what stood -/
theorem Same.made {H H1 H' : Hp} {p : Addr} (s : Same H H1) (hp : H p = none) (x : SameX [p] H1 H') : Same H H' := fun b o e => by
  have nb : b ∉ [p] := fun z => by
    have z : b = p := by simpa using z
    rw [z, hp] at e
    cases e
  cases o with
  | tbl ps =>
    obtain ⟨ps1, e1, t1⟩ := s b _ e
    obtain ⟨ps2, e2, t2⟩ := x b _ nb e1
    exact ⟨ps2, e2, fun t => t2 (t1 t)⟩
  | _ => exact x b _ nb (s b _ e)
/-- the lists at S, Gs, Rs, W tell of two grounds -/
structure Inv2 (C : Addr) (K : PySem.W.Frag) (H : Hp) (S Gs Rs W : Addr) (ws : List V) (n0 n1 : Int) (p0 d0 R0 p1 d1 R1 : Addr) (rows0 rows1 : List Slot) : Prop where
  s : H S = some (.lst [.int n0, .int n1])
  g : H Gs = some (.lst [.ref p0, .ref p1])
  r : H Rs = some (.lst [.ref R0, .ref R1])
  w : H W = some (.lst ws)
  tb : Tabs K H
  a : GR C H p0 d0 R0 n0 rows0
  b : GR C H p1 d1 R1 n1 rows1
  np : p0 ≠ p1
  nd : d0 ≠ d1
  nR : R0 ≠ R1
  oa : S ≠ R0 ∧ Gs ≠ R0 ∧ Rs ≠ R0 ∧ W ≠ R0
  ob : S ≠ R1 ∧ Gs ≠ R1 ∧ Rs ≠ R1 ∧ W ≠ R1
def In2 (C : Addr) (K : PySem.W.Frag) (H : Hp) (S Gs Rs W : Addr) (ws : List V) (t : Nat) : Prop := ∃ (n0 n1 : Int) (p0 d0 R0 p1 d1 R1 : Addr) (rows0 rows1 : List Slot), Inv2 C K H S Gs Rs W ws n0 n1 p0 d0 R0 p1 d1 R1 rows0 rows1 ∧ rows0.length ≤ t ∧ rows1.length ≤ t
section
variable {C : Addr} {K : PySem.W.Frag} {H H' : Hp} {S Gs Rs W : Addr} {ws : List V} {t : Nat}
theorem In2.up (v : In2 C K H S Gs Rs W ws t) (s : Same H H') : In2 C K H' S Gs Rs W ws t := by
  obtain ⟨n0, n1, p0, d0, R0, p1, d1, R1, rows0, rows1, v, l0, l1⟩ := v
  exact ⟨n0, n1, p0, d0, R0, p1, d1, R1, rows0, rows1, ⟨s _ _ v.s, s _ _ v.g, s _ _ v.r, s _ _ v.w, v.tb.up s, v.a.up s, v.b.up s, v.np, v.nd, v.nR, v.oa, v.ob⟩, l0, l1⟩
theorem In2.mono {t' : Nat} (v : In2 C K H S Gs Rs W ws t) (h : t ≤ t') : In2 C K H S Gs Rs W ws t' := by
  obtain ⟨n0, n1, p0, d0, R0, p1, d1, R1, rows0, rows1, v, l0, l1⟩ := v
  exact ⟨n0, n1, p0, d0, R0, p1, d1, R1, rows0, rows1, v, by omega, by omega⟩
theorem In2.tb (v : In2 C K H S Gs Rs W ws t) : Tabs K H := by
  obtain ⟨n0, n1, p0, d0, R0, p1, d1, R1, rows0, rows1, v, l0, l1⟩ := v
  exact v.tb
theorem In2.w (v : In2 C K H S Gs Rs W ws t) : H W = some (.lst ws) := by
  obtain ⟨n0, n1, p0, d0, R0, p1, d1, R1, rows0, rows1, v, l0, l1⟩ := v
  exact v.w
/-- one of the two -/
structure At2 (C : Addr) (K : PySem.W.Frag) (H : Hp) (S Gs Rs W : Addr) (ws : List V) (t : Nat) (j : Int) (n : Int) (p d R : Addr) (rows : List Slot) : Prop where
  s : ∃ xs, H S = some (.lst xs) ∧ atI xs j = some (.int n)
  g : ∃ xs, H Gs = some (.lst xs) ∧ atI xs j = some (.ref p)
  r : ∃ xs, H Rs = some (.lst xs) ∧ atI xs j = some (.ref R)
  gr : GR C H p d R n rows
  len : rows.length ≤ t
  tb : Tabs K H
  in2 : In2 C K H S Gs Rs W ws t
  back : ∀ (H' : Hp) (rows' : List Slot) (t' : Nat), SameX [p, d, R] H H' → GR C H' p d R n rows' → rows'.length ≤ t' → t ≤ t' → In2 C K H' S Gs Rs W ws t'
theorem In2.at (v : In2 C K H S Gs Rs W ws t) {j : Int} (hj : j = 0 ∨ j = 1) : ∃ n p d R rows, At2 C K H S Gs Rs W ws t j n p d R rows := by
  have v' := v
  obtain ⟨n0, n1, p0, d0, R0, p1, d1, R1, rows0, rows1, v, l0, l1⟩ := v
  rcases hj with rfl | rfl
  · refine ⟨n0, p0, d0, R0, rows0, ⟨_, v.s, rfl⟩, ⟨_, v.g, rfl⟩, ⟨_, v.r, rfl⟩, v.a, l0, v.tb, v', fun H' rows' t' s g hl ht => ?_⟩
    exact ⟨n0, n1, p0, d0, R0, p1, d1, R1, rows', rows1, ⟨v.a.lst s v.s v.oa.1, v.a.lst s v.g v.oa.2.1, v.a.lst s v.r v.oa.2.2.1, v.a.lst s v.w v.oa.2.2.2, v.a.tabs s v.tb, g, v.a.other s v.b v.np.symm v.nd.symm v.nR.symm, v.np, v.nd, v.nR, v.oa, v.ob⟩, hl, by omega⟩
  · refine ⟨n1, p1, d1, R1, rows1, ⟨_, v.s, rfl⟩, ⟨_, v.g, rfl⟩, ⟨_, v.r, rfl⟩, v.b, l1, v.tb, v', fun H' rows' t' s g hl ht => ?_⟩
    exact ⟨n0, n1, p0, d0, R0, p1, d1, R1, rows0, rows', ⟨v.b.lst s v.s v.ob.1, v.b.lst s v.g v.ob.2.1, v.b.lst s v.r v.ob.2.2.1, v.b.lst s v.w v.ob.2.2.2, v.b.tabs s v.tb, v.b.other s v.a v.np v.nd v.nR, g, v.np, v.nd, v.nR, v.oa, v.ob⟩, by omega, hl⟩
theorem At2.up {j n : Int} {p d R : Addr} {rows : List Slot} (v : At2 C K H S Gs Rs W ws t j n p d R rows) (s : Same H H') : At2 C K H' S Gs Rs W ws t j n p d R rows := by
  obtain ⟨x1, e1, a1⟩ := v.s
  obtain ⟨x2, e2, a2⟩ := v.g
  obtain ⟨x3, e3, a3⟩ := v.r
  exact ⟨⟨x1, s _ _ e1, a1⟩, ⟨x2, s _ _ e2, a2⟩, ⟨x3, s _ _ e3, a3⟩, v.gr.up s, v.len, v.tb.up s, v.in2.up s, fun H' rows' t' x g hl ht => v.back H' rows' t' (s.x.trans x) g hl ht⟩
end
theorem cut_sub {xs : List V} {lo hi : Option Int} : ∀ x ∈ cutV xs lo hi, x ∈ xs := fun x hx => List.mem_of_mem_drop (List.mem_of_mem_take hx)
end LL

namespace LL
open PySem PySem.Spec PySem.Calls PyProof.Rows L2

def top (i : Nat) : Stmt := PySem.Challenge.pw_landlines_k09_a_ground_kept.main.body.getD i (.Pass ⟨0, 0, 0, 0⟩)
abbrev s_is_number : Stmt := top 13
abbrev s_is_number_within : Stmt := top 14
abbrev s_check_size : Stmt := top 15
abbrev s_spot_of : Stmt := top 17
abbrev s_twice_triangle : Stmt := top 19
abbrev s_turn : Stmt := top 18
abbrev s_is_slope : Stmt := top 25
abbrev s_fence_of : Stmt := top 24
abbrev s_check_fence : Stmt := top 26
abbrev s_edges : Stmt := top 27
abbrev s_fences_and_edges : Stmt := top 28
abbrev s_reach : Stmt := top 29
abbrev s_meeting : Stmt := top 30
abbrev s_is_kept : Stmt := top 35
abbrev s_kept_meetings : Stmt := top 34
abbrev s_is_ahead : Stmt := top 37
abbrev s_lowest : Stmt := top 36
abbrev s_many_on_the_right : Stmt := top 38
abbrev s_corners_between : Stmt := top 33
abbrev s_corners : Stmt := top 32
abbrev s_twice_area : Stmt := top 40
abbrev s_Ground_init : Stmt := inClass (top 42) 0
abbrev s_Ground_put : Stmt := inClass (top 42) 1
abbrev s_Ground_take : Stmt := inClass (top 42) 2
abbrev s_Ground_standing : Stmt := inClass (top 42) 3
abbrev s_Ground_numbered_fences : Stmt := inClass (top 42) 6
abbrev s_Ground_corners : Stmt := inClass (top 42) 4
abbrev s_Ground_area : Stmt := inClass (top 42) 5
abbrev s_law_cell_at : Stmt := top 44
abbrev s_law_whole : Stmt := top 45
abbrev s_law_size_by : Stmt := top 46
abbrev s_law_fence_by : Stmt := top 47
abbrev s_law_names : Stmt := top 48
abbrev s_law_size_refused : Stmt := top 49
abbrev s_law_put : Stmt := top 50
abbrev s_law_take : Stmt := top 51
abbrev s_law_standing : Stmt := top 52
abbrev s_law_ended : Stmt := top 53
abbrev s_law_again : Stmt := top 54
abbrev s_law : Stmt := top 55
/-! ### what the top has written -/
structure Txt (K : PySem.W.Frag) (mg : Str → Option Value) : Prop where
  d_is_number : ∃ fd, FnP K "is_number" s_is_number fd
  g_is_number : mg "is_number" = some (.ref (He.ga K "is_number"))
  d_is_number_within : ∃ fd, FnP K "is_number_within" s_is_number_within fd
  g_is_number_within : mg "is_number_within" = some (.ref (He.ga K "is_number_within"))
  d_check_size : ∃ fd, FnP K "check_size" s_check_size fd
  g_check_size : mg "check_size" = some (.ref (He.ga K "check_size"))
  d_spot_of : ∃ fd, FnP K "spot_of" s_spot_of fd
  g_spot_of : mg "spot_of" = some (.ref (He.ga K "spot_of"))
  d_twice_triangle : ∃ fd, FnP K "_twice_triangle" s_twice_triangle fd
  g_twice_triangle : mg "_twice_triangle" = some (.ref (He.ga K "_twice_triangle"))
  d_turn : ∃ fd, FnP K "turn" s_turn fd
  g_turn : mg "turn" = some (.ref (He.ga K "turn"))
  d_is_slope : ∃ fd, FnP K "_is_slope" s_is_slope fd
  g_is_slope : mg "_is_slope" = some (.ref (He.ga K "_is_slope"))
  d_fence_of : ∃ fd, FnP K "fence_of" s_fence_of fd
  g_fence_of : mg "fence_of" = some (.ref (He.ga K "fence_of"))
  d_check_fence : ∃ fd, FnP K "check_fence" s_check_fence fd
  g_check_fence : mg "check_fence" = some (.ref (He.ga K "check_fence"))
  d_edges : ∃ fd, FnP K "edges" s_edges fd
  g_edges : mg "edges" = some (.ref (He.ga K "edges"))
  d_fences_and_edges : ∃ fd, FnP K "fences_and_edges" s_fences_and_edges fd
  g_fences_and_edges : mg "fences_and_edges" = some (.ref (He.ga K "fences_and_edges"))
  d_reach : ∃ fd, FnP K "reach" s_reach fd
  g_reach : mg "reach" = some (.ref (He.ga K "reach"))
  d_meeting : ∃ fd, FnP K "meeting" s_meeting fd
  g_meeting : mg "meeting" = some (.ref (He.ga K "meeting"))
  d_is_kept : ∃ fd, FnP K "_is_kept" s_is_kept fd
  g_is_kept : mg "_is_kept" = some (.ref (He.ga K "_is_kept"))
  d_kept_meetings : ∃ fd, FnP K "_kept_meetings" s_kept_meetings fd
  g_kept_meetings : mg "_kept_meetings" = some (.ref (He.ga K "_kept_meetings"))
  d_is_ahead : ∃ fd, FnP K "_is_ahead" s_is_ahead fd
  g_is_ahead : mg "_is_ahead" = some (.ref (He.ga K "_is_ahead"))
  d_lowest : ∃ fd, FnP K "_lowest" s_lowest fd
  g_lowest : mg "_lowest" = some (.ref (He.ga K "_lowest"))
  d_many_on_the_right : ∃ fd, FnP K "_many_on_the_right" s_many_on_the_right fd
  g_many_on_the_right : mg "_many_on_the_right" = some (.ref (He.ga K "_many_on_the_right"))
  d_corners_between : ∃ fd, FnP K "corners_between" s_corners_between fd
  g_corners_between : mg "corners_between" = some (.ref (He.ga K "corners_between"))
  d_corners : ∃ fd, FnP K "corners" s_corners fd
  g_corners : mg "corners" = some (.ref (He.ga K "corners"))
  d_twice_area : ∃ fd, FnP K "twice_area" s_twice_area fd
  g_twice_area : mg "twice_area" = some (.ref (He.ga K "twice_area"))
  d_Ground_init : ∃ fd, FnM K "Ground" "__init__" "Ground.__init__" s_Ground_init fd
  d_Ground_put : ∃ fd, FnM K "Ground" "put" "Ground.put" s_Ground_put fd
  me_Ground_put : Meth K (He.ga K "Ground") "put" (He.ma K (He.ga K "Ground") "put")
  d_Ground_take : ∃ fd, FnM K "Ground" "take" "Ground.take" s_Ground_take fd
  me_Ground_take : Meth K (He.ga K "Ground") "take" (He.ma K (He.ga K "Ground") "take")
  d_Ground_standing : ∃ fd, FnM K "Ground" "standing" "Ground.standing" s_Ground_standing fd
  me_Ground_standing : Meth K (He.ga K "Ground") "standing" (He.ma K (He.ga K "Ground") "standing")
  d_Ground_numbered_fences : ∃ fd, FnM K "Ground" "_numbered_fences" "Ground._numbered_fences" s_Ground_numbered_fences fd
  me_Ground_numbered_fences : Meth K (He.ga K "Ground") "_numbered_fences" (He.ma K (He.ga K "Ground") "_numbered_fences")
  d_Ground_corners : ∃ fd, FnM K "Ground" "corners" "Ground.corners" s_Ground_corners fd
  me_Ground_corners : Meth K (He.ga K "Ground") "corners" (He.ma K (He.ga K "Ground") "corners")
  d_Ground_area : ∃ fd, FnM K "Ground" "area" "Ground.area" s_Ground_area fd
  me_Ground_area : Meth K (He.ga K "Ground") "area" (He.ma K (He.ga K "Ground") "area")
  d_law_cell_at : ∃ fd, FnP K "_law_cell_at" s_law_cell_at fd
  g_law_cell_at : mg "_law_cell_at" = some (.ref (He.ga K "_law_cell_at"))
  d_law_whole : ∃ fd, FnP K "_law_whole" s_law_whole fd
  g_law_whole : mg "_law_whole" = some (.ref (He.ga K "_law_whole"))
  d_law_size_by : ∃ fd, FnP K "_law_size_by" s_law_size_by fd
  g_law_size_by : mg "_law_size_by" = some (.ref (He.ga K "_law_size_by"))
  d_law_fence_by : ∃ fd, FnP K "_law_fence_by" s_law_fence_by fd
  g_law_fence_by : mg "_law_fence_by" = some (.ref (He.ga K "_law_fence_by"))
  d_law_names : ∃ fd, FnP K "_law_names" s_law_names fd
  g_law_names : mg "_law_names" = some (.ref (He.ga K "_law_names"))
  d_law_size_refused : ∃ fd, FnP K "_law_size_refused" s_law_size_refused fd
  g_law_size_refused : mg "_law_size_refused" = some (.ref (He.ga K "_law_size_refused"))
  d_law_put : ∃ fd, FnP K "_law_put" s_law_put fd
  g_law_put : mg "_law_put" = some (.ref (He.ga K "_law_put"))
  d_law_take : ∃ fd, FnP K "_law_take" s_law_take fd
  g_law_take : mg "_law_take" = some (.ref (He.ga K "_law_take"))
  d_law_standing : ∃ fd, FnP K "_law_standing" s_law_standing fd
  g_law_standing : mg "_law_standing" = some (.ref (He.ga K "_law_standing"))
  d_law_ended : ∃ fd, FnP K "_law_ended" s_law_ended fd
  g_law_ended : mg "_law_ended" = some (.ref (He.ga K "_law_ended"))
  d_law_again : ∃ fd, FnP K "_law_again" s_law_again fd
  g_law_again : mg "_law_again" = some (.ref (He.ga K "_law_again"))
  d_law : ∃ fd, FnP K "law" s_law fd
  g_law : mg "law" = some (.ref (He.ga K "law"))
  g_Ground : mg "Ground" = some (.ref (He.ga K "Ground"))
  cl_Ground : Cls K (He.ga K "Ground")
  mk_Ground : Mk K (He.ga K "Ground") (He.ma K (He.ga K "Ground") "__init__")
  no_coming : NoAttr K (He.ga K "Ground") "_coming"
  no_fences : NoAttr K (He.ga K "Ground") "_fences"
  no_size : NoAttr K (He.ga K "Ground") "_size"
  m_ValueError : mg "ValueError" = none
  m_all : mg "all" = none
  m_bool : mg "bool" = none
  m_int : mg "int" = none
  m_isinstance : mg "isinstance" = none
  m_len : mg "len" = none
  m_list : mg "list" = none
  m_max : mg "max" = none
  m_min : mg "min" = none
  m_range : mg "range" = none
  m_sorted : mg "sorted" = none
  m_tuple : mg "tuple" = none
  m_zip : mg "zip" = none
  c_MOST_FENCES : ∃ t, mg "MOST_FENCES" = some (.int (16) t)
  c_MOST_OFFSET : ∃ t, mg "MOST_OFFSET" = some (.int (1000000) t)
  c_MOST_SIZE : ∃ t, mg "MOST_SIZE" = some (.int (1000) t)
  c_MOST_SLOPE : ∃ t, mg "MOST_SLOPE" = some (.int (1000) t)
  BadFence : ExcF K mg "BadFence"
  BadSize : ExcF K mg "BadSize"
  BadSpot : ExcF K mg "BadSpot"
  BadWay : ExcF K mg "BadWay"
  LandError : ExcF K mg "LandError"
  NoFence : ExcF K mg "NoFence"
  NoLand : ExcF K mg "NoLand"
  TooMany : ExcF K mg "TooMany"
  gcd : mg "gcd" = some (.builtin "math.gcd")
  tabs : tabC K ≠ tabK K
  comb : mg "combinations" = some (.type "itertools.combinations")
  ex_BadFence_LandError : PySem.W.exmOne K (.ref (He.ga K "BadFence")) (.ref (He.ga K "LandError")) = some true
  kit_BadFence : KitsF K "BadFence" [("BadFence", true), ("BadSize", false), ("BadSpot", false), ("BadWay", false), ("NoFence", false), ("NoLand", false), ("TooMany", false)]
  ex_BadSize_LandError : PySem.W.exmOne K (.ref (He.ga K "BadSize")) (.ref (He.ga K "LandError")) = some true
  kit_BadSize : KitsF K "BadSize" [("BadFence", false), ("BadSize", true), ("BadSpot", false), ("BadWay", false), ("NoFence", false), ("NoLand", false), ("TooMany", false)]
  ex_BadSpot_LandError : PySem.W.exmOne K (.ref (He.ga K "BadSpot")) (.ref (He.ga K "LandError")) = some true
  kit_BadSpot : KitsF K "BadSpot" [("BadFence", false), ("BadSize", false), ("BadSpot", true), ("BadWay", false), ("NoFence", false), ("NoLand", false), ("TooMany", false)]
  ex_NoFence_LandError : PySem.W.exmOne K (.ref (He.ga K "NoFence")) (.ref (He.ga K "LandError")) = some true
  kit_NoFence : KitsF K "NoFence" [("BadFence", false), ("BadSize", false), ("BadSpot", false), ("BadWay", false), ("NoFence", true), ("NoLand", false), ("TooMany", false)]
  ex_TooMany_LandError : PySem.W.exmOne K (.ref (He.ga K "TooMany")) (.ref (He.ga K "LandError")) = some true
  kit_TooMany : KitsF K "TooMany" [("BadFence", false), ("BadSize", false), ("BadSpot", false), ("BadWay", false), ("NoFence", false), ("NoLand", false), ("TooMany", true)]
section
variable {P : Program} {w : World} {K : PySem.W.Frag} {mg : Str → Option Value} {base : Heap}
/-! ## is_number -/
abbrev n_is_number : List Str := ["value"]
theorem sc_is_number : FnScope n_is_number ["value"] (defScope s_is_number) := ⟨rfl, rfl, rfl, by decide +kernel, rfl, by decide +kernel, by decide +kernel⟩
theorem ok_is_number (T : Txt K mg) : Good P w K mg base CX0 1 "is_number" ["value"] sp_num := by
  obtain ⟨fd, F⟩ := T.d_is_number
  refine ⟨T.g_is_number, F.kp, fd, F.bindsN (fun _ _ _ _ _ _ us hl => match us, hl with | [_], _ => rfl), F.ok sc_is_number (fun vs H Q E h => ?_) (fun cdv A outer s H vs Q E hr h => ⟨_, PSs.nox (pss_one (ps_ret (pe_and (pe_callB call_isi (by rfl) T.m_isinstance (by decide +kernel) (pa_cons (pv 0) (pa_cons (pe_bltn (v := .ty "int") (by rfl) T.m_int (by decide +kernel) rfl) pa_nil))) (pe_one (pe_not (pe_callB call_isi (by rfl) T.m_isinstance (by decide +kernel) (pa_cons (pv 0) (pa_cons (pe_bltn (v := .ty "bool") (by rfl) T.m_bool (by decide +kernel) rfl) pa_nil)))))))), num_read h⟩)⟩
  obtain ⟨v, rfl, _⟩ := h
  rfl

/-! ## is_number_within -/
abbrev n_is_number_within : List Str := ["value", "low", "high"]
theorem sc_is_number_within : FnScope n_is_number_within ["value", "low", "high"] (defScope s_is_number_within) := ⟨rfl, rfl, rfl, by decide +kernel, rfl, by decide +kernel, by decide +kernel⟩
theorem ok_is_number_within (T : Txt K mg) (C_is_number : Good P w K mg base CX0 1 "is_number" ["value"] sp_num) : Good P w K mg base CX0 2 "is_number_within" ["value", "low", "high"] sp_within := by
  obtain ⟨fd, F⟩ := T.d_is_number_within
  refine ⟨T.g_is_number_within, F.kp, fd, F.bindsN (fun _ _ _ _ _ _ us hl => match us, hl with | [_, _, _], _ => rfl), F.ok sc_is_number_within (fun vs H Q E h => ?_) (fun cdv A outer s H vs Q E hr h => ⟨_, PSs.nox (pss_one (ps_ret (pe_and (pe_own C_is_number hr rfl (pa_cons (pv 0) pa_nil)) (pe_one (pe_chain op_le op_le (pv 1) (pv 0) (pv 2)))))), ?_⟩)⟩
  · obtain ⟨v, lo, hi, rfl, _⟩ := h
    rfl
  · obtain ⟨v, lo, hi, rfl, a, q⟩ := h
    refine ⟨_, rfl, v, rfl, a, _, rfl, ite2 (fun c => ?_) (fun c => ?_)⟩
    · obtain ⟨i, rfl⟩ : ∃ i, v = .int i := by cases v <;> first | exact ⟨_, rfl⟩ | cases c
      refine ⟨_, rfl, _, rfl, _, _, rfl, rfl, _, rfl, ?_⟩
      cases e : decide (lo ≤ i) with
      | true =>
        refine iteT ⟨_, rfl, _, _, rfl, rfl, ?_⟩
        have z : within (.int i) lo hi = decide (i ≤ hi) := by
          show (decide (lo ≤ i) && decide (i ≤ hi)) = _
          rw [e, Bool.true_and]
        rw [z] at q
        exact q
      | false =>
        refine iteF ?_
        have z : within (.int i) lo hi = false := by
          show (decide (lo ≤ i) && decide (i ≤ hi)) = _
          rw [e, Bool.false_and]
        rw [z] at q
        exact q
    · have z : within v lo hi = false := by cases v <;> first | rfl | exact absurd rfl c
      rw [z] at q
      exact q

/-! ## check_size -/
abbrev n_check_size : List Str := ["size"]
theorem sc_check_size : FnScope n_check_size ["size"] (defScope s_check_size) := ⟨rfl, rfl, rfl, by decide +kernel, rfl, by decide +kernel, by decide +kernel⟩
theorem ok_check_size (T : Txt K mg) (C_is_number_within : Good P w K mg base CX0 2 "is_number_within" ["value", "low", "high"] sp_within) : Good P w K mg base (L2.CX P w) 3 "check_size" ["size"] (sp_check_size K) := by
  obtain ⟨fd, F⟩ := T.d_check_size
  obtain ⟨_, c_MOST_SIZE⟩ := T.c_MOST_SIZE
  refine ⟨T.g_check_size, F.kp, fd, F.bindsN (fun _ _ _ _ _ _ us hl => match us, hl with | [_], _ => rfl), F.ok sc_check_size (fun vs H Q E h => ?_) (fun cdv A outer s H vs Q E hr h => ⟨_, (pss_one (ps_if (pt_not (pt_val (pe_own C_is_number_within hr rfl (pa_cons (pv 0) (pa_cons pe_int (pa_cons (pe_glob (v := .int (1000)) rfl c_MOST_SIZE ⟨_, rfl⟩) pa_nil)))))) (pss_one (ps_raise rfl (takes_of rfl rfl rfl rfl) (pmk_own PySem.F.excBase_ValueError T.BadSize.x T.BadSize.g T.BadSize.k (raises_own T.BadSize.b T.BadSize.t) rfl))) pss_nil)), ?_⟩)⟩
  · obtain ⟨v, rfl, _⟩ := h
    rfl
  · obtain ⟨v, rfl, a, kE, kQ⟩ := h
    refine ⟨_, rfl, v, 1, 1000, rfl, a, _, rfl, ?_⟩
    cases c : within v 1 1000 with
    | true => exact iteF (kQ c)
    | false => exact iteT (kE c)

/-! ## spot_of -/
abbrev n_spot_of : List Str := ["x", "y", "by", "shared"]
theorem sc_spot_of : FnScope n_spot_of ["x", "y", "by"] (defScope s_spot_of) := ⟨rfl, rfl, rfl, by decide +kernel, rfl, by decide +kernel, by decide +kernel⟩
theorem ok_spot_of (T : Txt K mg) (C_is_number : Good P w K mg base CX0 1 "is_number" ["value"] sp_num) :
    Good P w K mg base (L2.CX P w) 2 "spot_of" ["x", "y", "by"] (sp_spot_of K) := by
  obtain ⟨fd, F⟩ := T.d_spot_of
  refine ⟨T.g_spot_of, F.kp, fd, F.bindsN (fun _ _ _ _ _ _ us hl => match us, hl with | [_, _, _], _ => rfl), F.ok sc_spot_of (fun vs H Q E h => ?_) (fun cdv A outer s H vs Q E hr h => ⟨_, (pss_cons (ps_if (pt_not (PW.pt (pw_and (pt_val (pe_own C_is_number hr rfl (pa_cons (pv 0) pa_nil))) (pw_and (pt_val (pe_own C_is_number hr rfl (pa_cons (pv 1) pa_nil))) (pw_and1 (pt_val (pe_own C_is_number hr rfl (pa_cons (pv 2) pa_nil)))))))) (pss_one (ps_raise rfl (takes_of rfl rfl rfl rfl) (pmk_own PySem.F.excBase_ValueError T.BadSpot.x T.BadSpot.g T.BadSpot.k (raises_own T.BadSpot.b T.BadSpot.t) rfl))) pss_nil)
    (pss_cons (ps_if (pt_cmpR op_eq (pv 2) pe_int (nomark _)) (pss_one (ps_raise rfl (takes_of rfl rfl rfl rfl) (pmk_own PySem.F.excBase_ValueError T.BadSpot.x T.BadSpot.g T.BadSpot.k (raises_own T.BadSpot.b T.BadSpot.t) rfl))) pss_nil)
    (pss_cons (ps_set (i := 3) sc_spot_of.nd rfl (Or.inl rfl) (pe_callBfun call_gcd3 (by rfl) T.gcd (pa_cons (pv 0) (pa_cons (pv 1) (pa_cons (pv 2) pa_nil)))))
    (pss_cons (ps_if (pt_cmpR op_lt (pv 2) pe_int (nomark _)) (pss_one (ps_set (i := 3) sc_spot_of.nd rfl (Or.inl rfl) (pe_un un_neg (pv 3)))) pss_nil)
    (pss_one (ps_ret (pe_tup (pa_cons (pe_op op_fdivA (pv 0) (pv 3)) (pa_cons (pe_op op_fdivA (pv 1) (pv 3)) (pa_cons (pe_op op_fdivA (pv 2) (pv 3)) pa_nil)))))))))), ?_⟩)⟩
  · obtain ⟨x, y, b, rfl, _⟩ := h
    rfl
  · obtain ⟨x, y, b, rfl, ax, ay, ab, kE, kQ⟩ := h
    refine ⟨_, rfl, x, rfl, ax, _, rfl, ite2 (fun cx => ?_) (fun cx => iteT (kE (.inl ?_)))⟩
    · refine ⟨_, rfl, y, rfl, ay, _, rfl, ite2 (fun cy => ?_) (fun cy => iteT (kE (.inl ?_)))⟩
      · refine ⟨_, rfl, b, rfl, ab, _, rfl, ?_⟩
        cases cb : isNum b with
        | false => exact iteT (kE (.inl (by rw [cb, Bool.and_false])))
        | true =>
          refine iteF ?_
          obtain ⟨i, rfl⟩ : ∃ i, x = .int i := by cases x <;> first | exact ⟨_, rfl⟩ | cases cx
          obtain ⟨j, rfl⟩ : ∃ j, y = .int j := by cases y <;> first | exact ⟨_, rfl⟩ | cases cy
          obtain ⟨k, rfl⟩ : ∃ k, b = .int k := by cases b <;> first | exact ⟨_, rfl⟩ | cases cb
          refine ⟨_, rfl, rfl, _, rfl, ite2 (fun c => kE (.inr ?_)) (fun c => ?_)⟩
          · exact of_decide_eq_true c
          · have k0 : k ≠ 0 := fun z => c (decide_eq_true (congrArg V.int z))
            obtain ⟨hk, kP⟩ := kQ i j k rfl rfl rfl k0
            have L := gcd_low (x := i) (y := j) k0 _ rfl
            have fin : ∀ s : Int, s = (if k < 0 then -(((Nat.gcd (Nat.gcd i.natAbs j.natAbs) k.natAbs : Nat)) : Int) else ((Nat.gcd (Nat.gcd i.natAbs j.natAbs) k.natAbs : Nat) : Int)) →
                tRet (tTup (tCons (tOp (rI CDivA fun i j => .int (i.fdiv j)) (tVar 0) (tVar 3)) (tCons (tOp (rI CDivA fun i j => .int (i.fdiv j)) (tVar 1) (tVar 3)) (tCons (tOp (rI CDivA fun i j => .int (i.fdiv j)) (tVar 2) (tVar 3)) tNil))))
                  { nx := fun _ H' => Q .non H', rt := Q } [some (.int i), some (.int j), some (.int k), some (.int s)] H := by
              intro s hs
              obtain ⟨s0, sk, low, e1, e2⟩ := gcd_low (x := i) (y := j) k0 s hs
              have sz : s.natAbs < 2 ^ 8000 := Nat.lt_of_le_of_lt sk hk
              have cd : ∀ n, CDivA n s := fun n => divA s0 sz (by decide) (by decide)
              refine ⟨_, rfl, _, rfl, _, _, rfl, rfl, cd _, ?_⟩
              refine ⟨_, rfl, _, rfl, _, _, rfl, rfl, cd _, ?_⟩
              refine ⟨_, rfl, _, rfl, _, _, rfl, rfl, cd _, ?_⟩
              exact ⟨(by show 3 ≤ sizeLine; decide), fun p hp => kP _ _ _ p low e1 e2 hp⟩
            refine ⟨_, rfl, _, rfl, _, rfl, _, _, _, rfl, ?_⟩
            refine ⟨_, rfl, _, _, rfl, rfl, _, rfl, ite2 (fun d => ?_) (fun d => ?_)⟩
            · have d1 : k < 0 := of_decide_eq_true d
              exact ⟨_, rfl, _, rfl, fin _ (by rw [if_pos d1])⟩
            · have d1 : ¬ k < 0 := fun z => d (decide_eq_true z)
              exact fin _ (by rw [if_neg d1])
      · have : isNum y = false := by simpa using cy
        rw [this, Bool.and_false, Bool.false_and]
    · have : isNum x = false := by simpa using cx
      rw [this, Bool.false_and, Bool.false_and]

/-! ## _twice_triangle -/
abbrev n_twice_triangle : List Str := ["one", "two", "three", "x", "y", "by"]
theorem sc_twice_triangle : FnScope n_twice_triangle ["one", "two", "three"] (defScope s_twice_triangle) := ⟨rfl, rfl, rfl, by decide +kernel, rfl, by decide +kernel, by decide +kernel⟩
theorem ok_twice_triangle (T : Txt K mg) : Good P w K mg base CX0 1 "_twice_triangle" ["one", "two", "three"] (sp_tri K id) := by
  obtain ⟨fd, F⟩ := T.d_twice_triangle
  refine ⟨T.g_twice_triangle, F.kp, fd, F.bindsN (fun _ _ _ _ _ _ us hl => match us, hl with | [_, _, _], _ => rfl), F.ok sc_twice_triangle (fun vs H Q E h => ?_) (fun cdv A outer s H vs Q E hr h => ⟨_, PSs.nox (pss_cons (ps_asg (pv 0) (pg_tup (by rfl) (pgs_cons (pg_name (i := 3) sc_twice_triangle.nd rfl (Or.inl rfl)) (pgs_cons (pg_name (i := 4) sc_twice_triangle.nd rfl (Or.inl rfl)) (pgs_cons (pg_name (i := 5) sc_twice_triangle.nd rfl (Or.inl rfl)) pgs_nil)))))
    (pss_one (ps_ret (pe_op op_add (pe_op op_sub (pe_op op_mulW (pv 3) (pe_op op_sub (pe_op op_mulW (pe_ix ix_tup (pv 1) pe_int (fun _ _ => rfl)) (pe_ix ix_tup (pv 2) pe_int (fun _ _ => rfl))) (pe_op op_mulW (pe_ix ix_tup (pv 2) pe_int (fun _ _ => rfl)) (pe_ix ix_tup (pv 1) pe_int (fun _ _ => rfl))))) (pe_op op_mulW (pv 4) (pe_op op_sub (pe_op op_mulW (pe_ix ix_tup (pv 1) pe_int (fun _ _ => rfl)) (pe_ix ix_tup (pv 2) pe_int (fun _ _ => rfl))) (pe_op op_mulW (pe_ix ix_tup (pv 2) pe_int (fun _ _ => rfl)) (pe_ix ix_tup (pv 1) pe_int (fun _ _ => rfl)))))) (pe_op op_mulW (pv 5) (pe_op op_sub (pe_op op_mulW (pe_ix ix_tup (pv 1) pe_int (fun _ _ => rfl)) (pe_ix ix_tup (pv 2) pe_int (fun _ _ => rfl))) (pe_op op_mulW (pe_ix ix_tup (pv 2) pe_int (fun _ _ => rfl)) (pe_ix ix_tup (pv 1) pe_int (fun _ _ => rfl))))))))), ?_⟩)⟩
  · obtain ⟨p, q, r, x, y, b, x2, y2, b2, x3, y3, b3, rfl, _⟩ := h
    rfl
  · obtain ⟨p, q, r, x, y, b, x2, y2, b2, x3, y3, b3, rfl, hp, hq, hr', z1, z2, z3, k⟩ := h
    refine ⟨_, rfl, p, _, rfl, hp, rfl, _, _, rfl, _, _, rfl, _, _, rfl, rfl, ?_⟩
    have m : ∀ {u v : Int}, Sz 1000 u → Sz 1000 v → CMulW u v := fun h k => h.ok k (by decide) (by decide) (by decide)
    have m2 : ∀ {u v : Int}, Sz 1000 u → Sz 2001 v → CMulW u v := fun h k => h.ok k (by decide) (by decide) (by decide)
    have d : ∀ {u v s t : Int}, Sz 1000 u → Sz 1000 v → Sz 1000 s → Sz 1000 t → Sz 2001 (u * v - s * t) := fun h1 h2 h3 h4 => (h1.mul h2).sub (h3.mul h4)
    refine ⟨_, rfl, ?_⟩
    refine ⟨_, rfl, q, _, 1, .int y2, rfl, rfl, hq, rfl, _, rfl, r, _, 2, .int b3, rfl, rfl, hr', rfl, y2, b3, rfl, rfl, m z2.y z3.b, ?_⟩
    refine ⟨_, rfl, r, _, 1, .int y3, rfl, rfl, hr', rfl, _, rfl, q, _, 2, .int b2, rfl, rfl, hq, rfl, y3, b2, rfl, rfl, m z3.y z2.b, _, _, rfl, rfl, ?_⟩
    refine ⟨_, _, rfl, rfl, m2 z1.x (d z2.y z3.b z3.y z2.b), ?_⟩
    refine ⟨_, rfl, ?_⟩
    refine ⟨_, rfl, q, _, 0, .int x2, rfl, rfl, hq, rfl, _, rfl, r, _, 2, .int b3, rfl, rfl, hr', rfl, x2, b3, rfl, rfl, m z2.x z3.b, ?_⟩
    refine ⟨_, rfl, r, _, 0, .int x3, rfl, rfl, hr', rfl, _, rfl, q, _, 2, .int b2, rfl, rfl, hq, rfl, x3, b2, rfl, rfl, m z3.x z2.b, _, _, rfl, rfl, ?_⟩
    refine ⟨_, _, rfl, rfl, m2 z1.y (d z2.x z3.b z3.x z2.b), _, _, rfl, rfl, ?_⟩
    refine ⟨_, rfl, ?_⟩
    refine ⟨_, rfl, q, _, 0, .int x2, rfl, rfl, hq, rfl, _, rfl, r, _, 1, .int y3, rfl, rfl, hr', rfl, x2, y3, rfl, rfl, m z2.x z3.y, ?_⟩
    refine ⟨_, rfl, r, _, 0, .int x3, rfl, rfl, hr', rfl, _, rfl, q, _, 1, .int y2, rfl, rfl, hq, rfl, x3, y2, rfl, rfl, m z3.x z2.y, _, _, rfl, rfl, ?_⟩
    exact ⟨_, _, rfl, rfl, m2 z1.b (d z2.x z3.y z3.x z2.y), _, _, rfl, rfl, k⟩

/-! ## turn -/
abbrev n_turn : List Str := ["one", "two", "three", "side"]
theorem sc_turn : FnScope n_turn ["one", "two", "three"] (defScope s_turn) := ⟨rfl, rfl, rfl, by decide +kernel, rfl, by decide +kernel, by decide +kernel⟩
theorem ok_turn (T : Txt K mg) (C_twice_triangle : Good P w K mg base CX0 1 "_twice_triangle" ["one", "two", "three"] (sp_tri K id)) : Good P w K mg base CX0 2 "turn" ["one", "two", "three"] (sp_tri K sgn) := by
  obtain ⟨fd, F⟩ := T.d_turn
  refine ⟨T.g_turn, F.kp, fd, F.bindsN (fun _ _ _ _ _ _ us hl => match us, hl with | [_, _, _], _ => rfl), F.ok sc_turn (fun vs H Q E h => ?_) (fun cdv A outer s H vs Q E hr h => ⟨_, PSs.nox (pss_cons (ps_set (i := 3) sc_turn.nd rfl (Or.inl rfl) (pe_own C_twice_triangle hr rfl (pa_cons (pv 0) (pa_cons (pv 1) (pa_cons (pv 2) pa_nil)))))
    (pss_cons (ps_if (pt_cmpR op_gt (pv 3) pe_int (nomark _)) (pss_one (ps_ret pe_int)) pss_nil)
    (pss_cons (ps_if (pt_cmpR op_lt (pv 3) pe_int (nomark _)) (pss_one (ps_ret (pe_un un_neg pe_int))) pss_nil)
    (pss_one (ps_ret pe_int))))), ?_⟩)⟩
  · obtain ⟨p, q, r, x, y, b, x2, y2, b2, x3, y3, b3, rfl, _⟩ := h
    rfl
  · obtain ⟨p, q, r, x, y, b, x2, y2, b2, x3, y3, b3, rfl, hp, hq, hr', z1, z2, z3, k⟩ := h
    refine ⟨_, rfl, _, rfl, _, rfl, p, q, r, x, y, b, x2, y2, b2, x3, y3, b3, rfl, hp, hq, hr', z1, z2, z3, ?_⟩
    generalize e : triI x y b x2 y2 b2 x3 y3 b3 = t at k
    show gName 3 (V.int t) _ _ _
    refine gName_go ?_
    refine ⟨_, rfl, _, _, rfl, rfl, _, rfl, ite2 (fun c => ?_) (fun c => ?_)⟩
    · have c1 : 0 < t := of_decide_eq_true c
      unfold sgn at k
      rw [if_pos c1] at k
      exact k
    · have c1 : ¬ 0 < t := fun z => c (decide_eq_true z)
      refine ⟨_, rfl, _, _, rfl, rfl, _, rfl, ite2 (fun d => ?_) (fun d => ?_)⟩
      · have d1 : t < 0 := of_decide_eq_true d
        unfold sgn at k
        rw [if_neg c1, if_pos d1] at k
        exact ⟨_, rfl, k⟩
      · have d1 : ¬ t < 0 := fun z => d (decide_eq_true z)
        unfold sgn at k
        rw [if_neg c1, if_neg d1] at k
        exact k

/-! ## _is_slope -/
abbrev n_is_slope : List Str := ["value"]
theorem sc_is_slope : FnScope n_is_slope ["value"] (defScope s_is_slope) := ⟨rfl, rfl, rfl, by decide +kernel, rfl, by decide +kernel, by decide +kernel⟩
theorem ok_is_slope (T : Txt K mg) (C_is_number_within : Good P w K mg base CX0 2 "is_number_within" ["value", "low", "high"] sp_within) : Good P w K mg base CX0 3 "_is_slope" ["value"] sp_slope := by
  obtain ⟨fd, F⟩ := T.d_is_slope
  obtain ⟨_, c_MOST_SLOPE⟩ := T.c_MOST_SLOPE
  refine ⟨T.g_is_slope, F.kp, fd, F.bindsN (fun _ _ _ _ _ _ us hl => match us, hl with | [_], _ => rfl), F.ok sc_is_slope (fun vs H Q E h => ?_) (fun cdv A outer s H vs Q E hr h => ⟨_, PSs.nox (pss_one (ps_ret (pe_own C_is_number_within hr rfl (pa_cons (pv 0) (pa_cons (pe_un un_neg (pe_glob (v := .int (1000)) rfl c_MOST_SLOPE ⟨_, rfl⟩)) (pa_cons (pe_glob (v := .int (1000)) rfl c_MOST_SLOPE ⟨_, rfl⟩) pa_nil)))))), ?_⟩)⟩
  · obtain ⟨v, rfl, _⟩ := h
    rfl
  · obtain ⟨v, rfl, a, q⟩ := h
    exact ⟨_, rfl, 1000, rfl, v, -1000, 1000, rfl, a, q⟩

/-! ## fence_of -/
abbrev n_fence_of : List Str := ["a", "b", "c"]
theorem sc_fence_of : FnScope n_fence_of ["a", "b", "c"] (defScope s_fence_of) := ⟨rfl, rfl, rfl, by decide +kernel, rfl, by decide +kernel, by decide +kernel⟩
theorem ok_fence_of (T : Txt K mg) (C_is_number_within : Good P w K mg base CX0 2 "is_number_within" ["value", "low", "high"] sp_within) (C_is_slope : Good P w K mg base CX0 3 "_is_slope" ["value"] sp_slope) :
    Good P w K mg base (L2.CX P w) 4 "fence_of" ["a", "b", "c"] (sp_fence_of K) := by
  obtain ⟨fd, F⟩ := T.d_fence_of
  obtain ⟨_, c_MOST_OFFSET⟩ := T.c_MOST_OFFSET
  refine ⟨T.g_fence_of, F.kp, fd, F.bindsN (fun _ _ _ _ _ _ us hl => match us, hl with | [_, _, _], _ => rfl), F.ok sc_fence_of (fun vs H Q E h => ?_) (fun cdv A outer s H vs Q E hr h => ⟨_, (pss_cons (ps_if (pt_not (PW.pt (pw_and (pt_val (pe_own C_is_slope hr rfl (pa_cons (pv 0) pa_nil))) (pw_and1 (pt_val (pe_own C_is_slope hr rfl (pa_cons (pv 1) pa_nil))))))) (pss_one (ps_raise rfl (takes_of rfl rfl rfl rfl) (pmk_own PySem.F.excBase_ValueError T.BadFence.x T.BadFence.g T.BadFence.k (raises_own T.BadFence.b T.BadFence.t) rfl))) pss_nil)
    (pss_cons (ps_if (PW.pt (pw_and (pt_cmpR op_eq (pv 0) pe_int (nomark _)) (pw_and1 (pt_cmpR op_eq (pv 1) pe_int (nomark _))))) (pss_one (ps_raise rfl (takes_of rfl rfl rfl rfl) (pmk_own PySem.F.excBase_ValueError T.BadFence.x T.BadFence.g T.BadFence.k (raises_own T.BadFence.b T.BadFence.t) rfl))) pss_nil)
    (pss_cons (ps_if (pt_not (pt_val (pe_own C_is_number_within (hr.mono (by decide)) rfl (pa_cons (pv 2) (pa_cons (pe_un un_neg (pe_glob (v := .int (1000000)) rfl c_MOST_OFFSET ⟨_, rfl⟩)) (pa_cons (pe_glob (v := .int (1000000)) rfl c_MOST_OFFSET ⟨_, rfl⟩) pa_nil)))))) (pss_one (ps_raise rfl (takes_of rfl rfl rfl rfl) (pmk_own PySem.F.excBase_ValueError T.BadFence.x T.BadFence.g T.BadFence.k (raises_own T.BadFence.b T.BadFence.t) rfl))) pss_nil)
    (pss_one (ps_ret (pe_tup (pa_cons (pv 0) (pa_cons (pv 1) (pa_cons (pv 2) pa_nil))))))))), ?_⟩)⟩
  · obtain ⟨x, y, z, rfl, _⟩ := h
    rfl
  · obtain ⟨x, y, z, rfl, ax, ay, az, kE, kQ⟩ := h
    refine ⟨_, rfl, x, rfl, ax, _, rfl, ite2 (fun cx => ?_) (fun cx => iteT (kE ?_))⟩
    · refine ⟨_, rfl, y, rfl, ay, _, rfl, ?_⟩
      cases cy : within y (-1000) 1000 with
      | false => exact iteT (kE (by unfold fenceOk; rw [cy, Bool.and_false, Bool.false_and, Bool.false_and]))
      | true =>
        obtain ⟨i, rfl⟩ := within_int cx
        obtain ⟨j, rfl⟩ := within_int cy
        refine iteF (next_go ?_)
        refine if_cut (fun σ' H' => σ' = [some (.int i), some (.int j), some z] ∧ H' = H ∧ ¬ (i = 0 ∧ j = 0)) ?_ ?_
        · rintro σ' H' ⟨rfl, rfl, n0⟩
          refine ⟨_, rfl, 1000000, rfl, z, -1000000, 1000000, rfl, az, _, rfl, ?_⟩
          have nd : decide (V.int i = V.int 0 ∧ V.int j = V.int 0) = false := decide_eq_false fun ⟨e1, e2⟩ => n0 ⟨V.int.inj e1, V.int.inj e2⟩
          cases cz : within z (-1000000) 1000000 with
          | false => exact iteT (kE (by unfold fenceOk; rw [cz, Bool.and_false]))
          | true => exact iteF ⟨_, rfl, _, rfl, _, rfl, (by show 3 ≤ sizeLine; decide), fun p hp => kQ (by unfold fenceOk; rw [cx, cy, cz, nd]; rfl) p hp⟩
        · intro go
          refine ⟨_, rfl, rfl, _, rfl, ?_⟩
          cases c1 : decide (V.int i = V.int 0) with
          | true =>
            have e1 : i = 0 := V.int.inj (of_decide_eq_true c1)
            refine iteT ⟨_, rfl, rfl, _, rfl, ?_⟩
            cases c2 : decide (V.int j = V.int 0) with
            | true =>
              have e2 := of_decide_eq_true c2
              refine iteT (kE ?_)
              unfold fenceOk
              rw [decide_eq_true (show V.int i = V.int 0 ∧ V.int j = V.int 0 from ⟨congrArg V.int e1, e2⟩)]
              simp
            | false => exact iteF (go _ _ ⟨rfl, rfl, fun ⟨_, e2⟩ => of_decide_eq_false c2 (congrArg V.int e2)⟩)
          | false => exact iteF (iteF (go _ _ ⟨rfl, rfl, fun ⟨e1, _⟩ => of_decide_eq_false c1 (congrArg V.int e1)⟩))
    · have : within x (-1000) 1000 = false := by simpa using cx
      unfold fenceOk
      rw [this, Bool.false_and, Bool.false_and, Bool.false_and]

/-! ## check_fence -/
abbrev n_check_fence : List Str := ["value", "a", "b", "c"]
theorem sc_check_fence : FnScope n_check_fence ["value"] (defScope s_check_fence) := ⟨rfl, rfl, rfl, by decide +kernel, rfl, by decide +kernel, by decide +kernel⟩
theorem ok_check_fence (T : Txt K mg) (C_fence_of : Good P w K mg base (L2.CX P w) 4 "fence_of" ["a", "b", "c"] (sp_fence_of K)) : Good P w K mg base (L2.CX P w) 5 "check_fence" ["value"] (sp_check_fence K) := by
  obtain ⟨fd, F⟩ := T.d_check_fence
  refine ⟨T.g_check_fence, F.kp, fd, F.bindsN (fun _ _ _ _ _ _ us hl => match us, hl with | [_], _ => rfl), F.ok sc_check_fence (fun vs H Q E h => ?_) (fun cdv A outer s H vs Q E hr h => ⟨_, (pss_cons (ps_if (pt_not (PW.pt (pw_and (pt_val (pe_callB call_isi (by rfl) T.m_isinstance (by decide +kernel) (pa_cons (pv 0) (pa_cons (pe_bltn (v := .ty "tuple") (by rfl) T.m_tuple (by decide +kernel) rfl) pa_nil)))) (pw_and1 (pt_cmpR op_eq (pe_callB call_len_seq (by rfl) T.m_len PySem.boot_len (pa_cons (pv 0) pa_nil)) pe_int (nomark _)))))) (pss_one (ps_raise rfl (takes_of rfl rfl rfl rfl) (pmk_own PySem.F.excBase_ValueError T.BadFence.x T.BadFence.g T.BadFence.k (raises_own T.BadFence.b T.BadFence.t) rfl))) pss_nil)
    (pss_cons (ps_asg (pv 0) (pg_tup (by rfl) (pgs_cons (pg_name (i := 1) sc_check_fence.nd rfl (Or.inl rfl)) (pgs_cons (pg_name (i := 2) sc_check_fence.nd rfl (Or.inl rfl)) (pgs_cons (pg_name (i := 3) sc_check_fence.nd rfl (Or.inl rfl)) pgs_nil)))))
    (pss_one (ps_expr (pe_ownR C_fence_of hr (takes_of rfl rfl rfl rfl) (fun _ _ _ _ h => h) rfl (pa_cons (pv 1) (pa_cons (pv 2) (pa_cons (pv 3) pa_nil)))))))), ?_⟩)⟩
  · obtain ⟨x, rfl, _⟩ := h
    rfl
  · obtain ⟨x, rfl, f, kE, kQ⟩ := h
    obtain ⟨t, ty, kt⟩ := f.tuple (K := K)
    refine ⟨_, rfl, x, _, _, _, _, rfl, .ty _, ty, kt, ?_⟩
    cases c : isTup H x with
    | false => exact ⟨_, rfl, iteF (iteT (kE (fun z => by rw [z.tup] at c; cases c) H (Same.refl H)))⟩
    | true =>
      obtain ⟨p, vs, rfl, hp, items⟩ := f.isTup c
      refine ⟨_, rfl, iteT ⟨_, rfl, p, _, rfl, .inr (SqT.of hp), rfl, _, rfl, ?_⟩⟩
      by_cases l3 : vs.length = 3
      · rw [decide_eq_true (show V.int (vs.length : Int) = V.int 3 by rw [l3]; rfl)]
        obtain ⟨a, b, c, rfl⟩ : ∃ a b c, vs = [a, b, c] := by
          match vs, l3 with
          | [a, b, c], _ => exact ⟨a, b, c, rfl⟩
        refine iteF (next_go ?_)
        refine ⟨_, rfl, p, _, rfl, SqT.of hp, rfl, _, _, rfl, _, _, rfl, _, _, rfl, rfl, ?_⟩
        refine ⟨_, rfl, _, rfl, _, rfl, a, b, c, rfl, items _ (by simp), items _ (by simp), items _ (by simp), fun no => kE ?_ H (Same.refl H), fun ok q hq => kQ ⟨p, a, b, c, rfl, hp, ok⟩ _ (same_upd hq)⟩
        rintro ⟨p', a', b', c', e, h', ok'⟩
        cases e
        rw [hp] at h'
        have h' := HO.tup.inj (Option.some.inj h')
        simp at h'
        rw [← h'.1, ← h'.2.1, ← h'.2.2, no] at ok'
        cases ok'
      · rw [decide_eq_false (show ¬ V.int (vs.length : Int) = V.int 3 from fun z => l3 (by have := V.int.inj z; omega))]
        refine iteT (kE ?_ H (Same.refl H))
        rintro ⟨p', a', b', c', e, h', ok'⟩
        cases e
        rw [hp] at h'
        rw [HO.tup.inj (Option.some.inj h')] at l3
        exact l3 rfl

/-! ## edges -/
abbrev n_edges : List Str := ["size"]
theorem sc_edges : FnScope n_edges ["size"] (defScope s_edges) := ⟨rfl, rfl, rfl, by decide +kernel, rfl, by decide +kernel, by decide +kernel⟩
theorem ok_edges (T : Txt K mg) (C_check_size : Good P w K mg base (L2.CX P w) 3 "check_size" ["size"] (sp_check_size K)) : Good P w K mg base (L2.CX P w) 4 "edges" ["size"] (sp_edges K) := by
  obtain ⟨fd, F⟩ := T.d_edges
  refine ⟨T.g_edges, F.kp, fd, F.bindsN (fun _ _ _ _ _ _ us hl => match us, hl with | [_], _ => rfl), F.ok sc_edges (fun vs H Q E h => ?_) (fun cdv A outer s H vs Q E hr h => ⟨_, (pss_cons (ps_expr (pe_ownR C_check_size hr (takes_of rfl rfl rfl rfl) (fun _ _ _ _ h => h) rfl (pa_cons (pv 0) pa_nil)))
    (pss_one (ps_ret (pe_lst (pa_cons (pe_tup (pa_cons (pe_un un_neg pe_int) (pa_cons pe_int (pa_cons pe_int pa_nil)))) (pa_cons (pe_tup (pa_cons pe_int (pa_cons (pe_un un_neg pe_int) (pa_cons pe_int pa_nil)))) (pa_cons (pe_tup (pa_cons pe_int (pa_cons pe_int (pa_cons (pv 0) pa_nil)))) (pa_cons (pe_tup (pa_cons pe_int (pa_cons pe_int (pa_cons (pv 0) pa_nil)))) pa_nil)))))))), ?_⟩)⟩
  · obtain ⟨v, rfl, _⟩ := h
    rfl
  · obtain ⟨v, rfl, a, kE, kQ⟩ := h
    refine ⟨_, rfl, v, rfl, a, kE, fun c => ?_⟩
    obtain ⟨n, rfl⟩ := within_int c
    refine ⟨1, rfl, by show 3 ≤ sizeLine; decide, fun p0 h0 => ?_⟩
    refine ⟨1, rfl, by show 3 ≤ sizeLine; decide, fun p1 h1 => ?_⟩
    refine ⟨_, rfl, by show 3 ≤ sizeLine; decide, fun p2 h2 => ?_⟩
    refine ⟨_, rfl, by show 3 ≤ sizeLine; decide, fun p3 h3 => ?_⟩
    refine ⟨by show 4 ≤ sizeLine; decide, fun l hl => ?_⟩
    have s0 := same_upd (o := .tup [.int (-1), .int 0, .int 0]) h0
    have s1 := same_upd (o := .tup [.int 0, .int (-1), .int 0]) h1
    have s2 := same_upd (o := .tup [.int 1, .int 0, .int n]) h2
    have s3 := same_upd (o := .tup [.int 0, .int 1, .int n]) h3
    have s4 := same_upd (o := .lst [.ref p0, .ref p1, .ref p2, .ref p3]) hl
    refine kQ n rfl c _ l p0 p1 p2 p3 ⟨(((s0.trans s1).trans s2).trans s3).trans s4, (((s0.trans s1).trans s2).trans s3).free hl, upd_same, ?_, ?_, ?_, ?_⟩
    · exact s4 _ _ (s3 _ _ (s2 _ _ (s1 _ _ upd_same)))
    · exact s4 _ _ (s3 _ _ (s2 _ _ upd_same))
    · exact s4 _ _ (s3 _ _ upd_same)
    · exact s4 _ _ upd_same

/-! ## fences_and_edges -/
abbrev n_fences_and_edges : List Str := ["size", "fences", "behind", "fence"]
theorem sc_fences_and_edges : FnScope n_fences_and_edges ["size", "fences"] (defScope s_fences_and_edges) := ⟨rfl, rfl, rfl, by decide +kernel, rfl, by decide +kernel, by decide +kernel⟩
theorem ok_fences_and_edges (T : Txt K mg) (C_edges : Good P w K mg base (L2.CX P w) 4 "edges" ["size"] (sp_edges K)) (C_check_fence : Good P w K mg base (L2.CX P w) 5 "check_fence" ["value"] (sp_check_fence K)) :
    Good P w K mg base (L2.CX P w) 6 "fences_and_edges" ["size", "fences"] (sp_fences_and_edges K) := by
  obtain ⟨fd, F⟩ := T.d_fences_and_edges
  obtain ⟨_, c_MOST_FENCES⟩ := T.c_MOST_FENCES
  refine ⟨T.g_fences_and_edges, F.kp, fd, F.bindsN (fun _ _ _ _ _ _ us hl => match us, hl with | [_, _], _ => rfl), F.ok sc_fences_and_edges (fun vs H Q E h => ?_) (fun cdv A outer s H vs Q E hr h => ⟨_, (pss_cons (ps_set (i := 2) sc_fences_and_edges.nd rfl (Or.inl rfl) (pe_ownR C_edges (hr.mono (by decide)) (takes_of rfl rfl rfl rfl) (fun _ _ _ _ h => h) rfl (pa_cons (pv 0) pa_nil)))
    (pss_cons (ps_if (pt_cmpR op_gt (pe_callB call_len_seq (by rfl) T.m_len PySem.boot_len (pa_cons (pv 1) pa_nil)) (pe_glob (v := .int (16)) rfl c_MOST_FENCES ⟨_, rfl⟩) (nomark _)) (pss_one (ps_raise rfl (takes_of rfl rfl rfl rfl) (pmk_own PySem.F.excBase_ValueError T.TooMany.x T.TooMany.g T.TooMany.k (raises_own T.TooMany.b T.TooMany.t) rfl))) pss_nil)
    (pss_cons (ps_for (passes_of rfl) rfl (pi_list (pv 1)) (pg_name (i := 3) sc_fences_and_edges.nd rfl (Or.inl rfl))
    (pss_one (ps_expr (pe_ownR C_check_fence hr (takes_of rfl rfl rfl rfl) (fun _ _ _ _ h => h) rfl (pa_cons (pv 3) pa_nil)))))
    (pss_one (ps_ret (pe_lst (StX.pa_star (pv 1) (StX.pa_star (pv 2) pa_nil)))))))), ?_⟩)⟩
  · obtain ⟨v, l, rfl, _⟩ := h
    rfl
  · obtain ⟨v, l, rfl, av, xs, hl, it, no, good⟩ := h
    refine ⟨_, rfl, v, rfl, av, fun z => no.size z H (Same.refl H), fun n ev w H1 b p0 p1 p2 p3 ed => gName_go ?_⟩
    have hl1 := ed.same _ _ hl
    refine ⟨_, rfl, l, _, rfl, .inl (SqL.of hl1), _, _, rfl, rfl, _, rfl, ite2 (fun z => ?_) (fun z => next_go ?_)⟩
    · have z : (16 : Int) < (xs.length : Int) := of_decide_eq_true z
      exact no.many w (by omega) H1 ed.same
    have l16 : xs.length ≤ 16 := by
      have z : ¬ (16 : Int) < (xs.length : Int) := fun k => z (decide_eq_true k)
      omega
    refine ⟨_, rfl, l, rfl, ⟨_, SqL.of hl1⟩, for_list (xs := xs) (fun i σ H' => (∃ z, σ = [some v, some (.ref l), some (.ref b), z]) ∧ Same H1 H' ∧ ∀ x ∈ xs.take i, IsFence H x) ⟨⟨none, rfl⟩, Same.refl _, fun x hx => absurd hx List.not_mem_nil⟩
      (fun i σ H' _ z => SqL.of (z.2.1 _ _ hl1)) ?_ ?_⟩
    · rintro i x σ H' hi ⟨⟨z, rfl⟩, s, al⟩
      have mem := List.mem_of_getElem? hi
      have t := ed.same.trans s
      refine ⟨_, rfl, x, rfl, (it x mem).up t, fun nf H2 s2 => no.fence w l16 ⟨x, mem, fun k => nf ?_⟩ H2 (t.trans s2), fun f H2 s2 => ⟨⟨_, rfl⟩, s.trans s2, fun y hy => ?_⟩⟩
      · obtain ⟨p, a, b, c, e, hp, ok⟩ := k
        exact ⟨p, a, b, c, e, t _ _ hp, ok⟩
      · rw [List.take_add_one, hi] at hy
        rcases List.mem_append.mp hy with e | e
        · exact al y e
        · have e : y = x := by simpa using e
          rw [e]
          exact IsFence.down (it x mem) t f
    · rintro σ H' ⟨⟨z, rfl⟩, s, al⟩
      rw [List.take_length] at al
      have t := ed.same.trans s
      obtain ⟨ps, fs, exs, at_, fr⟩ := fences_of al
      subst exs
      subst ev
      have hb : H' b = some (.lst [.ref p0, .ref p1, .ref p2, .ref p3]) := s _ _ ed.lst
      refine ⟨_, rfl, l, _, rfl, .inr (SqL.of (t _ _ hl)), _, rfl, b, _, rfl, .inr (SqL.of hb), ?_⟩
      have len : fs.length ≤ 16 := by
        have := at_.len
        rw [List.length_map] at l16
        omega
      refine ⟨?_, fun d hd => ?_⟩
      · show (ps.map V.ref ++ ([V.ref p0, .ref p1, .ref p2, .ref p3] ++ [])).length ≤ _
        rw [List.length_append, List.length_map, sizeLine_eq]
        rw [List.length_map] at l16
        show _ + 4 ≤ _
        omega
      · have wl := within_le w
        have sd := same_upd (o := .lst (ps.map V.ref ++ ([V.ref p0, .ref p1, .ref p2, .ref p3] ++ []))) hd
        have land : Land H n l ps fs := ⟨wl.1, wl.2, ⟨hl, at_⟩, len, fr⟩
        have u := s.trans sd
        have ae : At rowHO (upd H' d (.lst (ps.map V.ref ++ ([V.ref p0, .ref p1, .ref p2, .ref p3] ++ [])))) [p0, p1, p2, p3] (LG.edgesR n) := by
          show [_, _, _, _] = [_, _, _, _]
          rw [u _ _ ed.e0, u _ _ ed.e1, u _ _ ed.e2, u _ _ ed.e3]
          rfl
        refine good n ps fs rfl land _ d (ps ++ [p0, p1, p2, p3]) (t.trans sd) (t.free hd) ⟨?_, (at_.up (t.trans sd)).app ae⟩
        rw [upd_same, List.map_append]
        rfl

/-! ## reach -/
abbrev n_reach : List Str := ["fence", "spot", "a", "b", "c", "x", "y", "by"]
theorem sc_reach : FnScope n_reach ["fence", "spot"] (defScope s_reach) := ⟨rfl, rfl, rfl, by decide +kernel, rfl, by decide +kernel, by decide +kernel⟩
theorem ok_reach (T : Txt K mg) : Good P w K mg base CX0 1 "reach" ["fence", "spot"] (sp_reach K) := by
  obtain ⟨fd, F⟩ := T.d_reach
  refine ⟨T.g_reach, F.kp, fd, F.bindsN (fun _ _ _ _ _ _ us hl => match us, hl with | [_, _], _ => rfl), F.ok sc_reach (fun vs H Q E h => ?_) (fun cdv A outer s H vs Q E hr h => ⟨_, PSs.nox (pss_cons (ps_asg (pv 0) (pg_tup (by rfl) (pgs_cons (pg_name (i := 2) sc_reach.nd rfl (Or.inl rfl)) (pgs_cons (pg_name (i := 3) sc_reach.nd rfl (Or.inl rfl)) (pgs_cons (pg_name (i := 4) sc_reach.nd rfl (Or.inl rfl)) pgs_nil)))))
    (pss_cons (ps_asg (pv 1) (pg_tup (by rfl) (pgs_cons (pg_name (i := 5) sc_reach.nd rfl (Or.inl rfl)) (pgs_cons (pg_name (i := 6) sc_reach.nd rfl (Or.inl rfl)) (pgs_cons (pg_name (i := 7) sc_reach.nd rfl (Or.inl rfl)) pgs_nil)))))
    (pss_one (ps_ret (pe_op op_sub (pe_op op_add (pe_op op_mulW (pv 2) (pv 5)) (pe_op op_mulW (pv 3) (pv 6))) (pe_op op_mulW (pv 4) (pv 7))))))), ?_⟩)⟩
  · obtain ⟨p, q, a, b, c, x, y, d, rfl, _⟩ := h
    rfl
  · obtain ⟨p, q, a, b, c, x, y, d, rfl, hp, hq, z1, z2, k⟩ := h
    refine ⟨_, rfl, p, _, rfl, hp, rfl, _, _, rfl, _, _, rfl, _, _, rfl, rfl, ?_⟩
    refine ⟨_, rfl, q, _, rfl, hq, rfl, _, _, rfl, _, _, rfl, _, _, rfl, rfl, ?_⟩
    refine ⟨_, rfl, _, rfl, a, x, rfl, rfl, z1.x.ok z2.x (by decide) (by decide) (by decide), ?_⟩
    refine ⟨_, rfl, _, rfl, b, y, rfl, rfl, z1.y.ok z2.y (by decide) (by decide) (by decide), _, _, rfl, rfl, ?_⟩
    exact ⟨_, rfl, _, rfl, c, d, rfl, rfl, z1.b.ok z2.b (by decide) (by decide) (by decide), _, _, rfl, rfl, k⟩

/-! ## meeting -/
abbrev n_meeting : List Str := ["one", "other", "a", "b", "c", "p", "q", "r", "by"]
theorem sc_meeting : FnScope n_meeting ["one", "other"] (defScope s_meeting) := ⟨rfl, rfl, rfl, by decide +kernel, rfl, by decide +kernel, by decide +kernel⟩
theorem ok_meeting (T : Txt K mg) (C_spot_of : Good P w K mg base (L2.CX P w) 2 "spot_of" ["x", "y", "by"] (sp_spot_of K)) : Good P w K mg base CX0 3 "meeting" ["one", "other"] (sp_meeting K) := by
  obtain ⟨fd, F⟩ := T.d_meeting
  refine ⟨T.g_meeting, F.kp, fd, F.bindsN (fun _ _ _ _ _ _ us hl => match us, hl with | [_, _], _ => rfl), F.ok sc_meeting (fun vs H Q E h => ?_) (fun cdv A outer s H vs Q E hr h => ⟨_, PSs.nox (pss_cons (ps_asg (pv 0) (pg_tup (by rfl) (pgs_cons (pg_name (i := 2) sc_meeting.nd rfl (Or.inl rfl)) (pgs_cons (pg_name (i := 3) sc_meeting.nd rfl (Or.inl rfl)) (pgs_cons (pg_name (i := 4) sc_meeting.nd rfl (Or.inl rfl)) pgs_nil)))))
    (pss_cons (ps_asg (pv 1) (pg_tup (by rfl) (pgs_cons (pg_name (i := 5) sc_meeting.nd rfl (Or.inl rfl)) (pgs_cons (pg_name (i := 6) sc_meeting.nd rfl (Or.inl rfl)) (pgs_cons (pg_name (i := 7) sc_meeting.nd rfl (Or.inl rfl)) pgs_nil)))))
    (pss_cons (ps_set (i := 8) sc_meeting.nd rfl (Or.inl rfl) (pe_op op_sub (pe_op op_mulW (pv 2) (pv 6)) (pe_op op_mulW (pv 3) (pv 5))))
    (pss_cons (ps_if (pt_cmpR op_eq (pv 8) pe_int (nomark _)) (pss_one (ps_ret pe_non)) pss_nil)
    (pss_one (ps_ret (pe_ownL C_spot_of hr rfl (pa_cons (pe_op op_sub (pe_op op_mulW (pv 4) (pv 6)) (pe_op op_mulW (pv 3) (pv 7))) (pa_cons (pe_op op_sub (pe_op op_mulW (pv 2) (pv 7)) (pe_op op_mulW (pv 4) (pv 5))) (pa_cons (pv 8) pa_nil)))))))))), ?_⟩)⟩
  · obtain ⟨p, q, a, b, c, a2, b2, c2, rfl, _⟩ := h
    rfl
  · obtain ⟨p, q, a, b, c, a2, b2, c2, rfl, hp, hq, z1, z2, kN, kS⟩ := h
    have m : ∀ {u v : Int}, Sz 1000 u → Sz 1000 v → CMulW u v := fun h k => h.ok k (by decide) (by decide) (by decide)
    have d : ∀ {u v s t : Int}, Sz 1000 u → Sz 1000 v → Sz 1000 s → Sz 1000 t → Sz 2001 (u * v - s * t) := fun h1 h2 h3 h4 => (h1.mul h2).sub (h3.mul h4)
    refine ⟨_, rfl, p, _, rfl, hp, rfl, _, _, rfl, _, _, rfl, _, _, rfl, rfl, ?_⟩
    refine ⟨_, rfl, q, _, rfl, hq, rfl, _, _, rfl, _, _, rfl, _, _, rfl, rfl, ?_⟩
    refine ⟨_, rfl, _, rfl, a, b2, rfl, rfl, m z1.x z2.y, _, rfl, _, rfl, b, a2, rfl, rfl, m z1.y z2.x, _, _, rfl, rfl, ?_⟩
    refine ⟨_, rfl, rfl, _, rfl, ite2 (fun e => kN ?_) (fun e => ?_)⟩
    · exact V.int.inj (of_decide_eq_true e)
    · have n0 : a * b2 - b * a2 ≠ 0 := fun z => e (decide_eq_true (congrArg V.int z))
      refine ⟨_, rfl, _, rfl, c, b2, rfl, rfl, m z1.b z2.y, _, rfl, _, rfl, b, c2, rfl, rfl, m z1.y z2.b, _, _, rfl, rfl, ?_⟩
      refine ⟨_, rfl, _, rfl, a, c2, rfl, rfl, m z1.x z2.b, _, rfl, _, rfl, c, a2, rfl, rfl, m z1.b z2.x, _, _, rfl, rfl, ?_⟩
      refine ⟨_, rfl, .int _, .int _, .int _, rfl, .int _, .int _, .int _, fun z => ?_, fun i j k ei ej ek k0 => ⟨?_, fun X Y B l low ex ey hl => ?_⟩⟩
      · cases z with
        | inl z => cases z
        | inr z => exact absurd (V.int.inj z) n0
      · cases ek
        exact (d z1.x z2.y z1.y z2.x).mono (by decide)
      · cases ei; cases ej; cases ek
        obtain ⟨o1, o2⟩ := meet_on n0 ex ey
        exact kS n0 X Y B l low o1 o2 ex ey hl

/-! ## _is_kept -/
abbrev n_is_kept : List Str := ["lines", "spot"]
theorem sc_is_kept : FnScope n_is_kept ["lines", "spot"] (defScope s_is_kept) := ⟨rfl, rfl, rfl, by decide +kernel, rfl, by decide +kernel, by decide +kernel⟩
def genSc (d : Scope) : List Stmt → Scope
  | [.Return (some (.Call _ [.GeneratorExp _ _ sc _] _ _)) _] => sc
  | _ => d
theorem ok_is_kept (T : Txt K mg) (TB : ∀ p ∈ csL K, LamX.TabB base mg p.1 p.2) : Good P w K mg base CX0 2 "_is_kept" ["lines", "spot"] (sp_is_kept K) := by
  obtain ⟨fd, F⟩ := T.d_is_kept
  obtain ⟨fr, Fr⟩ := T.d_reach
  have R : ReachD K mg (He.ga K "reach") := by
    obtain ⟨oc, od, dV, kV, doc, pm, an, cdv, ct, osl, rfl, lk, hcd, hD, _⟩ := Fr.ex
    refine ⟨T.g_reach, Fr.kp, oc, od, osl, "reach", "reach", defArgs s_reach, defScope s_reach, dV, kV, doc, pm, cdv, ct, an, _, _, _, _, _, _, _, _, _, _, _, _, _, _, _, _, _, _, _, _, _, _, _, _, _, _, lk, hcd, rfl, rfl, rfl, by decide +kernel, ?_⟩
    rcases hD with ⟨_, rfl⟩ | ⟨e, _⟩
    · exact fun p q body => rfl
    · exact absurd rfl e
  have free : ∀ y ∈ (genSc (defScope s_is_kept) (defBody s_is_kept)).names, y.2 = NameKind.free → (defScope s_is_kept).names.lookup y.1 = some NameKind.cell := by decide +kernel
  refine ⟨T.g_is_kept, F.kp, fd, F.bindsN (fun _ _ _ _ _ _ us hl => match us, hl with | [_, _], _ => rfl), FnP.okC F sc_is_kept (fun vs H Q E h => ?_) (fun cdv hc A outer s H vs Q E hr h => ⟨_,
    PSs.nox (pss_one (ps_ret (pe_allQ hr rfl T.m_all (TB (He.cT K ("_is_kept", none)) (by show _ ∈ [_, _]; exact List.mem_cons_self)) hc (fun ok => ⟨rfl, rfl, by decide +kernel, rfl, rfl, fun y hy e => ok.has _ (.inl ?free)⟩) (pv 0) (fun _ => rfl)))), ?_⟩)⟩
  · obtain ⟨l, p, ps, rs, q, rfl, _⟩ := h
    rfl
  case free => exact free y hy e
  · obtain ⟨l, p, ps, rs, q, rfl, hl, hp, sr, sp, tb, hQ⟩ := h
    refine ⟨.ref l, rfl, l, _, fun i => decide (LG.rch (rs.getD i ⟨0, 0, 0⟩) q ≤ 0), rfl, hl.seq, tb.kept, fun i y hy pins => ?_, ?_⟩
    · obtain ⟨pr, r, rfl, _, hr', hat⟩ := hl.get' hy
      have e : rs.getD i ⟨0, 0, 0⟩ = r := by
        rw [List.getD_eq_getElem?_getD, hr']
        rfl
      have z := sr r (List.mem_of_getElem? hr')
      have ok : ∀ {u v : Int}, Sz 1000 u → Sz 1000 v → CMulW u v := fun h k => h.ok k (by decide) (by decide) (by decide)
      refine elt_reach (i := 1) R tb.kept rfl rfl (by decide +kernel) rfl rfl ?_ rfl rfl rfl hat hp (ok z.x sp.x) (ok z.y sp.y) (ok z.b sp.b) ?_ ?_
      · exact fun ok y hy e => ok.has _ (.inl (free y hy e))
      · have d := hr.dp
        exact Nat.lt_of_le_of_lt (by show (A.deeper _).depth + 1 ≤ (A.deeper _).depth + 3 * 1 + 5; omega) d
      · show _ = decide (LG.rch (rs.getD i ⟨0, 0, 0⟩) q ≤ 0)
        rw [e]
        rfl
    · rw [hl.len]
      have e : (List.range rs.length).all (fun i => decide (LG.rch (rs.getD i ⟨0, 0, 0⟩) q ≤ 0)) = keptB rs q := by
        rw [Bool.eq_iff_iff, List.all_eq_true]
        unfold keptB
        rw [List.all_eq_true]
        constructor
        · intro h r hr
          obtain ⟨i, hi, e⟩ := List.getElem_of_mem hr
          have := h i (List.mem_range.mpr hi)
          rw [List.getD_eq_getElem?_getD, List.getElem?_eq_getElem hi, e] at this
          exact this
        · intro h i hi
          have hi := List.mem_range.mp hi
          rw [List.getD_eq_getElem?_getD, List.getElem?_eq_getElem hi]
          exact h _ (List.getElem_mem hi)
      rw [e]
      exact hQ

/-! ## _kept_meetings -/
abbrev n_kept_meetings : List Str := ["lines", "found", "one", "other", "spot"]
theorem sc_kept_meetings : FnScope n_kept_meetings ["lines"] (defScope s_kept_meetings) := ⟨rfl, rfl, rfl, by decide +kernel, rfl, by decide +kernel, by decide +kernel⟩
theorem ok_kept_meetings (T : Txt K mg) (C_meeting : Good P w K mg base CX0 3 "meeting" ["one", "other"] (sp_meeting K)) (C_is_kept : Good P w K mg base CX0 2 "_is_kept" ["lines", "spot"] (sp_is_kept K)) :
    Good P w K mg base CX0 4 "_kept_meetings" ["lines"] (sp_kept_meetings K) := by
  obtain ⟨fd, F⟩ := T.d_kept_meetings
  refine ⟨T.g_kept_meetings, F.kp, fd, F.bindsN (fun _ _ _ _ _ _ us hl => match us, hl with | [_], _ => rfl), F.ok sc_kept_meetings (fun vs H Q E h => ?_) (fun cdv A outer s H vs Q E hr h => ⟨_, PSs.nox (pss_cons (ps_set (i := 1) sc_kept_meetings.nd rfl (Or.inl rfl) (pe_lst pa_nil))
    (pss_cons (ps_for PassesOwn.never rfl (pi_comb rfl T.comb (by decide) (pv 0)) (pg_tup (by rfl) (pgs_cons (pg_name (i := 2) sc_kept_meetings.nd rfl (Or.inl rfl)) (pgs_cons (pg_name (i := 3) sc_kept_meetings.nd rfl (Or.inl rfl)) pgs_nil)))
    (pss_cons (ps_set (i := 4) sc_kept_meetings.nd rfl (Or.inl rfl) (pe_own C_meeting hr rfl (pa_cons (pv 2) (pa_cons (pv 3) pa_nil))))
    (pss_one (ps_if (PW.pt (pw_and (pt_cmpR op_notN (pv 4) pe_non (nomark _)) (pw_and (pt_cmpR (op_notInD (units65 hr)) (pv 4) (pv 1) (by rfl)) (pw_and1 (pt_val (pe_own C_is_kept (hr.mono (by decide)) rfl (pa_cons (pv 0) (pa_cons (pv 4) pa_nil)))))))) (pss_one (ps_expr (pe_bm PySem.F.plainAttrs_list PySem.F.slot_list_append PySem.F.type_list_append mt_append (pv 1) (pa_cons (pv 4) pa_nil)))) pss_nil))))
    (pss_one (ps_ret (pv 1))))), ?_⟩)⟩
  · obtain ⟨l, ps, rs, rfl, _⟩ := h
    rfl
  · obtain ⟨l, ps, rs, rfl, hl, ok, tb, k⟩ := h
    refine ⟨Nat.zero_le _, fun d hd => gName_go ?_⟩
    obtain ⟨N, W, cov⟩ := comb2 (ps.map V.ref)
    have few := ok.few
    rw [hl.len] at cov
    refine ⟨.ref l, rfl, l, _, rfl, (hl.up (same_upd hd)).seq, for_it W (fun t σ H' => (∃ x2 x3 x4, σ = [some (.ref l), some (.ref d), x2, x3, x4]) ∧ Same H H' ∧ ∃ (cs : List Addr) (qs : List LG.Pt), PtL H' d cs qs ∧ (∀ q ∈ qs, LG.LowP q ∧ LG.Corner rs q) ∧ qs.Nodup ∧ qs.length ≤ t ∧
        ∀ t' i j r s, t' < t → placesC rs.length 2 t' = some [i, j] → rs[i]? = some r → rs[j]? = some s → LG.cross r s ≠ 0 → ∀ q, 0 < q.w → LG.rch r q = 0 → LG.rch s q = 0 → LG.Kept rs q → ∃ c ∈ qs, LG.Sim q c)
      ⟨⟨_, _, _, rfl⟩, same_upd hd, [], [], ⟨upd_same, rfl⟩, fun q hq => absurd hq List.not_mem_nil, .nil, Nat.le_refl _, fun t' i j r s h => absurd h (Nat.not_lt_zero _)⟩ (fun _ _ _ _ _ => True.intro) ?_ ?_⟩
    · rintro t x σ H1 H2 ht ⟨⟨x2, x3, x4, rfl⟩, s1, cs, qs, pt, good, nd, lt, seen⟩ ⟨T, is, his, rfl, nT, rfl⟩
      rw [hl.len] at his
      obtain ⟨i, j, rfl, h1, h2, h3⟩ := places2 his
      obtain ⟨pi, ei, _, hi⟩ := (hl.up s1).get (List.getElem?_eq_getElem (show i < rs.length by omega))
      obtain ⟨pj, ej, _, hj⟩ := (hl.up s1).get (List.getElem?_eq_getElem h2)
      have gi : (ps.map V.ref).getD i .non = .ref pi := by rw [List.getD_eq_getElem?_getD, ei]; rfl
      have gj : (ps.map V.ref).getD j .non = .ref pj := by rw [List.getD_eq_getElem?_getD, ej]; rfl
      have mi : rs[i] ∈ rs := List.getElem_mem _
      have mj : rs[j] ∈ rs := List.getElem_mem _
      have hgi : rs[i]? = some rs[i] := List.getElem?_eq_getElem _
      have hgj : rs[j]? = some rs[j] := List.getElem?_eq_getElem _
      generalize rs[i] = ri at hi mi hgi
      generalize rs[j] = rj at hj mj hgj
      have sT := same_upd (o := .tup [V.ref pi, .ref pj]) nT
      have eT : ([i, j].map fun k => (ps.map V.ref).getD k .non) = [V.ref pi, .ref pj] := by
        show [(ps.map V.ref).getD i .non, (ps.map V.ref).getD j .non] = _
        rw [gi, gj]
      rw [eT]
      have s2 := s1.trans sT
      have pt2 := pt.up sT
      have at2 : upd H1 T (.tup [V.ref pi, .ref pj]) T = some (.tup [V.ref pi, .ref pj]) := upd_same
      have hi2 := sT _ _ hi
      have hj2 := sT _ _ hj
      revert s2 pt2 at2 hi2 hj2
      generalize upd H1 T (.tup [V.ref pi, .ref pj]) = H2
      intro s2 pt2 at2 hi2 hj2
      have bound : t ≤ 500 := by
        have : (i + 1) * rs.length ≤ 20 * 20 := Nat.mul_le_mul (by omega) few
        rw [Nat.add_mul] at this
        omega
      have older : ∀ t' i' j' r s, t' < t + 1 → placesC rs.length 2 t' = some [i', j'] → rs[i']? = some r → rs[j']? = some s → (t' < t) ∨ (r = ri ∧ s = rj) := by
        intro t' i' j' r s h e er es
        by_cases z : t' < t
        · exact .inl z
        · have z : t' = t := by omega
          subst z
          rw [his] at e
          cases e
          rw [hgi] at er
          rw [hgj] at es
          exact .inr ⟨(Option.some.inj er).symm, (Option.some.inj es).symm⟩
      refine ⟨T, _, rfl, SqT.of at2, rfl, _, _, rfl, _, _, rfl, rfl, ?_⟩
      refine ⟨_, rfl, _, rfl, pi, pj, ri.a, ri.b, ri.c, rj.a, rj.b, rj.c, rfl, SqT.of hi2, SqT.of hj2, ok.sz ri mi, ok.sz rj mj, fun e0 => gName_go ?_, fun n0 X Y B sp low o1 o2 _ _ hsp => gName_go ?_⟩
      · refine ⟨_, rfl, rfl, _, rfl, iteF (iteF ⟨⟨_, _, _, rfl⟩, s2, cs, qs, pt2, good, nd, by omega, fun t' i' j' r s h e er es cr q l w1 w2 kq => ?_⟩)⟩
        rcases older t' i' j' r s h e er es with z | ⟨rfl, rfl⟩
        · exact seen t' i' j' r s z e er es cr q l w1 w2 kq
        · exact absurd e0 (by unfold LG.cross at cr; exact cr)
      · have s3 := same_upd (o := .tup [.int X, .int Y, .int B]) hsp
        have hat : upd H2 sp (.tup [.int X, .int Y, .int B]) sp = some (ptHO ⟨X, Y, B⟩) := upd_same
        have pt3 := pt2.up s3
        have hl3 := hl.up (s2.trans s3)
        have tb3 := tb.up (s2.trans s3)
        revert s3 hat pt3 hl3 tb3
        generalize upd H2 sp (.tup [.int X, .int Y, .int B]) = H3
        intro s3 hat pt3 hl3 tb3
        have t3 := s2.trans s3
        have lq : LG.LowP ⟨X, Y, B⟩ := low
        have z1 : LG.rch ri ⟨X, Y, B⟩ = 0 := by unfold LG.rch; simp only; omega
        have z2 : LG.rch rj ⟨X, Y, B⟩ = 0 := by unfold LG.rch; simp only; omega
        have two : LG.OnTwo rs ⟨X, Y, B⟩ := ⟨ri, mi, rj, mj, z1, z2, n0⟩
        have sz : SzP 1000 ⟨X, Y, B⟩ := Sz3.mono (ok.corner lq two) (by decide)
        have one : ∀ q, 0 < q.w → LG.rch ri q = 0 → LG.rch rj q = 0 → LG.Sim q ⟨X, Y, B⟩ := fun q l w1 w2 => (LG.meet_sim n0 w1 w2).trans (LG.meet_pos n0) (LG.meet_sim n0 z1 z2).symm
        refine ⟨_, rfl, rfl, _, rfl, iteT ⟨_, rfl, _, rfl, _, _, dp_pt hat, dp_pts pt3, rfl, shaped_list tri_pts, _, rfl, ?_⟩⟩
        rw [any_pt]
        by_cases mem : (⟨X, Y, B⟩ : LG.Pt) ∈ qs
        · rw [decide_eq_true mem]
          refine iteF (iteF ⟨⟨_, _, _, rfl⟩, t3, cs, qs, pt3, good, nd, by omega, fun t' i' j' r s h e er es cr q l w1 w2 kq => ?_⟩)
          rcases older t' i' j' r s h e er es with z | ⟨rfl, rfl⟩
          · exact seen t' i' j' r s z e er es cr q l w1 w2 kq
          · exact ⟨_, mem, one q l w1 w2⟩
        · rw [decide_eq_false mem]
          refine iteT ⟨_, rfl, _, rfl, l, sp, ps, rs, ⟨X, Y, B⟩, rfl, hl3, hat, ok.sz, sz, tb3, _, rfl, ?_⟩
          cases kb : keptB rs ⟨X, Y, B⟩ with
          | true =>
            have kp := (keptB_iff lq.1).mp kb
            refine iteT ⟨_, rfl, .inl ⟨rfl, _, .inl (.inl pt3.lst)⟩, _, rfl, d, _, _, rfl, rfl, pt3.lst, ?_, ⟨_, _, _, rfl⟩, upd_new t3 hd pt3.lst, cs ++ [sp], qs ++ [⟨X, Y, B⟩], pt3.push hat pt_tup, ?_, ?_, ?_, ?_⟩
            · rw [pt3.len, sizeLine_eq]
              omega
            · intro q hq
              rcases List.mem_append.mp hq with e | e
              · exact good q e
              · have e : q = ⟨X, Y, B⟩ := by simpa using e
                rw [e]
                exact ⟨lq, kp, two⟩
            · refine List.nodup_append.mpr ⟨nd, by simp, fun a ha b hb => ?_⟩
              have e : b = ⟨X, Y, B⟩ := by simpa using hb
              rw [e]
              exact fun z => mem (z ▸ ha)
            · rw [List.length_append]
              show _ + 1 ≤ _
              omega
            · intro t' i' j' r s h e er es cr q l w1 w2 kq
              rcases older t' i' j' r s h e er es with z | ⟨rfl, rfl⟩
              · obtain ⟨c, hc, sm⟩ := seen t' i' j' r s z e er es cr q l w1 w2 kq
                exact ⟨c, List.mem_append_left _ hc, sm⟩
              · exact ⟨_, by simp, one q l w1 w2⟩
          | false =>
            refine iteF ⟨⟨_, _, _, rfl⟩, t3, cs, qs, pt3, good, nd, by omega, fun t' i' j' r s h e er es cr q l w1 w2 kq => ?_⟩
            rcases older t' i' j' r s h e er es with z | ⟨rfl, rfl⟩
            · exact seen t' i' j' r s z e er es cr q l w1 w2 kq
            · have kq := (one q l w1 w2).kept lq.1 kq
              rw [(keptB_iff lq.1).mpr kq] at kb
              cases kb
    · rintro σ H1 ⟨⟨x2, x3, x4, rfl⟩, s1, cs, qs, pt, good, nd, lt, seen⟩
      refine ⟨_, rfl, k H1 d cs qs s1 hd pt ⟨fun q hq => (good q hq).1, fun q hq => (good q hq).2, fun q hq => ?_, nd⟩⟩
      obtain ⟨r, mr, s, ms, zr, zs, cr⟩ := hq.two
      obtain ⟨i, hi⟩ := List.mem_iff_getElem?.mp mr
      obtain ⟨j, hj⟩ := List.mem_iff_getElem?.mp ms
      have li := (List.getElem?_eq_some_iff.mp hi).1
      have lj := (List.getElem?_eq_some_iff.mp hj).1
      have sw : LG.cross s r ≠ 0 := fun z => cr (by unfold LG.cross at z ⊢; rw [Int.mul_comm r.a, Int.mul_comm r.b]; omega)
      rcases Nat.lt_trichotomy i j with z | z | z
      · obtain ⟨t, ht, e⟩ := cov i j z lj
        exact seen t i j r s ht e hi hj cr q hq.kept.pos zr zs hq.kept
      · subst z
        rw [hi] at hj
        cases hj
        exact absurd (by unfold LG.cross; rw [Int.mul_comm]; omega) cr
      · obtain ⟨t, ht, e⟩ := cov j i z li
        exact seen t j i s r ht e hj hi sw q hq.kept.pos zs zr hq.kept

/-! ## _is_ahead -/
abbrev n_is_ahead : List Str := ["one", "other", "height"]
theorem sc_is_ahead : FnScope n_is_ahead ["one", "other"] (defScope s_is_ahead) := ⟨rfl, rfl, rfl, by decide +kernel, rfl, by decide +kernel, by decide +kernel⟩
theorem ok_is_ahead (T : Txt K mg) : Good P w K mg base CX0 1 "_is_ahead" ["one", "other"] sp_law_lower := by
  obtain ⟨fd, F⟩ := T.d_is_ahead
  refine ⟨T.g_is_ahead, F.kp, fd, F.bindsN (fun _ _ _ _ _ _ us hl => match us, hl with | [_, _], _ => rfl), F.ok sc_is_ahead (fun vs H Q E h => ?_) (fun cdv A outer s H vs Q E hr h => ⟨_, PSs.nox (pss_cons (ps_set (i := 2) sc_is_ahead.nd rfl (Or.inl rfl) (pe_op op_sub (pe_op op_mulW (pe_ix ix_tup (pv 0) pe_int (fun _ _ => rfl)) (pe_ix ix_tup (pv 1) pe_int (fun _ _ => rfl))) (pe_op op_mulW (pe_ix ix_tup (pv 1) pe_int (fun _ _ => rfl)) (pe_ix ix_tup (pv 0) pe_int (fun _ _ => rfl)))))
    (pss_cons (ps_if (pt_cmpR op_ne (pv 2) pe_int (nomark _)) (pss_one (ps_ret (pe_cmpR op_lt (pv 2) pe_int (nomark _)))) pss_nil)
    (pss_one (ps_ret (pe_cmpR op_lt (pe_op op_mulW (pe_ix ix_tup (pv 0) pe_int (fun _ _ => rfl)) (pe_ix ix_tup (pv 1) pe_int (fun _ _ => rfl))) (pe_op op_mulW (pe_ix ix_tup (pv 1) pe_int (fun _ _ => rfl)) (pe_ix ix_tup (pv 0) pe_int (fun _ _ => rfl))) (nomark _)))))), ?_⟩)⟩
  · obtain ⟨p, q, x, y, rfl, _⟩ := h
    rfl
  · obtain ⟨p, q, x, y, rfl, hp, hq, z1, z2, k⟩ := h
    have m : ∀ {u v : Int}, Sz 1000 u → Sz 1000 v → CMulW u v := fun h k => h.ok k (by decide) (by decide) (by decide)
    have tp : SqT K H p [.int x.x, .int x.y, .int x.w] := SqT.of hp
    have tq : SqT K H q [.int y.x, .int y.y, .int y.w] := SqT.of hq
    refine ⟨_, rfl, p, _, 1, _, rfl, rfl, tp, rfl, _, rfl, q, _, 2, _, rfl, rfl, tq, rfl, _, _, rfl, rfl, m z1.y z2.b, ?_⟩
    refine ⟨_, rfl, q, _, 1, _, rfl, rfl, tq, rfl, _, rfl, p, _, 2, _, rfl, rfl, tp, rfl, _, _, rfl, rfl, m z2.y z1.b, _, _, rfl, rfl, ?_⟩
    obtain ⟨t, ht⟩ : ∃ t, t = x.y * y.w - y.y * x.w := ⟨_, rfl⟩
    refine gName_as (.int t) (by rw [ht] <;> rfl) ?_
    refine ⟨_, rfl, rfl, _, rfl, ite2 (fun c => ?_) (fun c => ?_)⟩
    · have n : x.y * y.w ≠ y.y * x.w := fun e => by
        have t0 : t = 0 := by omega
        rw [t0] at c
        simp at c
      refine ⟨_, rfl, _, _, rfl, rfl, ?_⟩
      have e : lowerB x y = decide (t < 0) := decide_eq_decide.mpr (by unfold LG.lower; rw [if_pos n]; omega)
      rw [e] at k
      exact k
    · have n : ¬ x.y * y.w ≠ y.y * x.w := fun e => c (by
        have t0 : t ≠ 0 := by omega
        simp [t0])
      refine ⟨_, rfl, p, _, 0, _, rfl, rfl, tp, rfl, _, rfl, q, _, 2, _, rfl, rfl, tq, rfl, _, _, rfl, rfl, m z1.x z2.b, ?_⟩
      refine ⟨_, rfl, q, _, 0, _, rfl, rfl, tq, rfl, _, rfl, p, _, 2, _, rfl, rfl, tp, rfl, _, _, rfl, rfl, m z2.x z1.b, _, _, rfl, rfl, ?_⟩
      have e : lowerB x y = decide (x.x * y.w < y.x * x.w) := decide_eq_decide.mpr (by unfold LG.lower; rw [if_neg n])
      rw [e] at k
      exact k

/-! ## _lowest -/
abbrev n_lowest : List Str := ["spots", "lowest", "spot"]
theorem sc_lowest : FnScope n_lowest ["spots"] (defScope s_lowest) := ⟨rfl, rfl, rfl, by decide +kernel, rfl, by decide +kernel, by decide +kernel⟩
theorem ok_lowest (T : Txt K mg) (C_is_ahead : Good P w K mg base CX0 1 "_is_ahead" ["one", "other"] sp_law_lower) : Good P w K mg base CX0 2 "_lowest" ["spots"] sp_lowest := by
  obtain ⟨fd, F⟩ := T.d_lowest
  refine ⟨T.g_lowest, F.kp, fd, F.bindsN (fun _ _ _ _ _ _ us hl => match us, hl with | [_], _ => rfl), F.ok sc_lowest (fun vs H Q E h => ?_) (fun cdv A outer s H vs Q E hr h => ⟨_, PSs.nox (pss_cons (ps_set (i := 1) sc_lowest.nd rfl (Or.inl rfl) (pe_ix ix_list (pv 0) pe_int (fun _ _ => rfl)))
    (pss_cons (ps_for PassesOwn.never rfl (pi_list (pv 0)) (pg_name (i := 2) sc_lowest.nd rfl (Or.inl rfl))
    (pss_one (ps_if (pt_val (pe_own C_is_ahead hr rfl (pa_cons (pv 2) (pa_cons (pv 1) pa_nil)))) (pss_one (ps_set (i := 1) sc_lowest.nd rfl (Or.inl rfl) (pv 2))) pss_nil)))
    (pss_one (ps_ret (pv 1))))), ?_⟩)⟩
  · obtain ⟨l, cs, qs, rfl, _⟩ := h
    rfl
  · obtain ⟨l, cs, qs, rfl, pt, ne, sz, pos, k⟩ := h
    obtain ⟨q0, qt, rfl⟩ : ∃ q t, qs = q :: t := by
      cases qs with
      | nil => exact absurd rfl ne
      | cons q t => exact ⟨q, t, rfl⟩
    obtain ⟨p0, e0, h0⟩ := pt.atI (i := 0) (x := q0) (atI_nat (j := 0) rfl)
    refine ⟨_, rfl, l, _, 0, .ref p0, rfl, rfl, pt.seq, e0, gName_go ?_⟩
    refine ⟨_, rfl, l, rfl, ⟨_, pt.seq⟩, for_list (xs := cs.map V.ref) (fun i σ H' => H = H' ∧ ∃ (p : Addr) (q : LG.Pt) (z : Option V), σ = [some (.ref l), some (.ref p), z] ∧ q ∈ q0 :: qt ∧ H p = some (ptHO q) ∧ ∀ x ∈ (q0 :: qt).take i, ¬ LG.lower x q)
      ⟨rfl, p0, q0, none, rfl, List.mem_cons_self, h0, fun x hx => absurd hx List.not_mem_nil⟩ (fun i σ H' _ z => by rw [← z.1]; exact pt.seq) ?_ ?_⟩
    · rintro i v σ H' hi ⟨rfl, p, q, z, rfl, hq, hp, low⟩
      obtain ⟨pc, x, rfl, _, hx, hat⟩ := pt.get' hi
      have mx := List.mem_of_getElem? hx
      refine ⟨_, rfl, _, rfl, pc, p, x, q, rfl, hat, hp, sz x mx, sz q hq, _, rfl, ?_⟩
      have next : ∀ y ∈ (q0 :: qt).take (i + 1), y ∈ (q0 :: qt).take i ∨ y = x := fun y hy => by
        rw [List.take_add_one, hx] at hy
        rcases List.mem_append.mp hy with e | e
        · exact .inl e
        · exact .inr (by simpa using e)
      refine ite2 (fun c => ?_) (fun c => ?_)
      · have c : LG.lower x q := of_decide_eq_true c
        refine ⟨_, rfl, rfl, pc, x, _, rfl, mx, hat, fun y hy ly => ?_⟩
        rcases next y hy with e | e
        · exact low y e (LG.lower_trans (pos y (List.mem_of_mem_take e)) (pos x mx) (pos q hq) ly c)
        · rw [e] at ly
          exact LG.lower_asymm ly ly
      · have c : ¬ LG.lower x q := fun z => c (decide_eq_true z)
        refine ⟨rfl, p, q, _, rfl, hq, hp, fun y hy ly => ?_⟩
        rcases next y hy with e | e
        · exact low y e ly
        · rw [e] at ly
          exact c ly
    · rintro σ H' ⟨rfl, p, q, z, rfl, hq, hp, low⟩
      rw [pt.len, List.take_length] at low
      exact ⟨_, rfl, k p q hq hp low⟩

/-! ## _many_on_the_right -/
abbrev n_many_on_the_right : List Str := ["first", "spot", "others", "other"]
theorem sc_many_on_the_right : FnScope n_many_on_the_right ["first", "spot", "others"] (defScope s_many_on_the_right) := ⟨rfl, rfl, rfl, by decide +kernel, rfl, by decide +kernel, by decide +kernel⟩
theorem ok_many_on_the_right (T : Txt K mg) (C_turn : Good P w K mg base CX0 2 "turn" ["one", "two", "three"] (sp_tri K sgn)) : Good P w K mg base CX0 3 "_many_on_the_right" ["first", "spot", "others"] sp_many_right := by
  obtain ⟨fd, F⟩ := T.d_many_on_the_right
  refine ⟨T.g_many_on_the_right, F.kp, fd, F.bindsN (fun _ _ _ _ _ _ us hl => match us, hl with | [_, _, _], _ => rfl), F.ok sc_many_on_the_right (fun vs H Q E h => ?_) (fun cdv A outer s H vs Q E hr h => ⟨_, PSs.nox (pss_one (ps_ret (pe_callB call_len_seq (by rfl) T.m_len PySem.boot_len (pa_cons (pe_lc (own := [("other", 3)]) (g := gName 3) (by rfl) sc_many_on_the_right.nd (pi_list (pv 2)) (blkOk_by (own := [("other", 3)]) (N := n_many_on_the_right) (sc := defScope s_many_on_the_right) (by decide +kernel)) (fun _ _ _ _ _ => pg_name (i := 3) sc_many_on_the_right.nd rfl (Or.inl rfl)) (fun _ _ _ _ _ => (pts_one (pt_cmpR op_lt (pe_own C_turn hr rfl (pa_cons (pv 0) (pa_cons (pv 1) (pa_cons (pv 3) pa_nil)))) pe_int (nomark _)))) (fun _ _ _ _ _ => (pv 3))) pa_nil)))), ?_⟩)⟩
  · obtain ⟨pa, pb, l, cs, a, b, os, rfl, _⟩ := h
    rfl
  · obtain ⟨pa, pb, l, cs, a, b, os, rfl, ha, hb, pt, za, zb, zo, few, k⟩ := h
    refine ⟨_, rfl, l, rfl, ⟨_, pt.seq⟩, fun D hD => ?_⟩
    refine lc_list (K := K) (a := l) (xs := cs.map V.ref) (fun i H' => Same H H' ∧ ∃ ps', PtL H' D ps' ((os.take i).filter fun c => decide (LG.tri a b c < 0))) ⟨same_upd hD, [], ⟨upd_same, rfl⟩⟩ (fun i H' _ z => (pt.up z.1).seq) ?_ ?_
    · rintro i v H' hi ⟨s1, ps', hl'⟩
      obtain ⟨pc, c, rfl, _, hc, hat⟩ := (pt.up s1).get' hi
      have mem := List.mem_of_getElem? hc
      refine ⟨rfl, _, rfl, _, rfl, _, rfl, pa, pb, pc, a.x, a.y, a.w, b.x, b.y, b.w, c.x, c.y, c.w, rfl, SqT.of (s1 _ _ ha), SqT.of (s1 _ _ hb), SqT.of hat, za, zb, zo c mem, _, _, rfl, rfl, _, rfl, ?_⟩
      have step : (os.take (i + 1)).filter (fun c => decide (LG.tri a b c < 0)) = (os.take i).filter (fun c => decide (LG.tri a b c < 0)) ++ if LG.tri a b c < 0 then [c] else [] := by
        rw [List.take_add_one, hc, List.filter_append]
        congr 1
        show List.filter _ [c] = _
        by_cases t : LG.tri a b c < 0
        · rw [if_pos t, List.filter_cons_of_pos (by simpa using t)]
          rfl
        · rw [if_neg t, List.filter_cons_of_neg (by simpa using t)]
          rfl
      have e : decide (sgn (triI a.x a.y a.w b.x b.y b.w c.x c.y c.w) < 0) = decide (LG.tri a b c < 0) := decide_eq_decide.mpr (by rw [LL.tri_reads]; unfold sgn; split <;> (try split) <;> omega)
      dsimp only
      refine ite2 (fun t => ?_) (fun t => ?_)
      · have t : LG.tri a b c < 0 := of_decide_eq_true (e ▸ t)
        refine ⟨_, rfl, _, hl'.lst, ?_, upd_new s1 hD hl'.lst, ps' ++ [pc], ?_⟩
        · rw [hl'.len, sizeLine_eq]
          have := List.length_filter_le (fun c => decide (LG.tri a b c < 0)) (os.take i)
          have := List.length_take_le' i os
          omega
        · rw [step, if_pos t]
          exact hl'.push hat pt_tup
      · have t : ¬ LG.tri a b c < 0 := fun z => t (e.trans (decide_eq_true z))
        refine ⟨s1, ps', ?_⟩
        rw [step, if_neg t, List.append_nil]
        exact hl'
    · rintro H2 ⟨s1, ps', hl'⟩
      rw [pt.len, List.take_length] at hl'
      refine ⟨D, _, rfl, .inl hl'.seq, ?_⟩
      have := k H2 s1
      rw [hl'.len]
      exact this

/-! ## corners_between -/
abbrev n_corners_between : List Str := ["lines", "found", "first", "others", "spot"]
theorem sc_corners_between : FnScope n_corners_between ["lines"] (defScope s_corners_between) := ⟨rfl, rfl, rfl, by decide +kernel, rfl, by decide +kernel, by decide +kernel⟩
def lamSc (d : Scope) : List Stmt → Scope
  | [_, _, _, _, .Return (some (.List [_, .Starred (.Call _ _ [⟨_, .Lambda _ _ sc _, _⟩] _) _] _)) _] => sc
  | _ => d
theorem free_first : ∀ y ∈ (lamSc (defScope s_corners_between) (defBody s_corners_between)).names, y.2 = NameKind.free → (defScope s_corners_between).names.lookup y.1 = some .cell ∨ (defScope s_corners_between).names.lookup y.1 = some .free := by decide +kernel
theorem ok_corners_between (T : Txt K mg) (TB : ∀ p ∈ csL K, LamX.TabB base mg p.1 p.2) (C_kept_meetings : Good P w K mg base CX0 4 "_kept_meetings" ["lines"] (sp_kept_meetings K)) (C_lowest : Good P w K mg base CX0 2 "_lowest" ["spots"] sp_lowest)
    (C_many_on_the_right : Good P w K mg base CX0 3 "_many_on_the_right" ["first", "spot", "others"] sp_many_right) : Good P w K mg base CX0 8 "corners_between" ["lines"] (sp_corners_between K) := by
  obtain ⟨fd, F⟩ := T.d_corners_between
  refine ⟨T.g_corners_between, F.kp, fd, F.bindsN (fun _ _ _ _ _ _ us hl => match us, hl with | [_], _ => rfl), FnP.okC F sc_corners_between (fun vs H Q E h => ?_) (fun cdv hc A outer s H vs Q E hr h => ⟨_,
    PSs.nox (pss_cons (ps_set (i := 1) sc_corners_between.nd rfl (Or.inl rfl) (pe_own C_kept_meetings (hr.mono (by decide)) rfl (pa_cons (pv 0) pa_nil)))
    (pss_cons (ps_if (pt_not (pt_truth (pv 1) (by intro _; rfl))) (pss_one (ps_ret (pe_lst pa_nil))) pss_nil)
    (pss_cons (ps_set (i := 2) sc_corners_between.nd rfl (Or.inr rfl) (pe_own C_lowest (hr.mono (by decide)) rfl (pa_cons (pv 1) pa_nil)))
    (pss_cons (ps_set (i := 3) sc_corners_between.nd rfl (Or.inr rfl) (pe_lc (own := [("spot", 4)]) (g := gName 4) (by rfl) sc_corners_between.nd (pi_list (pv 1)) (blkOk_by (own := [("spot", 4)]) (N := n_corners_between) (sc := defScope s_corners_between) (by decide +kernel)) (fun _ _ _ _ _ => pg_name (i := 4) sc_corners_between.nd rfl (Or.inl rfl)) (fun _ _ _ _ _ => (pts_one (pt_cmpR (op_neDK rfl hr.units) (pv 4) (pv 2) (nomark _)))) (fun _ _ _ _ _ => (pv 4))))
    (pss_one (ps_ret (pe_lst (pa_cons (pv 2) (StX.pa_star (pe_sortLam (c := (He.cT K ("corners_between", none)).1) (P := tabC K) (N := ["other", "first", "others"]) (fr := ["first", "others"]) (x := "other") (js := [2, 3]) (k := 3) rfl T.m_sorted (TB (He.cT K ("corners_between", none)) (by show _ ∈ [_, _]; exact List.mem_cons_of_mem _ List.mem_cons_self)) hc rfl (hr.mono (by decide)) (NdefX.nscope_by (by decide +kernel)) rfl ?free ?fr rfl (fun _ _ _ _ _ => rfl) (pv 3)
      (fun cl c' f A outer s H hr' => pe_own C_many_on_the_right hr' rfl (pa_cons (pv 1) (pa_cons (pv 0) (pa_cons (pv 2) pa_nil))))) pa_nil))))))))), ?_⟩)⟩
  · obtain ⟨l, ps, rs, rfl, _⟩ := h
    rfl
  case free => exact (fun y hy e => free_first y hy e)
  case fr => exact (by decide +kernel)
  · obtain ⟨l, ps, rs, rfl, hl, ok, tb, k⟩ := h
    refine ⟨_, rfl, l, ps, rs, rfl, hl, ok, tb, fun H1 d cs qs s1 hd pt kept => gName_go ?_⟩
    refine ⟨_, rfl, _, .inl ⟨_, pt.seq, rfl⟩, ?_⟩
    cases qs with
    | nil =>
      have len := pt.at_.len
      cases cs with
      | cons a t => cases len
      | nil => exact iteT ⟨Nat.zero_le _, fun e he => k _ e [] [] (s1.trans (same_upd he)) (s1.free he) ⟨upd_same, rfl⟩ ⟨kept.low, kept.corner, kept.all, kept.nd, fun a t z => (by cases z), fun z => absurd z (by decide)⟩⟩
    | cons q0 qt =>
      have len := pt.at_.len
      cases cs with
      | nil => cases len
      | cons p0 pt' =>
        refine iteF ?_
        have sz : ∀ q ∈ q0 :: qt, SzP 1000 q := fun q hq => (ok.corner (kept.low q hq) (kept.corner q hq).two).mono (by decide)
        revert kept pt len sz
        generalize p0 :: pt' = cs
        intro kept pt len sz
        refine ⟨_, rfl, d, _, _, rfl, pt, by simp, sz, fun q hq => (kept.low q hq).1, fun p q mq hp least => gName_go ?_⟩
        revert kept pt len sz mq least
        generalize q0 :: qt = qs
        intro kept pt len sz mq least
        refine ⟨_, rfl, d, rfl, ⟨_, pt.seq⟩, fun D hD => ?_⟩
        refine lc_list (K := K) (a := d) (xs := cs.map V.ref) (fun i H' => Same H1 H' ∧ ∃ ps', PtL H' D ps' ((qs.take i).filter fun c => decide (c ≠ q))) ⟨same_upd hD, [], ⟨upd_same, rfl⟩⟩ (fun i H' _ z => (pt.up z.1).seq) ?_ ?_
        · rintro i v H' hi ⟨s2, ps', hl'⟩
          obtain ⟨pc, c, rfl, _, hcc, hat⟩ := (pt.up s2).get' hi
          refine ⟨rfl, _, rfl, _, rfl, _, _, dp_pt hat, dp_pt (s2 _ _ hp), rfl, rfl, _, rfl, ?_⟩
          rw [eqv_pt]
          have step : (qs.take (i + 1)).filter (fun c => decide (c ≠ q)) = (qs.take i).filter (fun c => decide (c ≠ q)) ++ if c ≠ q then [c] else [] := by
            rw [List.take_add_one, hcc, List.filter_append]
            congr 1
            show List.filter _ [c] = _
            by_cases t : c ≠ q
            · rw [if_pos t, List.filter_cons_of_pos (by simpa using t)]
              rfl
            · rw [if_neg t, List.filter_cons_of_neg (by simpa using t)]
              rfl
          dsimp only
          by_cases t : c = q
          · rw [decide_eq_true t]
            refine iteF ⟨s2, ps', ?_⟩
            rw [step, if_neg (fun z => z t), List.append_nil]
            exact hl'
          · rw [decide_eq_false t]
            refine iteT ⟨_, rfl, _, hl'.lst, ?_, upd_new s2 hD hl'.lst, ps' ++ [pc], ?_⟩
            · rw [hl'.len, sizeLine_eq]
              have := List.length_filter_le (fun c => decide (c ≠ q)) (qs.take i)
              have := List.length_take_le' i qs
              have := kept.few ok
              omega
            · rw [step, if_pos t]
              exact hl'.push hat pt_tup
        · rintro H2 ⟨s2, ps', hl'⟩
          rw [pt.len, List.take_length] at hl'
          refine gName_go ?_
          have mem : ∀ x, x ∈ q :: qs.filter (fun c => decide (c ≠ q)) ↔ x ∈ qs := fun x => by
            rw [List.mem_cons, List.mem_filter]
            by_cases e : x = q
            · subst e
              simp [mq]
            · simp [e]
          have nd : (q :: qs.filter (fun c => decide (c ≠ q))).Nodup := List.nodup_cons.mpr ⟨fun z => by simpa using (List.mem_filter.mp z).2, kept.nd.sublist List.filter_sublist⟩
          have few : (qs.filter (fun c => decide (c ≠ q))).length ≤ 1000 := Nat.le_trans (List.length_filter_le _ _) (Nat.le_trans (kept.few ok) (by decide))
          revert mem nd few hl'
          generalize qs.filter (fun c => decide (c ≠ q)) = os
          intro hl' mem nd few
          have so : ∀ x ∈ os, x ∈ qs := fun x hx => (mem x).mp (List.mem_cons_of_mem _ hx)
          have t2 := s1.trans s2
          obtain ⟨cs2, ss, en, at2, perm, srt⟩ := byNum_map hl'.at_ fun x => LG.rightOf q os x
          refine ⟨_, rfl, _, rfl, D, _, os.map fun x => (LG.rightOf q os x : Int), rfl, hl'.seq, ?_, (tb.up t2).between, ?_, ?_⟩
          · rw [List.length_map, hl'.len]
          · intro i x n hx hn H3 s3
            obtain ⟨px, y, rfl, _, hy, hat⟩ := (hl'.up s3).get' hx
            rw [List.getElem?_map, hy] at hn
            cases hn
            exact ⟨_, rfl, _, rfl, _, rfl, p, px, D, _, q, y, os, rfl, (s2.trans s3) _ _ hp, hat, hl'.up s3, sz q mq, sz y (so y (List.mem_of_getElem? hy)), fun z hz => sz z (so z hz), few, fun H' s => ⟨rfl, s⟩⟩
          · intro H4 a s4 na at4
            rw [en] at at4
            refine ⟨a, _, rfl, .inr (SqL.of at4), ?_, fun e he => ?_⟩
            · rw [sizeLine_eq]
              have e1 := At.len at2
              have e2 := perm.length_eq
              have e3 := kept.few ok
              rw [List.length_cons, List.append_nil, List.length_map]
              omega
            have s5 := same_upd (o := .lst (V.ref p :: (cs2.map V.ref ++ []))) he
            rw [List.append_nil] at s5 ⊢
            refine k _ e (p :: cs2) (q :: ss) ((t2.trans s4).trans s5) ((t2.trans s4).free he) ⟨upd_same, ?_⟩ (LG.told_by (fun x hx => kept.low x ((mem x).mp hx)) (fun x hx => kept.corner x ((mem x).mp hx)) (fun x hx => ?_) nd (fun x hx => least x (so x hx)) perm srt)
            · show _ :: cs2.map _ = some (ptHO q) :: ss.map _
              rw [((s2.trans s4).trans s5) _ _ hp, show cs2.map _ = _ from (At.up (s4.trans s5) at2 :)]
            · obtain ⟨c, hc, sm⟩ := kept.all x hx
              exact ⟨c, (mem c).mpr hc, sm⟩

/-! ## corners -/
abbrev n_corners : List Str := ["size", "fences"]
theorem sc_corners : FnScope n_corners ["size", "fences"] (defScope s_corners) := ⟨rfl, rfl, rfl, by decide +kernel, rfl, by decide +kernel, by decide +kernel⟩
theorem ok_corners (T : Txt K mg) (C_fences_and_edges : Good P w K mg base (L2.CX P w) 6 "fences_and_edges" ["size", "fences"] (sp_fences_and_edges K)) (C_corners_between : Good P w K mg base CX0 8 "corners_between" ["lines"] (sp_corners_between K)) :
    Good P w K mg base (L2.CX P w) 9 "corners" ["size", "fences"] (sp_corners K) := by
  obtain ⟨fd, F⟩ := T.d_corners
  refine ⟨T.g_corners, F.kp, fd, F.bindsN (fun _ _ _ _ _ _ us hl => match us, hl with | [_, _], _ => rfl), F.ok sc_corners (fun vs H Q E h => ?_) (fun cdv A outer s H vs Q E hr h => ⟨_, (pss_one (ps_ret (pe_own C_corners_between hr rfl (pa_cons (pe_ownR C_fences_and_edges (hr.mono (by decide)) (takes_of rfl rfl rfl rfl) (fun _ _ _ _ h => h) rfl (pa_cons (pv 0) (pa_cons (pv 1) pa_nil))) pa_nil)))), ?_⟩)⟩
  · obtain ⟨v, l, rfl, _⟩ := h
    rfl
  · obtain ⟨v, l, rfl, av, tb, xs, hl, it, no, good⟩ := h
    exact ⟨_, rfl, _, rfl, v, l, rfl, av, xs, hl, it, no, fun n ps fs ev land H' d qs s newd rows => ⟨d, qs, _, rfl, rows, rowsOk land.ok land.n1 land.n2, tb.up s, fun H2 e cs ts s2 newe pts told => good n ps fs ev land H2 e cs ts (s.trans s2) (s.free newe) pts told⟩⟩

/-! ## twice_area -/
abbrev n_twice_area : List Str := ["size", "fences", "told", "over", "under", "one", "other", "part", "by", "shared"]
theorem sc_twice_area : FnScope n_twice_area ["size", "fences"] (defScope s_twice_area) := ⟨rfl, rfl, rfl, by decide +kernel, rfl, by decide +kernel, by decide +kernel⟩
theorem ok_twice_area (T : Txt K mg) (C_corners : Good P w K mg base (L2.CX P w) 9 "corners" ["size", "fences"] (sp_corners K)) :
    Good P w K mg base (L2.CX P w) 10 "twice_area" ["size", "fences"] (sp_twice_area K) := by
  obtain ⟨fd, F⟩ := T.d_twice_area
  refine ⟨T.g_twice_area, F.kp, fd, F.bindsN (fun _ _ _ _ _ _ us hl => match us, hl with | [_, _], _ => rfl), F.ok sc_twice_area (fun vs H Q E h => ?_) (fun cdv A outer s H vs Q E hr h => ⟨_, (pss_cons (ps_set (i := 2) sc_twice_area.nd rfl (Or.inl rfl) (pe_ownR C_corners hr (takes_of rfl rfl rfl rfl) (fun _ _ _ _ h => h) rfl (pa_cons (pv 0) (pa_cons (pv 1) pa_nil))))
    (pss_cons (ps_asg (pe_tup (pa_cons pe_int (pa_cons pe_int pa_nil))) (pg_tup (by rfl) (pgs_cons (pg_name (i := 3) sc_twice_area.nd rfl (Or.inl rfl)) (pgs_cons (pg_name (i := 4) sc_twice_area.nd rfl (Or.inl rfl)) pgs_nil))))
    (pss_cons (ps_for (passes_of rfl) rfl (pi_zip (by rfl) T.m_zip (pa_cons (pv 2) (pa_cons (pe_op op_cat (pe_slice sl_list (pv 2) (po_some pe_int) po_none) (pe_slice sl_list (pv 2) po_none (po_some pe_int))) pa_nil))) (pg_tup (by rfl) (pgs_cons (pg_name (i := 5) sc_twice_area.nd rfl (Or.inl rfl)) (pgs_cons (pg_name (i := 6) sc_twice_area.nd rfl (Or.inl rfl)) pgs_nil)))
    (pss_cons (ps_set (i := 7) sc_twice_area.nd rfl (Or.inl rfl) (pe_op op_sub (pe_op op_mulW (pe_ix ix_tup (pv 5) pe_int (fun _ _ => rfl)) (pe_ix ix_tup (pv 6) pe_int (fun _ _ => rfl))) (pe_op op_mulW (pe_ix ix_tup (pv 6) pe_int (fun _ _ => rfl)) (pe_ix ix_tup (pv 5) pe_int (fun _ _ => rfl)))))
    (pss_cons (ps_set (i := 8) sc_twice_area.nd rfl (Or.inl rfl) (pe_op op_mulW (pe_ix ix_tup (pv 5) pe_int (fun _ _ => rfl)) (pe_ix ix_tup (pv 6) pe_int (fun _ _ => rfl))))
    (pss_one (ps_par (i := 3) (j := 4) (by rfl) sc_twice_area.nd rfl rfl (by decide) rfl rfl (pa_cons (pe_op op_add (pe_op op_mulW (pv 3) (pv 8)) (pe_op op_mulW (pv 7) (pv 4))) (pa_cons (pe_op op_mulW (pv 4) (pv 8)) pa_nil)) (by rfl))))))
    (pss_cons (ps_set (i := 9) sc_twice_area.nd rfl (Or.inl rfl) (pe_callBfun cr_gcd (by rfl) T.gcd (pa_cons (pv 3) (pa_cons (pv 4) pa_nil))))
    (pss_one (ps_ret (pe_tup (pa_cons (pe_op op_fdivA (pv 3) (pv 9)) (pa_cons (pe_op op_fdivA (pv 4) (pv 9)) pa_nil))))))))), ?_⟩)⟩
  · obtain ⟨v, l, rfl, _⟩ := h
    rfl
  · obtain ⟨v, l, rfl, av, tb, xs, hl, it, no, good⟩ := h
    refine ⟨_, rfl, _, rfl, v, l, rfl, av, tb, xs, hl, it, no, fun n ps fs ev land H' d cs qs s newd pt told => gName_go ?_⟩
    have good := good n ps fs ev land
    clear it no hl
    refine ⟨(by show 2 ≤ sizeLine; decide), fun T0 hT0 => ⟨T0, _, rfl, SqT.of upd_same, rfl, _, _, rfl, _, _, rfl, rfl, ?_⟩⟩
    have s1 := s.trans (same_upd (o := .tup [V.int 0, .int 1]) hT0)
    have pt1 := pt.up (same_upd (o := .tup [V.int 0, .int 1]) hT0)
    revert s1 pt1
    generalize upd H' T0 (.tup [V.int 0, .int 1]) = H1
    clear hT0 T0 pt newd
    intro s1 pt
    have hd1 := pt.seq (K := K)
    refine ⟨_, rfl, _, rfl, 1, rfl, d, _, rfl, hd1, fun a1 n1 => ?_⟩
    rw [cut_tail]
    have u1 := same_upd (o := .lst ((cs.map V.ref).drop 1)) n1
    have at1 : upd H1 a1 (.lst ((cs.map V.ref).drop 1)) a1 = some (.lst ((cs.map V.ref).drop 1)) := upd_same
    revert u1 at1
    generalize upd H1 a1 (.lst ((cs.map V.ref).drop 1)) = H2
    intro u1 at1
    refine ⟨_, rfl, 1, rfl, d, _, rfl, (pt.up u1).seq, fun a2 n2 => ?_⟩
    rw [cut_first]
    have u2 := same_upd (o := .lst ((cs.map V.ref).take 1)) n2
    have at2 : upd H2 a2 (.lst ((cs.map V.ref).take 1)) a2 = some (.lst ((cs.map V.ref).take 1)) := upd_same
    have at1 := u2 _ _ at1
    revert u2 at2 at1
    generalize upd H2 a2 (.lst ((cs.map V.ref).take 1)) = H3
    intro u2 at2 at1
    have clen : (cs.map V.ref).length = qs.length := pt.len
    have few := told_20 told land.ok
    have rlen := rot_len (cs.map V.ref)
    refine ⟨a1, a2, _, _, rfl, rfl, at1, at2, ?_, fun r nr => ?_⟩
    · rw [← List.length_append, rlen, clen, sizeLine_eq]
      omega
    have u3 := same_upd (o := .lst ((cs.map V.ref).drop 1 ++ (cs.map V.ref).take 1)) nr
    have at3 : upd H3 r (.lst ((cs.map V.ref).drop 1 ++ (cs.map V.ref).take 1)) r = some (.lst ((cs.map V.ref).drop 1 ++ (cs.map V.ref).take 1)) := upd_same
    have t3 := s1.trans ((u1.trans u2).trans u3)
    have pt3 := pt.up ((u1.trans u2).trans u3)
    revert at3 t3 pt3
    generalize upd H3 r (.lst ((cs.map V.ref).drop 1 ++ (cs.map V.ref).take 1)) = H4
    clear pt hd1 s1
    intro at3 t3 pt
    have szp : ∀ x ∈ qs, SzP 100 x := fun x hx => Told.sz told land.ok land.n1 land.n2 hx
    have wp : ∀ x ∈ qs, 0 < x.w := fun x hx => (told.low x hx).1
    refine ⟨d, r, _, _, rfl, pt.seq, SqL.of at3, RZ.for_zipL (K := K) (xs := cs.map V.ref) (ys := (cs.map V.ref).drop 1 ++ (cs.map V.ref).take 1) rlen.symm (fun i σ H' => Same H4 H' ∧ ∃ (m b : Int) (z5 z6 z7 z8 : Option V), σ = [some v, some (.ref l), some (.ref d), some (.int m), some (.int b), z5, z6, z7, z8, none] ∧
      0 < b ∧ (m : Rat) = LG.fwd (qs.map LG.toQ) i * b ∧ Sz (300 * i + 300) m ∧ Sz (200 * i + 200) b)
      ⟨Same.refl _, 0, 1, none, none, none, none, rfl, by decide, ?_, .of (b := 0) (by decide) (by decide), .of (b := 1) (by decide) (by decide)⟩ (fun i σ H' z => ⟨(pt.up z.1).seq, SqL.of (z.1 _ _ at3)⟩) ?_ ?_⟩
    · show ((0 : Int) : Rat) = 0 * ((1 : Int) : Rat)
      rw [Rat.zero_mul]
      rfl
    · rintro i x y T σ H' hx hy ⟨s4, m, b, z5, z6, z7, z8, rfl, b0, eq, sm, sb⟩ hT
      have il : i < qs.length := by
        have := (List.getElem?_eq_some_iff.mp hx).1
        omega
      have pl := LG.nxt_lt il
      rw [rot_get (by omega), clen] at hy
      obtain ⟨p0, u, rfl, _, hu, hat0⟩ := (pt.up s4).get' hx
      obtain ⟨p1, w1, rfl, _, hw1, hat1⟩ := (pt.up s4).get' hy
      have sumq : LG.fwd (qs.map LG.toQ) (i + 1) = LG.fwd (qs.map LG.toQ) i + LG.cr (LG.toQ u) (LG.toQ w1) := by
        show _ + LG.cr (LG.atQ _ i) (LG.atQ _ (LG.nxt (qs.map LG.toQ).length i)) = _
        have l1 : LG.nxt (qs.map LG.toQ).length i = LG.nxt qs.length i := by rw [List.length_map]
        rw [l1, LG.atQ_get (by rw [List.length_map]; exact il), LG.atQ_get (by rw [List.length_map]; exact pl), List.getElem_map, List.getElem_map, (List.getElem?_eq_some_iff.mp hu).2, (List.getElem?_eq_some_iff.mp hw1).2]
      have m0 := List.mem_of_getElem? hu
      have m1 := List.mem_of_getElem? hw1
      have sx := szp u m0
      have sy := szp w1 m1
      have wx := wp u m0
      have wy := wp w1 m1
      have s5 := s4.trans (same_upd (o := .tup [V.ref p0, .ref p1]) hT)
      have hat0 := (same_upd (o := .tup [V.ref p0, .ref p1]) hT) _ _ hat0
      have hat1 := (same_upd (o := .tup [V.ref p0, .ref p1]) hT) _ _ hat1
      have hatT : upd H' T (.tup [V.ref p0, .ref p1]) T = some (.tup [V.ref p0, .ref p1]) := upd_same
      revert s5 hat0 hat1 hatT
      generalize upd H' T (.tup [V.ref p0, .ref p1]) = H5
      intro s5 hat0 hat1 hatT
      have Tx : SqT K H5 p0 [.int u.x, .int u.y, .int u.w] := SqT.of hat0
      have Ty : SqT K H5 p1 [.int w1.x, .int w1.y, .int w1.w] := SqT.of hat1
      have i20 : i < 20 := by omega
      have C1 := sx.x.mul sy.y
      have C2 := sy.x.mul sx.y
      have D1 := C1.sub C2
      have B0 := sx.b.mul sy.b
      refine ⟨T, _, rfl, SqT.of hatT, rfl, _, _, rfl, _, _, rfl, rfl, ?_⟩
      refine ⟨_, rfl, p0, _, 0, _, rfl, rfl, Tx, rfl, _, rfl, p1, _, 1, _, rfl, rfl, Ty, rfl, _, _, rfl, rfl, sx.x.ok sy.y (by decide) (by decide) (by decide), ?_⟩
      refine ⟨_, rfl, p1, _, 0, _, rfl, rfl, Ty, rfl, _, rfl, p0, _, 1, _, rfl, rfl, Tx, rfl, _, _, rfl, rfl, sy.x.ok sx.y (by decide) (by decide) (by decide), _, _, rfl, rfl, gName_go ?_⟩
      refine ⟨_, rfl, p0, _, 2, _, rfl, rfl, Tx, rfl, _, rfl, p1, _, 2, _, rfl, rfl, Ty, rfl, _, _, rfl, rfl, sx.b.ok sy.b (by decide) (by decide) (by decide), gName_go ?_⟩
      refine ⟨_, rfl, _, rfl, _, _, rfl, rfl, sm.ok B0 (by omega) (by decide) (by omega), _, rfl, _, rfl, _, _, rfl, rfl, D1.ok sb (by decide) (by omega) (by omega), _, _, rfl, rfl, ?_⟩
      refine ⟨_, rfl, _, rfl, _, _, rfl, rfl, sb.ok B0 (by omega) (by decide) (by omega), _, _, rfl, ?_⟩
      have tn := LG.area_turn wx wy b0 eq
      rw [← sumq] at tn
      refine ⟨s5, _, _, _, _, _, _, rfl, Int.mul_pos b0 (Int.mul_pos wx wy), ?_, ?_, ?_⟩
      · rw [← Int.mul_assoc, ← Int.mul_assoc]
        exact tn
      · exact (((sm.mul B0).mono (show 300 * i + 300 + (100 + 100) ≤ 300 * i + 599 by omega)).add ((D1.mul sb).mono (by omega))).mono (by omega)
      · exact (sb.mul B0).mono (by omega)
    · rintro σ H' ⟨s4, m, b, z5, z6, z7, z8, rfl, b0, eq, sm, sb⟩
      rw [clen] at sm sb eq
      have e : LG.fwd (qs.map LG.toQ) qs.length = LG.Ar (qs.map LG.toQ) := by
        rw [LG.ar_S, ← LG.fwd_all, List.length_map]
      rw [e] at eq
      have sm : Sz 6300 m := sm.mono (by omega)
      have sb : Sz 4200 b := sb.mono (by omega)
      refine ⟨_, rfl, _, rfl, m, b, rfl, gName_go ?_⟩
      have gp : 0 < Nat.gcd m.natAbs b.natAbs := Nat.gcd_pos_of_pos_right _ (Int.natAbs_pos.mpr (by omega))
      have gB : Nat.gcd m.natAbs b.natAbs ≤ b.natAbs := Nat.gcd_le_right _ (Int.natAbs_pos.mpr (by omega))
      have dM : ((Nat.gcd m.natAbs b.natAbs : Nat) : Int) ∣ m := Int.natAbs_dvd_natAbs.mp (by rw [Int.natAbs_natCast]; exact Nat.gcd_dvd_left _ _)
      have dB : ((Nat.gcd m.natAbs b.natAbs : Nat) : Int) ∣ b := Int.natAbs_dvd_natAbs.mp (by rw [Int.natAbs_natCast]; exact Nat.gcd_dvd_right _ _)
      have low : Nat.gcd (m.fdiv ((Nat.gcd m.natAbs b.natAbs : Nat) : Int)).natAbs (b.fdiv ((Nat.gcd m.natAbs b.natAbs : Nat) : Int)).natAbs = 1 := by
        generalize hg : Nat.gcd m.natAbs b.natAbs = g at *
        obtain ⟨u, hu⟩ := dM
        obtain ⟨v, hv⟩ := dB
        have g0 : (g : Int) ≠ 0 := by omega
        rw [hu, hv, Int.mul_fdiv_cancel_left u g0, Int.mul_fdiv_cancel_left v g0]
        rw [hu, hv, Int.natAbs_mul, Int.natAbs_mul, Int.natAbs_natCast, Nat.gcd_mul_left] at hg
        have : g * Nat.gcd u.natAbs v.natAbs = g * 1 := by omega
        exact Nat.eq_of_mul_eq_mul_left gp this
      generalize Nat.gcd m.natAbs b.natAbs = g at *
      have cd : ∀ z, CDivA z (g : Int) := fun z => divA (b := 4200) (by omega) (by rw [Int.natAbs_natCast]; exact Nat.lt_of_le_of_lt gB sb) (by omega) (by omega)
      have fr := LG.frac_div (show (0 : Int) < g by omega) dM dB eq
      have le : ∀ {z : Int}, (g : Int) ∣ z → (z.fdiv g).natAbs ≤ z.natAbs := by
        rintro z ⟨k, rfl⟩
        rw [Int.mul_fdiv_cancel_left k (by omega), Int.natAbs_mul]
        exact Nat.le_mul_of_pos_left _ (by omega)
      have qp : 0 < b.fdiv g := by
        obtain ⟨v, hv⟩ := dB
        rw [hv, Int.mul_fdiv_cancel_left v (by omega)]
        rw [hv] at b0
        exact Int.pos_of_mul_pos_right b0 (by omega)
      refine ⟨_, rfl, _, rfl, _, _, rfl, rfl, cd _, _, rfl, _, rfl, _, _, rfl, rfl, cd _, (by show 2 ≤ sizeLine; decide), fun p hp => ?_⟩
      exact good _ p _ _ ((t3.trans s4).trans (same_upd hp)) upd_same ⟨qp, low, ⟨qs, told, fr⟩, Sz.mono (Nat.lt_of_le_of_lt (le dM) sm) (by omega), Sz.mono (Nat.lt_of_le_of_lt (le dB) sb) (by omega)⟩

/-! ## Ground.__init__ -/
abbrev n_Ground_init : List Str := ["self", "size"]
theorem sc_Ground_init : FnScope n_Ground_init ["self", "size"] (defScope s_Ground_init) := ⟨rfl, rfl, rfl, by decide +kernel, rfl, by decide +kernel, by decide +kernel⟩
theorem ok_Ground_init (T : Txt K mg) (C_check_size : Good P w K mg base (L2.CX P w) 3 "check_size" ["size"] (sp_check_size K)) : GoodI P w K mg base (L2.CX P w) 4 "Ground" ["self", "size"] (sp_g_init K) := by
  obtain ⟨fd, F⟩ := T.d_Ground_init
  refine ⟨T.mk_Ground, T.g_Ground, fd, F.bindsN (fun _ _ _ _ _ _ us hl => match us, hl with | [_, _], _ => rfl), F.ok sc_Ground_init (fun vs H Q E h => ?_) (fun cdv A outer s H vs Q E hr h => ⟨_, (pss_cons (ps_expr (pe_ownR C_check_size hr (takes_of rfl rfl rfl rfl) (fun _ _ _ _ h => h) rfl (pa_cons (pv 1) pa_nil)))
    (pss_cons (ps_fld (pv 0) (pv 1) rfl)
    (pss_cons (ps_fld (pv 0) pe_dnewK rfl)
    (pss_one (ps_fld (pv 0) pe_int rfl))))), ?_⟩)⟩
  · obtain ⟨p, dx, v, rfl, _⟩ := h
    rfl
  · obtain ⟨p, dx, v, rfl, av, hp, no, yes⟩ := h
    refine ⟨_, rfl, v, rfl, av, no, fun wv => ?_⟩
    obtain ⟨n, rfl⟩ := within_int wv
    have le := within_le wv
    refine ⟨_, rfl, _, rfl, p, _, dx, [], rfl, hp, T.cl_Ground, T.no_size, (by show 0 < 1000; decide), ?_⟩
    intro d hd
    have npd : p ≠ d := ne_of_none upd_same hd
    refine ⟨_, rfl, p, _, dx, _, rfl, (by rw [upd_ne npd]; exact upd_same), T.cl_Ground, T.no_fences, (by show 1 < 1000; decide), ?_⟩
    refine ⟨_, rfl, p, _, dx, _, rfl, upd_same, T.cl_Ground, T.no_coming, (by show 2 < 1000; decide), ?_⟩
    have hd0 : H d = none := by
      rw [upd_ne npd.symm] at hd
      exact hd
    refine yes n rfl le.1 le.2 d _ hd0 ⟨⟨dx, ?_⟩, ?_, fun g hg => absurd hg List.not_mem_nil, le.1, le.2, Nat.zero_le _⟩ ?_
    · rw [upd_same, gF_made]
      rfl
    · rw [upd_ne npd.symm, upd_ne npd.symm, upd_same]
      rfl
    · exact (((upd_X hp (fun _ z => by cases z) (by simp)).trans (same_upd hd).x).trans (upd_X (by rw [upd_ne npd]; exact upd_same) (fun _ z => by cases z) (by simp))).trans (upd_X upd_same (fun _ z => by cases z) (by simp))

/-! ## Ground.put -/
abbrev n_Ground_put : List Str := ["self", "fence", "number"]
theorem sc_Ground_put : FnScope n_Ground_put ["self", "fence"] (defScope s_Ground_put) := ⟨rfl, rfl, rfl, by decide +kernel, rfl, by decide +kernel, by decide +kernel⟩
theorem ok_Ground_put (T : Txt K mg) (C_check_fence : Good P w K mg base (L2.CX P w) 5 "check_fence" ["value"] (sp_check_fence K)) : GoodM P w K mg base (L2.CX P w) 6 "Ground" "put" ["self", "fence"] (sp_g_put K) := by
  obtain ⟨fd, F⟩ := T.d_Ground_put
  obtain ⟨_, c_MOST_FENCES⟩ := T.c_MOST_FENCES
  refine ⟨T.me_Ground_put, T.cl_Ground, fd, F.bindsN (fun _ _ _ _ _ _ us hl => match us, hl with | [_, _], _ => rfl), F.ok sc_Ground_put (fun vs H Q E h => ?_) (fun cdv A outer s H vs Q E hr h => ⟨_, (pss_cons (ps_expr (pe_ownR C_check_fence hr (takes_of rfl rfl rfl rfl) (fun _ _ _ _ h => h) rfl (pa_cons (pv 1) pa_nil)))
    (pss_cons (ps_if (pt_cmpR op_ge (pe_callB call_lenD (by rfl) T.m_len PySem.boot_len (pa_cons (pe_fld (pv 0) rfl) pa_nil)) (pe_glob (v := .int (16)) rfl c_MOST_FENCES ⟨_, rfl⟩) (nomark _)) (pss_one (ps_raise rfl (takes_of rfl rfl rfl rfl) (pmk_own PySem.F.excBase_ValueError T.TooMany.x T.TooMany.g T.TooMany.k (raises_own T.TooMany.b T.TooMany.t) rfl))) pss_nil)
    (pss_cons (ps_set (i := 2) sc_Ground_put.nd rfl (Or.inl rfl) (pe_fld (pv 0) rfl))
    (pss_cons (ps_dput (hu_of hr) (pe_fld (pv 0) rfl) (pv 2) (pv 1) rfl)
    (pss_cons (ps_fld (pv 0) (pe_op op_add (pv 2) pe_int) rfl)
    (pss_one (ps_ret (pv 2)))))))), ?_⟩)⟩
  · obtain ⟨p, d, n, rows, x, rfl, _⟩ := h
    rfl
  · obtain ⟨p, d, n, rows, x, rfl, g, fx, many, bad, full, good⟩ := h
    refine ⟨_, rfl, x, rfl, fx, bad, fun isf H1 s1 => ?_⟩
    have g1 := g.up s1
    obtain ⟨dx, ob⟩ := g1.ob
    have npd := g1.pd
    have len := gKf_len 0 rows
    refine ⟨_, rfl, p, _, dx, _, _, rfl, ob, T.cl_Ground, T.no_fences, gF_fences _ _ _, d, _, rfl, g1.dc, _, _, rfl, rfl, _, rfl, ite2 (fun c => ?_) (fun c => next_go ?_)⟩
    · have c : (16 : Int) ≤ ((gKf 0 rows).length : Nat) := of_decide_eq_true c
      exact full isf (by omega) H1 s1
    have c : ¬ (16 : Int) ≤ ((gKf 0 rows).length : Nat) := fun z => c (decide_eq_true z)
    obtain ⟨a, va, vb, vc, rfl, ea, okf⟩ := isf
    obtain ⟨i, j, l, rfl, rfl, rfl, fen⟩ := fenceI_of okf
    have fr : FenceR ⟨i, j, l⟩ := fen
    have new : valV (gKf 0 rows) (.inl ((rows.length : Nat) : Int)) = none := gKf_high 0 rows _ (by omega)
    refine ⟨_, rfl, p, _, dx, _, _, rfl, ob, T.cl_Ground, T.no_coming, gF_coming _ _ _, gName_go ?_⟩
    refine ⟨_, rfl, _, rfl, p, _, dx, _, _, rfl, ob, T.cl_Ground, T.no_fences, gF_fences _ _ _, _, rfl, d, _, rfl, DPut.k (k := Sum.inl ((rows.length : Nat) : Int)) g1.dc (by rw [len, sizeLine_eq]; omega), ?_⟩
    have ob2 : ∀ o, upd H1 d o p = some (.ins (He.ga K "Ground") dx (gF n d (rows.length : Nat))) := fun o => (upd_ne npd).trans ob
    refine ⟨_, rfl, _, _, rfl, rfl, _, rfl, p, _, dx, _, rfl, ob2 _, T.cl_Ground, T.no_coming, (by show 3 < 1000; decide), ?_⟩
    refine ⟨_, rfl, ?_⟩
    rw [putK_new _ new]
    have s2 : SameX [p, d] H1 (upd H1 d (.dK (gKf 0 rows ++ [(.inl ((rows.length : Nat) : Int), .ref a)]))) := upd_X g1.dc (fun _ z => by cases z) (by simp)
    have s3 := s2.trans (upd_X (bs := [p, d]) (o' := .ins (He.ga K "Ground") dx (putF "_coming" (.int ((rows.length : Nat) + 1)) (gF n d (rows.length : Nat)))) (ob2 _) (fun _ z => by cases z) (by simp))
    have ll : (live (rows ++ [some (a, ⟨i, j, l⟩)])) = live rows ++ [(a, ⟨i, j, l⟩)] := live_app _ _
    refine good a ⟨i, j, l⟩ rfl ea fr (by omega) _ (s1.x.trans s3) ⟨⟨dx, ?_⟩, ?_, ?_, g.n1, g.n2, ?_⟩
    · rw [upd_same, gF_put, List.length_append]
      rfl
    · rw [upd_ne npd.symm, upd_same, gKf_app, Nat.zero_add]
      rfl
    · intro x hx
      rw [ll] at hx
      rcases List.mem_append.mp hx with hx | hx
      · exact ⟨g1.tup s3 (g1.at_ x hx).1, (g1.at_ x hx).2⟩
      · have e : x = (a, ⟨i, j, l⟩) := by simpa using hx
        rw [e]
        exact ⟨g1.tup s3 (s1 _ _ ea), fr⟩
    · rw [ll, List.length_append]
      show _ + 1 ≤ 16
      omega

/-! ## Ground.take -/
abbrev n_Ground_take : List Str := ["self", "number"]
theorem sc_Ground_take : FnScope n_Ground_take ["self", "number"] (defScope s_Ground_take) := ⟨rfl, rfl, rfl, by decide +kernel, rfl, by decide +kernel, by decide +kernel⟩
theorem ok_Ground_take (T : Txt K mg) (C_is_number : Good P w K mg base CX0 1 "is_number" ["value"] sp_num) : GoodM P w K mg base (L2.CX P w) 2 "Ground" "take" ["self", "number"] (sp_g_take K) := by
  obtain ⟨fd, F⟩ := T.d_Ground_take
  refine ⟨T.me_Ground_take, T.cl_Ground, fd, F.bindsN (fun _ _ _ _ _ _ us hl => match us, hl with | [_, _], _ => rfl), F.ok sc_Ground_take (fun vs H Q E h => ?_) (fun cdv A outer s H vs Q E hr h => ⟨_, (pss_cons (ps_if (PW.pt (pw_or (pt_not (pt_val (pe_own C_is_number hr rfl (pa_cons (pv 1) pa_nil)))) (pw_or1 (pt_cmp (pc_dnotin (hu_of hr) (pv 1) (pe_fld (pv 0) rfl)))))) (pss_one (ps_raise rfl (takes_of rfl rfl rfl rfl) (pmk_own PySem.F.excBase_ValueError T.NoFence.x T.NoFence.g T.NoFence.k (raises_own T.NoFence.b T.NoFence.t) rfl))) pss_nil)
    (pss_one (ps_ret (pe_dpop1 (pe_fld (pv 0) rfl) (pv 1) ⟨rfl, rfl, rfl, rfl⟩)))), ?_⟩)⟩
  · obtain ⟨p, d, n, rows, v, rfl, _⟩ := h
    rfl
  · obtain ⟨p, d, n, rows, v, rfl, g, av, no, yes⟩ := h
    obtain ⟨dx, ob⟩ := g.ob
    refine ⟨_, rfl, v, rfl, av, ?_⟩
    refine ⟨_, rfl, ?_⟩
    cases hn : isNum v with
    | false => exact iteT (no fun ⟨i, g, e, _⟩ => by rw [e] at hn; cases hn)
    | true =>
      obtain ⟨k, rfl⟩ : ∃ k, v = .int k := by cases v <;> first | exact ⟨_, rfl⟩ | cases hn
      refine iteF ⟨_, rfl, _, rfl, p, _, dx, _, _, rfl, ob, T.cl_Ground, T.no_fences, gF_fences _ _ _, d, _, rfl, DGet.k (k := Sum.inl k) g.dc, _, rfl, ?_⟩
      rcases gKf_val rows k with ⟨i, x, rfl, hi, e⟩ | ⟨ns, e⟩
      · rw [e]
        refine iteF (next_go ?_)
        refine ⟨_, rfl, p, _, dx, _, _, rfl, ob, T.cl_Ground, T.no_fences, gF_fences _ _ _, d, rfl, .inl ⟨_, .inl g.dc⟩, _, rfl, _, Sum.inl ((i : Nat) : Int), _, g.dc, rfl, e, ?_⟩
        have il := (List.getElem?_eq_some_iff.mp hi).1
        have dr := gKf_drop 0 rows i il
        rw [Nat.zero_add] at dr
        rw [dr]
        have s2 : SameX [p, d] H (upd H d (.dK (gKf 0 (rows.set i none)))) := upd_X g.dc (fun _ z => by cases z) (by simp)
        refine yes i x rfl hi _ s2 ⟨⟨dx, ?_⟩, upd_same, fun y hy => ?_, g.n1, g.n2, Nat.le_trans (live_set_le rows i) g.few⟩
        · rw [upd_ne g.pd, List.length_set]
          exact ob
        · have my : y ∈ live rows := by
            rw [live_mem] at hy ⊢
            rcases List.mem_or_eq_of_mem_set hy with z | z
            · exact z
            · cases z
          exact ⟨g.tup s2 (g.at_ y my).1, (g.at_ y my).2⟩
      · rw [e]
        exact iteT (no ns)

/-! ## Ground.standing -/
abbrev n_Ground_standing : List Str := ["self"]
theorem sc_Ground_standing : FnScope n_Ground_standing ["self"] (defScope s_Ground_standing) := ⟨rfl, rfl, rfl, by decide +kernel, rfl, by decide +kernel, by decide +kernel⟩
theorem ok_Ground_standing (T : Txt K mg) : GoodM P w K mg base CX0 1 "Ground" "standing" ["self"] (sp_g_standing K) := by
  obtain ⟨fd, F⟩ := T.d_Ground_standing
  refine ⟨T.me_Ground_standing, T.cl_Ground, fd, F.bindsN (fun _ _ _ _ _ _ us hl => match us, hl with | [_], _ => rfl), F.ok sc_Ground_standing (fun vs H Q E h => ?_) (fun cdv A outer s H vs Q E hr h => ⟨_, PSs.nox (pss_one (ps_ret (LiI.pe_listItems (by rfl) (pe_fld (pv 0) rfl) (by rfl) T.m_list boot_list))), ?_⟩)⟩
  · obtain ⟨p, d, n, rows, rfl, _⟩ := h
    rfl
  · obtain ⟨p, d, n, rows, rfl, g, k⟩ := h
    obtain ⟨dx, ob⟩ := g.ob
    exact ⟨_, rfl, p, _, dx, _, _, rfl, ob, T.cl_Ground, T.no_fences, gF_fences _ _ _, d, _, rfl, g.dc, fun H' L ts s nL _ _ atL pr => k H' L ts (.of s) nL atL pr⟩

/-! ## Ground._numbered_fences -/
abbrev n_Ground_numbered_fences : List Str := ["self"]
theorem sc_Ground_numbered_fences : FnScope n_Ground_numbered_fences ["self"] (defScope s_Ground_numbered_fences) := ⟨rfl, rfl, rfl, by decide +kernel, rfl, by decide +kernel, by decide +kernel⟩
theorem ok_Ground_numbered_fences (T : Txt K mg) : GoodM P w K mg base CX0 1 "Ground" "_numbered_fences" ["self"] (sp_g_numbered K) := by
  obtain ⟨fd, F⟩ := T.d_Ground_numbered_fences
  refine ⟨T.me_Ground_numbered_fences, T.cl_Ground, fd, F.bindsN (fun _ _ _ _ _ _ us hl => match us, hl with | [_], _ => rfl), F.ok sc_Ground_numbered_fences (fun vs H Q E h => ?_) (fun cdv A outer s H vs Q E hr h => ⟨_, PSs.nox (pss_one (ps_ret (pe_listValues (by rfl) (pe_fld (pv 0) rfl) (by rfl) T.m_list))), ?_⟩)⟩
  · obtain ⟨p, d, n, rows, rfl, _⟩ := h
    rfl
  · obtain ⟨p, d, n, rows, rfl, g, k⟩ := h
    obtain ⟨dx, ob⟩ := g.ob
    refine ⟨_, rfl, p, _, dx, _, _, rfl, ob, T.cl_Ground, T.no_fences, gF_fences _ _ _, d, _, rfl, g.dc, fun L hL => ?_⟩
    have := k L hL
    rw [gKf_vals]
    have e : ((live rows).map Prod.fst).map V.ref = (live rows).map fun g => V.ref g.1 := by rw [List.map_map]; rfl
    rw [e] at this
    exact this

/-! ## Ground.corners -/
abbrev n_Ground_corners : List Str := ["self"]
theorem sc_Ground_corners : FnScope n_Ground_corners ["self"] (defScope s_Ground_corners) := ⟨rfl, rfl, rfl, by decide +kernel, rfl, by decide +kernel, by decide +kernel⟩
theorem ok_Ground_corners (T : Txt K mg) (C_fences_and_edges : Good P w K mg base (L2.CX P w) 6 "fences_and_edges" ["size", "fences"] (sp_fences_and_edges K)) (C_corners_between : Good P w K mg base CX0 8 "corners_between" ["lines"] (sp_corners_between K))
    (C_Ground_numbered_fences : GoodM P w K mg base CX0 1 "Ground" "_numbered_fences" ["self"] (sp_g_numbered K)) : GoodM P w K mg base CX0 9 "Ground" "corners" ["self"] (sp_g_corners K) := by
  obtain ⟨fd, F⟩ := T.d_Ground_corners
  refine ⟨T.me_Ground_corners, T.cl_Ground, fd, F.bindsN (fun _ _ _ _ _ _ us hl => match us, hl with | [_], _ => rfl), F.ok sc_Ground_corners (fun vs H Q E h => ?_) (fun cdv A outer s H vs Q E hr h => ⟨_, PSs.nox (pss_one (ps_ret (pe_own C_corners_between hr rfl (pa_cons (pe_ownL C_fences_and_edges (hr.mono (by decide)) rfl (pa_cons (pe_fld (pv 0) rfl) (pa_cons (pe_methG0 C_Ground_numbered_fences (hr.mono (by decide)) pass0 (pv 0)) pa_nil))) pa_nil)))), ?_⟩)⟩
  · obtain ⟨p, d, n, rows, rfl, _⟩ := h
    rfl
  · obtain ⟨p, d, n, rows, rfl, g, tb, k⟩ := h
    obtain ⟨dx, ob⟩ := g.ob
    refine ⟨_, rfl, p, _, dx, _, _, rfl, ob, T.cl_Ground, T.no_size, gF_size _ _ _, ?_⟩
    refine ⟨_, rfl, p, dx, _, rfl, ob, rfl, p, d, n, rows, rfl, g, fun L hL => ?_⟩
    have s1 := same_upd (o := .lst (((live rows).map Prod.fst).map V.ref)) hL
    have land := (g.up s1).land upd_same
    refine ⟨.int n, L, rfl, .int n, _, upd_same, land.items, land.no, fun n' ps fs en land' H2 e qs s2 newe rs => ?_⟩
    cases en
    obtain ⟨rfl, rfl⟩ := land.at_.one row_inj land'.at_
    exact ⟨e, qs, _, rfl, rs, rowsOk land.ok g.n1 g.n2, (tb.up s1).up s2, fun H3 f cs ts s3 newf pt told => k H3 f cs ts ((s1.trans s2).trans s3) ((s1.trans s2).free newf) pt told⟩

/-! ## Ground.area -/
abbrev n_Ground_area : List Str := ["self"]
theorem sc_Ground_area : FnScope n_Ground_area ["self"] (defScope s_Ground_area) := ⟨rfl, rfl, rfl, by decide +kernel, rfl, by decide +kernel, by decide +kernel⟩
theorem ok_Ground_area (T : Txt K mg) (C_twice_area : Good P w K mg base (L2.CX P w) 10 "twice_area" ["size", "fences"] (sp_twice_area K))
    (C_Ground_numbered_fences : GoodM P w K mg base CX0 1 "Ground" "_numbered_fences" ["self"] (sp_g_numbered K)) : GoodM P w K mg base CX0 11 "Ground" "area" ["self"] (sp_g_area K) := by
  obtain ⟨fd, F⟩ := T.d_Ground_area
  refine ⟨T.me_Ground_area, T.cl_Ground, fd, F.bindsN (fun _ _ _ _ _ _ us hl => match us, hl with | [_], _ => rfl), F.ok sc_Ground_area (fun vs H Q E h => ?_) (fun cdv A outer s H vs Q E hr h => ⟨_, PSs.nox (pss_one (ps_ret (pe_ownL C_twice_area hr rfl (pa_cons (pe_fld (pv 0) rfl) (pa_cons (pe_methG0 C_Ground_numbered_fences (hr.mono (by decide)) pass0 (pv 0)) pa_nil))))), ?_⟩)⟩
  · obtain ⟨p, d, n, rows, rfl, _⟩ := h
    rfl
  · obtain ⟨p, d, n, rows, rfl, g, tb, k⟩ := h
    obtain ⟨dx, ob⟩ := g.ob
    refine ⟨_, rfl, p, _, dx, _, _, rfl, ob, T.cl_Ground, T.no_size, gF_size _ _ _, ?_⟩
    refine ⟨_, rfl, p, dx, _, rfl, ob, rfl, p, d, n, rows, rfl, g, fun L hL => ?_⟩
    have s1 := same_upd (o := .lst (((live rows).map Prod.fst).map V.ref)) hL
    have land := (g.up s1).land upd_same
    exact ⟨.int n, L, rfl, land.asks (tb.up s1) fun H2 t m b s2 ht ar => k H2 t m b (s1.trans s2) ht ar⟩

/-! ## _law_cell_at -/
abbrev n_law_cell_at : List Str := ["_law_script", "_law_k"]
theorem sc_law_cell_at : FnScope n_law_cell_at ["_law_script", "_law_k"] (defScope s_law_cell_at) := ⟨rfl, rfl, rfl, by decide +kernel, rfl, by decide +kernel, by decide +kernel⟩
theorem ok_law_cell_at (T : Txt K mg) : Good P w K mg base CX0 1 "_law_cell_at" ["_law_script", "_law_k"] (sp_cell K) := by
  obtain ⟨fd, F⟩ := T.d_law_cell_at
  refine ⟨T.g_law_cell_at, F.kp, fd, F.bindsN (fun _ _ _ _ _ _ us hl => match us, hl with | [_, _], _ => rfl), F.ok sc_law_cell_at (fun vs H Q E h => ?_) (fun cdv A outer s H vs Q E hr h => ⟨_, PSs.nox (pss_cons (ps_if (pt_cmpR op_lt (pv 1) (pe_callB call_len_seq (by rfl) T.m_len PySem.boot_len (pa_cons (pv 0) pa_nil)) (nomark _)) (pss_one (ps_ret (pe_ix ix_list (pv 0) (pv 1) (fun _ _ => rfl)))) pss_nil)
    (pss_one (ps_ret pe_int))), ?_⟩)⟩
  · obtain ⟨a, ns, k, rfl, _⟩ := h
    rfl
  · obtain ⟨a, ns, k, rfl, hS, h0, q⟩ := h
    refine ⟨_, rfl, _, rfl, a, _, rfl, .inl hS, _, _, rfl, rfl, _, rfl, ite2 (fun c => ?_) (fun c => ?_)⟩
    · have c1 := of_decide_eq_true c
      rw [List.length_map] at c1
      exact ⟨_, rfl, _, rfl, a, _, k, _, rfl, rfl, hS, atI_ints h0 c1, q⟩
    · have c1 : ¬ k < ((ns.map V.int).length : Int) := fun z => c (decide_eq_true z)
      rw [List.length_map] at c1
      have e : cell ns k = 0 := by
        unfold cell
        rw [List.getD_eq_getElem?_getD, List.getElem?_eq_none (by omega)]
        rfl
      rw [e] at q
      exact q

/-! ## _law_whole -/
abbrev n_law_whole : List Str := ["_law_thing"]
theorem sc_law_whole : FnScope n_law_whole ["_law_thing"] (defScope s_law_whole) := ⟨rfl, rfl, rfl, by decide +kernel, rfl, by decide +kernel, by decide +kernel⟩
theorem ok_law_whole (T : Txt K mg) : Good P w K mg base CX0 1 "_law_whole" ["_law_thing"] sp_num := by
  obtain ⟨fd, F⟩ := T.d_law_whole
  refine ⟨T.g_law_whole, F.kp, fd, F.bindsN (fun _ _ _ _ _ _ us hl => match us, hl with | [_], _ => rfl), F.ok sc_law_whole (fun vs H Q E h => ?_) (fun cdv A outer s H vs Q E hr h => ⟨_, PSs.nox (pss_one (ps_ret (pe_and (pe_callB call_isi (by rfl) T.m_isinstance (by decide +kernel) (pa_cons (pv 0) (pa_cons (pe_bltn (v := .ty "int") (by rfl) T.m_int (by decide +kernel) rfl) pa_nil))) (pe_one (pe_not (pe_callB call_isi (by rfl) T.m_isinstance (by decide +kernel) (pa_cons (pv 0) (pa_cons (pe_bltn (v := .ty "bool") (by rfl) T.m_bool (by decide +kernel) rfl) pa_nil)))))))), num_read h⟩)⟩
  obtain ⟨v, rfl, _⟩ := h
  rfl

/-! ## _law_size_by -/
abbrev n_law_size_by : List Str := ["_law_cell"]
theorem sc_law_size_by : FnScope n_law_size_by ["_law_cell"] (defScope s_law_size_by) := ⟨rfl, rfl, rfl, by decide +kernel, rfl, by decide +kernel, by decide +kernel⟩
theorem ok_law_size_by (T : Txt K mg) : Good P w K mg base CX0 1 "_law_size_by" ["_law_cell"] sp_law_size_by := by
  obtain ⟨fd, F⟩ := T.d_law_size_by
  refine ⟨T.g_law_size_by, F.kp, fd, F.bindsN (fun _ _ _ _ _ _ us hl => match us, hl with | [_], _ => rfl), F.ok sc_law_size_by (fun vs H Q E h => ?_) (fun cdv A outer s H vs Q E hr h => ⟨_, PSs.nox (pss_cons (ps_if (pt_cmpR op_eq (pe_op op_mod (pe_op op_fdiv (pv 0) pe_int) pe_int) pe_int (nomark _)) (pss_one (ps_ret (pe_op op_add pe_int (pe_op op_mod (pe_op op_fdiv (pv 0) pe_int) pe_int)))) pss_nil)
    (pss_one (ps_ret (pe_op op_add pe_int (pe_op op_mod (pv 0) pe_int))))), ?_⟩)⟩
  · obtain ⟨c, rfl, _⟩ := h
    rfl
  · obtain ⟨c, rfl, k⟩ := h
    refine ⟨_, rfl, _, _, rfl, rfl, ⟨by decide, by decide⟩, _, _, rfl, rfl, (by show (0 : Int) < 5; decide), rfl, _, rfl, ite2 (fun z => ?_) (fun z => ?_)⟩
    · exact ⟨_, rfl, _, _, rfl, rfl, ⟨by decide, by decide⟩, _, _, rfl, rfl, (by show (0 : Int) < 1000; decide), _, _, rfl, rfl, k _ (by omega) (by omega)⟩
    · exact ⟨_, rfl, _, _, rfl, rfl, (by show (0 : Int) < 12; decide), _, _, rfl, rfl, k _ (by omega) (by omega)⟩

/-! ## _law_fence_by -/
abbrev n_law_fence_by : List Str := ["_law_cell", "_law_size", "_law_far", "_law_a", "_law_b", "_law_more", "_law_c"]
theorem sc_law_fence_by : FnScope n_law_fence_by ["_law_cell", "_law_size"] (defScope s_law_fence_by) := ⟨rfl, rfl, rfl, by decide +kernel, rfl, by decide +kernel, by decide +kernel⟩
theorem ok_law_fence_by (T : Txt K mg) : Good P w K mg base CX0 1 "_law_fence_by" ["_law_cell", "_law_size"] sp_law_fence_by := by
  obtain ⟨fd, F⟩ := T.d_law_fence_by
  refine ⟨T.g_law_fence_by, F.kp, fd, F.bindsN (fun _ _ _ _ _ _ us hl => match us, hl with | [_, _], _ => rfl), F.ok sc_law_fence_by (fun vs H Q E h => ?_) (fun cdv A outer s H vs Q E hr h => ⟨_, PSs.nox (pss_cons (ps_set (i := 2) sc_law_fence_by.nd rfl (Or.inl rfl) (pe_op op_mod (pe_op op_mul (pv 0) pe_int) pe_int))
    (pss_cons (ps_set (i := 3) sc_law_fence_by.nd rfl (Or.inl rfl) (pe_op op_sub (pe_op op_mod (pv 2) pe_int) pe_int))
    (pss_cons (ps_set (i := 4) sc_law_fence_by.nd rfl (Or.inl rfl) (pe_op op_sub (pe_op op_mod (pe_op op_fdiv (pv 2) pe_int) pe_int) pe_int))
    (pss_cons (ps_if (PW.pt (pw_or (pt_cmpR op_eq (pe_op op_mod (pe_op op_fdiv (pv 2) pe_int) pe_int) pe_int (nomark _)) (pw_or1 (pt_cmpR op_eq (pe_op op_mod (pe_op op_fdiv (pv 2) pe_int) pe_int) pe_int (nomark _))))) (pss_cons (ps_set (i := 3) sc_law_fence_by.nd rfl (Or.inl rfl) (pe_op op_sub (pe_op op_mod (pe_op op_mod (pe_op op_mul (pv 0) pe_int) pe_int) pe_int) pe_int))
    (pss_one (ps_set (i := 4) sc_law_fence_by.nd rfl (Or.inl rfl) (pe_op op_sub (pe_op op_mod (pe_op op_mod (pe_op op_mul (pv 0) pe_int) pe_int) pe_int) pe_int)))) pss_nil)
    (pss_cons (ps_if (PW.pt (pw_and (pt_cmpR op_eq (pv 3) pe_int (nomark _)) (pw_and1 (pt_cmpR op_eq (pv 4) pe_int (nomark _))))) (pss_one (ps_set (i := 3) sc_law_fence_by.nd rfl (Or.inl rfl) pe_int)) pss_nil)
    (pss_cons (ps_set (i := 5) sc_law_fence_by.nd rfl (Or.inl rfl) (pe_op op_mod (pe_op op_mul (pv 0) pe_int) pe_int))
    (pss_cons (ps_set (i := 6) sc_law_fence_by.nd rfl (Or.inl rfl) (pe_op op_add (pe_op op_add (pe_op op_mulW (pv 3) (pe_op op_mod (pv 5) (pe_op op_add (pv 1) pe_int))) (pe_op op_mulW (pv 4) (pe_op op_mod (pe_op op_fdiv (pv 5) pe_int) (pe_op op_add (pv 1) pe_int)))) (pe_ix ix_list (pe_lst (pa_cons pe_int (pa_cons pe_int (pa_cons pe_int (pa_cons pe_int (pa_cons (pe_un un_neg pe_int) (pa_cons pe_int (pa_cons (pe_un un_neg pe_int) pa_nil)))))))) (pe_op op_mod (pe_op op_fdiv (pv 2) pe_int) pe_int) (fun _ _ => rfl))))
    (pss_cons (ps_if (PW.pt (pw_or (pt_cmpR op_eq (pe_op op_mod (pe_op op_fdiv (pv 2) pe_int) pe_int) pe_int (nomark _)) (pw_or1 (pt_cmpR op_eq (pe_op op_mod (pe_op op_fdiv (pv 2) pe_int) pe_int) pe_int (nomark _))))) (pss_one (ps_set (i := 6) sc_law_fence_by.nd rfl (Or.inl rfl) (pe_op op_sub (pe_op op_mod (pv 5) pe_int) pe_int))) pss_nil)
    (pss_one (ps_ret (pe_tup (pa_cons (pv 3) (pa_cons (pv 4) (pa_cons (pe_callB (call_max2 (by rfl)) (by rfl) T.m_max (by decide +kernel) (pa_cons (pe_un un_neg pe_int) (pa_cons (pe_callB (call_min2 (by rfl)) (by rfl) T.m_min (by decide +kernel) (pa_cons pe_int (pa_cons (pv 6) pa_nil))) pa_nil))) pa_nil)))))))))))))), ?_⟩)⟩
  · obtain ⟨c, s, rfl, _⟩ := h
    rfl
  · obtain ⟨c, n, rfl, n1, n2, q⟩ := h
    have big : ∀ {i j : Int}, -(2 ^ 64) < j ∧ j < 2 ^ 64 → CMul i j := fun h => .inr h
    refine ⟨_, rfl, c, 48271, rfl, rfl, big ⟨by decide, by decide⟩, _, _, rfl, rfl, (by show (0 : Int) < 2147483647; decide), ?_⟩
    obtain ⟨far, hfar⟩ : ∃ far, far = c * 48271 % 2147483647 := ⟨_, rfl⟩
    refine gName_as (.int far) (by rw [hfar]) ?_
    clear hfar
    refine ⟨_, rfl, _, _, rfl, rfl, (by show (0 : Int) < 7; decide), _, _, rfl, rfl, gName_go ?_⟩
    refine ⟨_, rfl, _, _, rfl, rfl, ⟨by decide, by decide⟩, _, _, rfl, rfl, (by show (0 : Int) < 7; decide), _, _, rfl, rfl, gName_go ?_⟩
    have a0 : (far % 7 - 3).natAbs ≤ 1000 := by omega
    have b0 : (far / 7 % 7 - 3).natAbs ≤ 1000 := by omega
    refine if_cut (fun σ H' => H = H' ∧ ∃ a b : Int, σ = [some (.int c), some (.int n), some (.int far), some (.int a), some (.int b), none, none] ∧ a.natAbs ≤ 1000 ∧ b.natAbs ≤ 1000) ?_ ?_
    · rintro σ H' ⟨rfl, a, b, rfl, ha, hb⟩
      refine if_cut (fun σ H' => H = H' ∧ ∃ a b : Int, σ = [some (.int c), some (.int n), some (.int far), some (.int a), some (.int b), none, none] ∧ a.natAbs ≤ 1000 ∧ b.natAbs ≤ 1000 ∧ ¬ (a = 0 ∧ b = 0)) ?_ ?_
      · rintro σ H' ⟨rfl, a, b, rfl, ha, hb, hab⟩
        refine ⟨_, rfl, c, 16807, rfl, rfl, big ⟨by decide, by decide⟩, _, _, rfl, rfl, (by show (0 : Int) < 2147483587; decide), ?_⟩
        obtain ⟨more, hmore⟩ : ∃ more, more = c * 16807 % 2147483587 := ⟨_, rfl⟩
        refine gName_as (.int more) (by rw [hmore]) ?_
        clear hmore
        have p1 : 0 < n + 1 := by omega
        have m1 : Sz 20 (more % (n + 1)) := .of (b := 1000) (by have := Int.emod_nonneg more (show n + 1 ≠ 0 by omega); have := Int.emod_lt_of_pos more p1; omega) (by decide)
        have m2 : Sz 20 (more / 1009 % (n + 1)) := .of (b := 1000) (by have := Int.emod_nonneg (more / 1009) (show n + 1 ≠ 0 by omega); have := Int.emod_lt_of_pos (more / 1009) p1; omega) (by decide)
        have sa : Sz 20 a := .of ha (by decide)
        have sb : Sz 20 b := .of hb (by decide)
        refine ⟨_, rfl, _, rfl, _, rfl, _, _, rfl, rfl, _, _, rfl, rfl, p1, _, _, rfl, rfl, sa.ok m1 (by decide) (by decide) (by decide), ?_⟩
        refine ⟨_, rfl, _, rfl, _, _, rfl, rfl, ⟨by decide, by decide⟩, _, rfl, _, _, rfl, rfl, _, _, rfl, rfl, p1, _, _, rfl, rfl, sb.ok m2 (by decide) (by decide) (by decide), _, _, rfl, rfl, ?_⟩
        obtain ⟨v, hv, mem⟩ := menu_mem (xs := [V.int 0, .int 0, .int 0, .int 1, .int (-1), .int 2, .int (-3)]) (n := far / 294) (m := 7) (by decide) rfl
        obtain ⟨i, rfl⟩ : ∃ i, v = .int i := by
          simp only [List.mem_cons, List.not_mem_nil, or_false] at mem
          rcases mem with e | e | e | e | e | e | e <;> exact ⟨_, e⟩
        refine ⟨1, rfl, 3, rfl, by show 7 ≤ sizeLine; decide, fun l hl => ?_⟩
        refine ⟨_, rfl, _, _, rfl, rfl, ⟨by decide, by decide⟩, _, _, rfl, rfl, (by show (0 : Int) < 7; decide), l, _, _, _, rfl, rfl, SqL.of upd_same, hv, _, _, rfl, rfl, gName_go ?_⟩
        have s1 : Same H (upd H l (.lst [V.int 0, .int 0, .int 0, .int 1, .int (-1), .int 2, .int (-3)])) := same_upd hl
        refine if_cut (fun σ H' => upd H l (.lst [V.int 0, .int 0, .int 0, .int 1, .int (-1), .int 2, .int (-3)]) = H' ∧ ∃ z : Int, σ = [some (.int c), some (.int n), some (.int far), some (.int a), some (.int b), some (.int more), some (.int z)]) ?_ ?_
        · rintro σ H' ⟨rfl, z, rfl⟩
          refine ⟨_, rfl, _, rfl, 1000000, rfl, _, rfl, _, _, rfl, _, _, rfl, by show 3 ≤ sizeLine; decide, fun p hp => ?_⟩
          refine q _ p a b _ (s1.trans (same_upd hp)) (s1.free hp) upd_same ⟨ha, hb, hab, ?_⟩
          split <;> split <;> omega
        · intro go
          have put : ∀ z : Int, (∃ z' : Int, [some (V.int c), some (.int n), some (.int far), some (.int a), some (.int b), some (.int more), some (.int z)] = [some (.int c), some (.int n), some (.int far), some (.int a), some (.int b), some (.int more), some (.int z')]) := fun z => ⟨z, rfl⟩
          refine ⟨_, rfl, _, _, rfl, rfl, ⟨by decide, by decide⟩, _, _, rfl, rfl, (by show (0 : Int) < 6; decide), rfl, _, rfl, ite2 (fun _ => ?_) (fun _ => ?_)⟩
          · exact iteT ⟨_, rfl, _, _, rfl, rfl, (by show (0 : Int) < 2000001; decide), _, _, rfl, rfl, go _ _ ⟨rfl, put _⟩⟩
          · refine ⟨_, rfl, _, _, rfl, rfl, ⟨by decide, by decide⟩, _, _, rfl, rfl, (by show (0 : Int) < 6; decide), rfl, _, rfl, ite2 (fun _ => ?_) (fun _ => ?_)⟩
            · exact ⟨_, rfl, _, _, rfl, rfl, (by show (0 : Int) < 2000001; decide), _, _, rfl, rfl, go _ _ ⟨rfl, put _⟩⟩
            · exact go _ _ ⟨rfl, put _⟩
      · intro go
        refine ⟨_, rfl, rfl, _, rfl, ?_⟩
        cases d0 : decide (V.int a = V.int 0) with
        | false => exact iteF (iteF (go _ _ ⟨rfl, a, b, rfl, ha, hb, fun x => of_decide_eq_false d0 (congrArg V.int x.1)⟩))
        | true =>
          refine iteT ⟨_, rfl, rfl, _, rfl, ?_⟩
          cases d1 : decide (V.int b = V.int 0) with
          | false => exact iteF (go _ _ ⟨rfl, a, b, rfl, ha, hb, fun x => of_decide_eq_false d1 (congrArg V.int x.2)⟩)
          | true => exact iteT (go _ _ ⟨rfl, 1, b, rfl, by decide, hb, fun x => absurd x.1 (by decide)⟩)
    · intro go
      have far1 : ((c * 69621 % 2147483629 % 2001 - 1000).natAbs ≤ 1000) := by omega
      have far2 : ((c * 40692 % 2147483399 % 2001 - 1000).natAbs ≤ 1000) := by omega
      refine ⟨_, rfl, _, _, rfl, rfl, ⟨by decide, by decide⟩, _, _, rfl, rfl, (by show (0 : Int) < 6; decide), rfl, _, rfl, ite2 (fun _ => ?_) (fun _ => ?_)⟩
      · refine iteT ?_
        refine ⟨_, rfl, c, 69621, rfl, rfl, big ⟨by decide, by decide⟩, _, _, rfl, rfl, (by show (0 : Int) < 2147483629; decide), _, _, rfl, rfl, (by show (0 : Int) < 2001; decide), _, _, rfl, rfl, ?_⟩
        exact ⟨_, rfl, c, 40692, rfl, rfl, big ⟨by decide, by decide⟩, _, _, rfl, rfl, (by show (0 : Int) < 2147483399; decide), _, _, rfl, rfl, (by show (0 : Int) < 2001; decide), _, _, rfl, rfl, go _ _ ⟨rfl, _, _, rfl, far1, far2⟩⟩
      · refine ⟨_, rfl, _, _, rfl, rfl, ⟨by decide, by decide⟩, _, _, rfl, rfl, (by show (0 : Int) < 6; decide), rfl, _, rfl, ite2 (fun _ => ?_) (fun _ => ?_)⟩
        · refine ⟨_, rfl, c, 69621, rfl, rfl, big ⟨by decide, by decide⟩, _, _, rfl, rfl, (by show (0 : Int) < 2147483629; decide), _, _, rfl, rfl, (by show (0 : Int) < 2001; decide), _, _, rfl, rfl, ?_⟩
          exact ⟨_, rfl, c, 40692, rfl, rfl, big ⟨by decide, by decide⟩, _, _, rfl, rfl, (by show (0 : Int) < 2147483399; decide), _, _, rfl, rfl, (by show (0 : Int) < 2001; decide), _, _, rfl, rfl, go _ _ ⟨rfl, _, _, rfl, far1, far2⟩⟩
        · exact go _ _ ⟨rfl, _, _, rfl, a0, b0⟩

/-! ## _law_names -/
abbrev n_law_names : List Str := ["_law_e", "_law_found"]
theorem sc_law_names : FnScope n_law_names ["_law_e"] (defScope s_law_names) := ⟨rfl, rfl, rfl, by decide +kernel, rfl, by decide +kernel, by decide +kernel⟩
theorem ok_law_names_BadFence (T : Txt K mg) : Tells P w K mg base "_law_names" (He.ga K "BadFence") "fence " := by
  obtain ⟨fd, F⟩ := T.d_law_names
  have b := F.bindsN (ps := ["_law_e"]) (fun _ _ _ _ _ _ us hl => match us, hl with | [_], _ => rfl)
  obtain ⟨oc, od, dV, kV, doc, pm, an, cdv, ct, osl, rfl, lk, hcd, _, _⟩ := F.ex
  refine ⟨_, "_law_e", b, fun A outer s H args p Q E room pin hz hf e0 hb q => ?_⟩
  have k := T.kit_BadFence
  have CI : ∀ {X : Cx}, X.K = K → p ∈ X.pn → CallR X (.builtin "isinstance") (rIsE X.K (He.ga K "BadFence") p.1) := by
    rintro X rfl hp
    exact call_isP k.c hp hz hf
  refine tells_run (N := n_law_names) (vs := [.ref p.1]) (us := [.ref p.1]) lk hcd sc_law_names rfl room pin e0 hb (.cons rfl .nil)
    (pss_cons (ps_set (i := 1) sc_law_names.nd rfl (Or.inl rfl) pe_str)
    (pss_cons (ps_if (pt_val (pe_callB (CI rfl List.mem_cons_self) (by rfl) T.m_isinstance (by decide +kernel) (pa_cons (pv 0) (pa_cons (pe_glob (v := .ref (He.ga K "BadSize")) rfl T.BadSize.g rfl) pa_nil)))) (pss_one (ps_set (i := 1) sc_law_names.nd rfl (Or.inl rfl) (pe_op op_add_str (pv 1) pe_str))) pss_nil)
    (pss_cons (ps_if (pt_val (pe_callB (CI rfl List.mem_cons_self) (by rfl) T.m_isinstance (by decide +kernel) (pa_cons (pv 0) (pa_cons (pe_glob (v := .ref (He.ga K "BadFence")) rfl T.BadFence.g rfl) pa_nil)))) (pss_one (ps_set (i := 1) sc_law_names.nd rfl (Or.inl rfl) (pe_op op_add_str (pv 1) pe_str))) pss_nil)
    (pss_cons (ps_if (pt_val (pe_callB (CI rfl List.mem_cons_self) (by rfl) T.m_isinstance (by decide +kernel) (pa_cons (pv 0) (pa_cons (pe_glob (v := .ref (He.ga K "TooMany")) rfl T.TooMany.g rfl) pa_nil)))) (pss_one (ps_set (i := 1) sc_law_names.nd rfl (Or.inl rfl) (pe_op op_add_str (pv 1) pe_str))) pss_nil)
    (pss_cons (ps_if (pt_val (pe_callB (CI rfl List.mem_cons_self) (by rfl) T.m_isinstance (by decide +kernel) (pa_cons (pv 0) (pa_cons (pe_glob (v := .ref (He.ga K "BadSpot")) rfl T.BadSpot.g rfl) pa_nil)))) (pss_one (ps_set (i := 1) sc_law_names.nd rfl (Or.inl rfl) (pe_op op_add_str (pv 1) pe_str))) pss_nil)
    (pss_cons (ps_if (pt_val (pe_callB (CI rfl List.mem_cons_self) (by rfl) T.m_isinstance (by decide +kernel) (pa_cons (pv 0) (pa_cons (pe_glob (v := .ref (He.ga K "BadWay")) rfl T.BadWay.g rfl) pa_nil)))) (pss_one (ps_set (i := 1) sc_law_names.nd rfl (Or.inl rfl) (pe_op op_add_str (pv 1) pe_str))) pss_nil)
    (pss_cons (ps_if (pt_val (pe_callB (CI rfl List.mem_cons_self) (by rfl) T.m_isinstance (by decide +kernel) (pa_cons (pv 0) (pa_cons (pe_glob (v := .ref (He.ga K "NoLand")) rfl T.NoLand.g rfl) pa_nil)))) (pss_one (ps_set (i := 1) sc_law_names.nd rfl (Or.inl rfl) (pe_op op_add_str (pv 1) pe_str))) pss_nil)
    (pss_cons (ps_if (pt_val (pe_callB (CI rfl List.mem_cons_self) (by rfl) T.m_isinstance (by decide +kernel) (pa_cons (pv 0) (pa_cons (pe_glob (v := .ref (He.ga K "NoFence")) rfl T.NoFence.g rfl) pa_nil)))) (pss_one (ps_set (i := 1) sc_law_names.nd rfl (Or.inl rfl) (pe_op op_add_str (pv 1) pe_str))) pss_nil)
    (pss_cons (ps_if (pt_not (pt_val (pe_callB (CI rfl List.mem_cons_self) (by rfl) T.m_isinstance (by decide +kernel) (pa_cons (pv 0) (pa_cons (pe_bltn (v := .ty "ValueError") (by rfl) T.m_ValueError (by decide +kernel) rfl) pa_nil))))) (pss_one (ps_set (i := 1) sc_law_names.nd rfl (Or.inl rfl) pe_str)) pss_nil)
    (pss_one (ps_ret (pv 1)))))))))))) ?_
  refine ⟨_, rfl, _, _, _, rfl, fun u r => r, k.y ("BadSize", false) (by simp), _, rfl, iteF ?_⟩
  refine ⟨_, rfl, _, _, _, rfl, fun u r => r, k.y ("BadFence", true) (by simp), _, rfl, iteT ?_⟩
  refine ⟨_, rfl, _, _, rfl, rfl, (by decide +kernel), ?_⟩
  refine ⟨_, rfl, _, _, _, rfl, fun u r => r, k.y ("TooMany", false) (by simp), _, rfl, iteF ?_⟩
  refine ⟨_, rfl, _, _, _, rfl, fun u r => r, k.y ("BadSpot", false) (by simp), _, rfl, iteF ?_⟩
  refine ⟨_, rfl, _, _, _, rfl, fun u r => r, k.y ("BadWay", false) (by simp), _, rfl, iteF ?_⟩
  refine ⟨_, rfl, _, _, _, rfl, fun u r => r, k.y ("NoLand", false) (by simp), _, rfl, iteF ?_⟩
  refine ⟨_, rfl, _, _, _, rfl, fun u r => r, k.y ("NoFence", false) (by simp), _, rfl, iteF ?_⟩
  refine ⟨_, rfl, _, _, _, rfl, fun u r => r, k.v, _, rfl, iteF ?_⟩
  refine ⟨_, rfl, ?_⟩
  have fin : ∀ z : Str, z = "fence " → Q (.str z) H := by
    rintro z rfl
    exact q
  exact fin _ (by decide +kernel)
theorem ok_law_names_BadSize (T : Txt K mg) : Tells P w K mg base "_law_names" (He.ga K "BadSize") "size " := by
  obtain ⟨fd, F⟩ := T.d_law_names
  have b := F.bindsN (ps := ["_law_e"]) (fun _ _ _ _ _ _ us hl => match us, hl with | [_], _ => rfl)
  obtain ⟨oc, od, dV, kV, doc, pm, an, cdv, ct, osl, rfl, lk, hcd, _, _⟩ := F.ex
  refine ⟨_, "_law_e", b, fun A outer s H args p Q E room pin hz hf e0 hb q => ?_⟩
  have k := T.kit_BadSize
  have CI : ∀ {X : Cx}, X.K = K → p ∈ X.pn → CallR X (.builtin "isinstance") (rIsE X.K (He.ga K "BadSize") p.1) := by
    rintro X rfl hp
    exact call_isP k.c hp hz hf
  refine tells_run (N := n_law_names) (vs := [.ref p.1]) (us := [.ref p.1]) lk hcd sc_law_names rfl room pin e0 hb (.cons rfl .nil)
    (pss_cons (ps_set (i := 1) sc_law_names.nd rfl (Or.inl rfl) pe_str)
    (pss_cons (ps_if (pt_val (pe_callB (CI rfl List.mem_cons_self) (by rfl) T.m_isinstance (by decide +kernel) (pa_cons (pv 0) (pa_cons (pe_glob (v := .ref (He.ga K "BadSize")) rfl T.BadSize.g rfl) pa_nil)))) (pss_one (ps_set (i := 1) sc_law_names.nd rfl (Or.inl rfl) (pe_op op_add_str (pv 1) pe_str))) pss_nil)
    (pss_cons (ps_if (pt_val (pe_callB (CI rfl List.mem_cons_self) (by rfl) T.m_isinstance (by decide +kernel) (pa_cons (pv 0) (pa_cons (pe_glob (v := .ref (He.ga K "BadFence")) rfl T.BadFence.g rfl) pa_nil)))) (pss_one (ps_set (i := 1) sc_law_names.nd rfl (Or.inl rfl) (pe_op op_add_str (pv 1) pe_str))) pss_nil)
    (pss_cons (ps_if (pt_val (pe_callB (CI rfl List.mem_cons_self) (by rfl) T.m_isinstance (by decide +kernel) (pa_cons (pv 0) (pa_cons (pe_glob (v := .ref (He.ga K "TooMany")) rfl T.TooMany.g rfl) pa_nil)))) (pss_one (ps_set (i := 1) sc_law_names.nd rfl (Or.inl rfl) (pe_op op_add_str (pv 1) pe_str))) pss_nil)
    (pss_cons (ps_if (pt_val (pe_callB (CI rfl List.mem_cons_self) (by rfl) T.m_isinstance (by decide +kernel) (pa_cons (pv 0) (pa_cons (pe_glob (v := .ref (He.ga K "BadSpot")) rfl T.BadSpot.g rfl) pa_nil)))) (pss_one (ps_set (i := 1) sc_law_names.nd rfl (Or.inl rfl) (pe_op op_add_str (pv 1) pe_str))) pss_nil)
    (pss_cons (ps_if (pt_val (pe_callB (CI rfl List.mem_cons_self) (by rfl) T.m_isinstance (by decide +kernel) (pa_cons (pv 0) (pa_cons (pe_glob (v := .ref (He.ga K "BadWay")) rfl T.BadWay.g rfl) pa_nil)))) (pss_one (ps_set (i := 1) sc_law_names.nd rfl (Or.inl rfl) (pe_op op_add_str (pv 1) pe_str))) pss_nil)
    (pss_cons (ps_if (pt_val (pe_callB (CI rfl List.mem_cons_self) (by rfl) T.m_isinstance (by decide +kernel) (pa_cons (pv 0) (pa_cons (pe_glob (v := .ref (He.ga K "NoLand")) rfl T.NoLand.g rfl) pa_nil)))) (pss_one (ps_set (i := 1) sc_law_names.nd rfl (Or.inl rfl) (pe_op op_add_str (pv 1) pe_str))) pss_nil)
    (pss_cons (ps_if (pt_val (pe_callB (CI rfl List.mem_cons_self) (by rfl) T.m_isinstance (by decide +kernel) (pa_cons (pv 0) (pa_cons (pe_glob (v := .ref (He.ga K "NoFence")) rfl T.NoFence.g rfl) pa_nil)))) (pss_one (ps_set (i := 1) sc_law_names.nd rfl (Or.inl rfl) (pe_op op_add_str (pv 1) pe_str))) pss_nil)
    (pss_cons (ps_if (pt_not (pt_val (pe_callB (CI rfl List.mem_cons_self) (by rfl) T.m_isinstance (by decide +kernel) (pa_cons (pv 0) (pa_cons (pe_bltn (v := .ty "ValueError") (by rfl) T.m_ValueError (by decide +kernel) rfl) pa_nil))))) (pss_one (ps_set (i := 1) sc_law_names.nd rfl (Or.inl rfl) pe_str)) pss_nil)
    (pss_one (ps_ret (pv 1)))))))))))) ?_
  refine ⟨_, rfl, _, _, _, rfl, fun u r => r, k.y ("BadSize", true) (by simp), _, rfl, iteT ?_⟩
  refine ⟨_, rfl, _, _, rfl, rfl, (by decide +kernel), ?_⟩
  refine ⟨_, rfl, _, _, _, rfl, fun u r => r, k.y ("BadFence", false) (by simp), _, rfl, iteF ?_⟩
  refine ⟨_, rfl, _, _, _, rfl, fun u r => r, k.y ("TooMany", false) (by simp), _, rfl, iteF ?_⟩
  refine ⟨_, rfl, _, _, _, rfl, fun u r => r, k.y ("BadSpot", false) (by simp), _, rfl, iteF ?_⟩
  refine ⟨_, rfl, _, _, _, rfl, fun u r => r, k.y ("BadWay", false) (by simp), _, rfl, iteF ?_⟩
  refine ⟨_, rfl, _, _, _, rfl, fun u r => r, k.y ("NoLand", false) (by simp), _, rfl, iteF ?_⟩
  refine ⟨_, rfl, _, _, _, rfl, fun u r => r, k.y ("NoFence", false) (by simp), _, rfl, iteF ?_⟩
  refine ⟨_, rfl, _, _, _, rfl, fun u r => r, k.v, _, rfl, iteF ?_⟩
  refine ⟨_, rfl, ?_⟩
  have fin : ∀ z : Str, z = "size " → Q (.str z) H := by
    rintro z rfl
    exact q
  exact fin _ (by decide +kernel)
theorem ok_law_names_BadSpot (T : Txt K mg) : Tells P w K mg base "_law_names" (He.ga K "BadSpot") "spot " := by
  obtain ⟨fd, F⟩ := T.d_law_names
  have b := F.bindsN (ps := ["_law_e"]) (fun _ _ _ _ _ _ us hl => match us, hl with | [_], _ => rfl)
  obtain ⟨oc, od, dV, kV, doc, pm, an, cdv, ct, osl, rfl, lk, hcd, _, _⟩ := F.ex
  refine ⟨_, "_law_e", b, fun A outer s H args p Q E room pin hz hf e0 hb q => ?_⟩
  have k := T.kit_BadSpot
  have CI : ∀ {X : Cx}, X.K = K → p ∈ X.pn → CallR X (.builtin "isinstance") (rIsE X.K (He.ga K "BadSpot") p.1) := by
    rintro X rfl hp
    exact call_isP k.c hp hz hf
  refine tells_run (N := n_law_names) (vs := [.ref p.1]) (us := [.ref p.1]) lk hcd sc_law_names rfl room pin e0 hb (.cons rfl .nil)
    (pss_cons (ps_set (i := 1) sc_law_names.nd rfl (Or.inl rfl) pe_str)
    (pss_cons (ps_if (pt_val (pe_callB (CI rfl List.mem_cons_self) (by rfl) T.m_isinstance (by decide +kernel) (pa_cons (pv 0) (pa_cons (pe_glob (v := .ref (He.ga K "BadSize")) rfl T.BadSize.g rfl) pa_nil)))) (pss_one (ps_set (i := 1) sc_law_names.nd rfl (Or.inl rfl) (pe_op op_add_str (pv 1) pe_str))) pss_nil)
    (pss_cons (ps_if (pt_val (pe_callB (CI rfl List.mem_cons_self) (by rfl) T.m_isinstance (by decide +kernel) (pa_cons (pv 0) (pa_cons (pe_glob (v := .ref (He.ga K "BadFence")) rfl T.BadFence.g rfl) pa_nil)))) (pss_one (ps_set (i := 1) sc_law_names.nd rfl (Or.inl rfl) (pe_op op_add_str (pv 1) pe_str))) pss_nil)
    (pss_cons (ps_if (pt_val (pe_callB (CI rfl List.mem_cons_self) (by rfl) T.m_isinstance (by decide +kernel) (pa_cons (pv 0) (pa_cons (pe_glob (v := .ref (He.ga K "TooMany")) rfl T.TooMany.g rfl) pa_nil)))) (pss_one (ps_set (i := 1) sc_law_names.nd rfl (Or.inl rfl) (pe_op op_add_str (pv 1) pe_str))) pss_nil)
    (pss_cons (ps_if (pt_val (pe_callB (CI rfl List.mem_cons_self) (by rfl) T.m_isinstance (by decide +kernel) (pa_cons (pv 0) (pa_cons (pe_glob (v := .ref (He.ga K "BadSpot")) rfl T.BadSpot.g rfl) pa_nil)))) (pss_one (ps_set (i := 1) sc_law_names.nd rfl (Or.inl rfl) (pe_op op_add_str (pv 1) pe_str))) pss_nil)
    (pss_cons (ps_if (pt_val (pe_callB (CI rfl List.mem_cons_self) (by rfl) T.m_isinstance (by decide +kernel) (pa_cons (pv 0) (pa_cons (pe_glob (v := .ref (He.ga K "BadWay")) rfl T.BadWay.g rfl) pa_nil)))) (pss_one (ps_set (i := 1) sc_law_names.nd rfl (Or.inl rfl) (pe_op op_add_str (pv 1) pe_str))) pss_nil)
    (pss_cons (ps_if (pt_val (pe_callB (CI rfl List.mem_cons_self) (by rfl) T.m_isinstance (by decide +kernel) (pa_cons (pv 0) (pa_cons (pe_glob (v := .ref (He.ga K "NoLand")) rfl T.NoLand.g rfl) pa_nil)))) (pss_one (ps_set (i := 1) sc_law_names.nd rfl (Or.inl rfl) (pe_op op_add_str (pv 1) pe_str))) pss_nil)
    (pss_cons (ps_if (pt_val (pe_callB (CI rfl List.mem_cons_self) (by rfl) T.m_isinstance (by decide +kernel) (pa_cons (pv 0) (pa_cons (pe_glob (v := .ref (He.ga K "NoFence")) rfl T.NoFence.g rfl) pa_nil)))) (pss_one (ps_set (i := 1) sc_law_names.nd rfl (Or.inl rfl) (pe_op op_add_str (pv 1) pe_str))) pss_nil)
    (pss_cons (ps_if (pt_not (pt_val (pe_callB (CI rfl List.mem_cons_self) (by rfl) T.m_isinstance (by decide +kernel) (pa_cons (pv 0) (pa_cons (pe_bltn (v := .ty "ValueError") (by rfl) T.m_ValueError (by decide +kernel) rfl) pa_nil))))) (pss_one (ps_set (i := 1) sc_law_names.nd rfl (Or.inl rfl) pe_str)) pss_nil)
    (pss_one (ps_ret (pv 1)))))))))))) ?_
  refine ⟨_, rfl, _, _, _, rfl, fun u r => r, k.y ("BadSize", false) (by simp), _, rfl, iteF ?_⟩
  refine ⟨_, rfl, _, _, _, rfl, fun u r => r, k.y ("BadFence", false) (by simp), _, rfl, iteF ?_⟩
  refine ⟨_, rfl, _, _, _, rfl, fun u r => r, k.y ("TooMany", false) (by simp), _, rfl, iteF ?_⟩
  refine ⟨_, rfl, _, _, _, rfl, fun u r => r, k.y ("BadSpot", true) (by simp), _, rfl, iteT ?_⟩
  refine ⟨_, rfl, _, _, rfl, rfl, (by decide +kernel), ?_⟩
  refine ⟨_, rfl, _, _, _, rfl, fun u r => r, k.y ("BadWay", false) (by simp), _, rfl, iteF ?_⟩
  refine ⟨_, rfl, _, _, _, rfl, fun u r => r, k.y ("NoLand", false) (by simp), _, rfl, iteF ?_⟩
  refine ⟨_, rfl, _, _, _, rfl, fun u r => r, k.y ("NoFence", false) (by simp), _, rfl, iteF ?_⟩
  refine ⟨_, rfl, _, _, _, rfl, fun u r => r, k.v, _, rfl, iteF ?_⟩
  refine ⟨_, rfl, ?_⟩
  have fin : ∀ z : Str, z = "spot " → Q (.str z) H := by
    rintro z rfl
    exact q
  exact fin _ (by decide +kernel)
theorem ok_law_names_NoFence (T : Txt K mg) : Tells P w K mg base "_law_names" (He.ga K "NoFence") "none " := by
  obtain ⟨fd, F⟩ := T.d_law_names
  have b := F.bindsN (ps := ["_law_e"]) (fun _ _ _ _ _ _ us hl => match us, hl with | [_], _ => rfl)
  obtain ⟨oc, od, dV, kV, doc, pm, an, cdv, ct, osl, rfl, lk, hcd, _, _⟩ := F.ex
  refine ⟨_, "_law_e", b, fun A outer s H args p Q E room pin hz hf e0 hb q => ?_⟩
  have k := T.kit_NoFence
  have CI : ∀ {X : Cx}, X.K = K → p ∈ X.pn → CallR X (.builtin "isinstance") (rIsE X.K (He.ga K "NoFence") p.1) := by
    rintro X rfl hp
    exact call_isP k.c hp hz hf
  refine tells_run (N := n_law_names) (vs := [.ref p.1]) (us := [.ref p.1]) lk hcd sc_law_names rfl room pin e0 hb (.cons rfl .nil)
    (pss_cons (ps_set (i := 1) sc_law_names.nd rfl (Or.inl rfl) pe_str)
    (pss_cons (ps_if (pt_val (pe_callB (CI rfl List.mem_cons_self) (by rfl) T.m_isinstance (by decide +kernel) (pa_cons (pv 0) (pa_cons (pe_glob (v := .ref (He.ga K "BadSize")) rfl T.BadSize.g rfl) pa_nil)))) (pss_one (ps_set (i := 1) sc_law_names.nd rfl (Or.inl rfl) (pe_op op_add_str (pv 1) pe_str))) pss_nil)
    (pss_cons (ps_if (pt_val (pe_callB (CI rfl List.mem_cons_self) (by rfl) T.m_isinstance (by decide +kernel) (pa_cons (pv 0) (pa_cons (pe_glob (v := .ref (He.ga K "BadFence")) rfl T.BadFence.g rfl) pa_nil)))) (pss_one (ps_set (i := 1) sc_law_names.nd rfl (Or.inl rfl) (pe_op op_add_str (pv 1) pe_str))) pss_nil)
    (pss_cons (ps_if (pt_val (pe_callB (CI rfl List.mem_cons_self) (by rfl) T.m_isinstance (by decide +kernel) (pa_cons (pv 0) (pa_cons (pe_glob (v := .ref (He.ga K "TooMany")) rfl T.TooMany.g rfl) pa_nil)))) (pss_one (ps_set (i := 1) sc_law_names.nd rfl (Or.inl rfl) (pe_op op_add_str (pv 1) pe_str))) pss_nil)
    (pss_cons (ps_if (pt_val (pe_callB (CI rfl List.mem_cons_self) (by rfl) T.m_isinstance (by decide +kernel) (pa_cons (pv 0) (pa_cons (pe_glob (v := .ref (He.ga K "BadSpot")) rfl T.BadSpot.g rfl) pa_nil)))) (pss_one (ps_set (i := 1) sc_law_names.nd rfl (Or.inl rfl) (pe_op op_add_str (pv 1) pe_str))) pss_nil)
    (pss_cons (ps_if (pt_val (pe_callB (CI rfl List.mem_cons_self) (by rfl) T.m_isinstance (by decide +kernel) (pa_cons (pv 0) (pa_cons (pe_glob (v := .ref (He.ga K "BadWay")) rfl T.BadWay.g rfl) pa_nil)))) (pss_one (ps_set (i := 1) sc_law_names.nd rfl (Or.inl rfl) (pe_op op_add_str (pv 1) pe_str))) pss_nil)
    (pss_cons (ps_if (pt_val (pe_callB (CI rfl List.mem_cons_self) (by rfl) T.m_isinstance (by decide +kernel) (pa_cons (pv 0) (pa_cons (pe_glob (v := .ref (He.ga K "NoLand")) rfl T.NoLand.g rfl) pa_nil)))) (pss_one (ps_set (i := 1) sc_law_names.nd rfl (Or.inl rfl) (pe_op op_add_str (pv 1) pe_str))) pss_nil)
    (pss_cons (ps_if (pt_val (pe_callB (CI rfl List.mem_cons_self) (by rfl) T.m_isinstance (by decide +kernel) (pa_cons (pv 0) (pa_cons (pe_glob (v := .ref (He.ga K "NoFence")) rfl T.NoFence.g rfl) pa_nil)))) (pss_one (ps_set (i := 1) sc_law_names.nd rfl (Or.inl rfl) (pe_op op_add_str (pv 1) pe_str))) pss_nil)
    (pss_cons (ps_if (pt_not (pt_val (pe_callB (CI rfl List.mem_cons_self) (by rfl) T.m_isinstance (by decide +kernel) (pa_cons (pv 0) (pa_cons (pe_bltn (v := .ty "ValueError") (by rfl) T.m_ValueError (by decide +kernel) rfl) pa_nil))))) (pss_one (ps_set (i := 1) sc_law_names.nd rfl (Or.inl rfl) pe_str)) pss_nil)
    (pss_one (ps_ret (pv 1)))))))))))) ?_
  refine ⟨_, rfl, _, _, _, rfl, fun u r => r, k.y ("BadSize", false) (by simp), _, rfl, iteF ?_⟩
  refine ⟨_, rfl, _, _, _, rfl, fun u r => r, k.y ("BadFence", false) (by simp), _, rfl, iteF ?_⟩
  refine ⟨_, rfl, _, _, _, rfl, fun u r => r, k.y ("TooMany", false) (by simp), _, rfl, iteF ?_⟩
  refine ⟨_, rfl, _, _, _, rfl, fun u r => r, k.y ("BadSpot", false) (by simp), _, rfl, iteF ?_⟩
  refine ⟨_, rfl, _, _, _, rfl, fun u r => r, k.y ("BadWay", false) (by simp), _, rfl, iteF ?_⟩
  refine ⟨_, rfl, _, _, _, rfl, fun u r => r, k.y ("NoLand", false) (by simp), _, rfl, iteF ?_⟩
  refine ⟨_, rfl, _, _, _, rfl, fun u r => r, k.y ("NoFence", true) (by simp), _, rfl, iteT ?_⟩
  refine ⟨_, rfl, _, _, rfl, rfl, (by decide +kernel), ?_⟩
  refine ⟨_, rfl, _, _, _, rfl, fun u r => r, k.v, _, rfl, iteF ?_⟩
  refine ⟨_, rfl, ?_⟩
  have fin : ∀ z : Str, z = "none " → Q (.str z) H := by
    rintro z rfl
    exact q
  exact fin _ (by decide +kernel)
theorem ok_law_names_TooMany (T : Txt K mg) : Tells P w K mg base "_law_names" (He.ga K "TooMany") "many " := by
  obtain ⟨fd, F⟩ := T.d_law_names
  have b := F.bindsN (ps := ["_law_e"]) (fun _ _ _ _ _ _ us hl => match us, hl with | [_], _ => rfl)
  obtain ⟨oc, od, dV, kV, doc, pm, an, cdv, ct, osl, rfl, lk, hcd, _, _⟩ := F.ex
  refine ⟨_, "_law_e", b, fun A outer s H args p Q E room pin hz hf e0 hb q => ?_⟩
  have k := T.kit_TooMany
  have CI : ∀ {X : Cx}, X.K = K → p ∈ X.pn → CallR X (.builtin "isinstance") (rIsE X.K (He.ga K "TooMany") p.1) := by
    rintro X rfl hp
    exact call_isP k.c hp hz hf
  refine tells_run (N := n_law_names) (vs := [.ref p.1]) (us := [.ref p.1]) lk hcd sc_law_names rfl room pin e0 hb (.cons rfl .nil)
    (pss_cons (ps_set (i := 1) sc_law_names.nd rfl (Or.inl rfl) pe_str)
    (pss_cons (ps_if (pt_val (pe_callB (CI rfl List.mem_cons_self) (by rfl) T.m_isinstance (by decide +kernel) (pa_cons (pv 0) (pa_cons (pe_glob (v := .ref (He.ga K "BadSize")) rfl T.BadSize.g rfl) pa_nil)))) (pss_one (ps_set (i := 1) sc_law_names.nd rfl (Or.inl rfl) (pe_op op_add_str (pv 1) pe_str))) pss_nil)
    (pss_cons (ps_if (pt_val (pe_callB (CI rfl List.mem_cons_self) (by rfl) T.m_isinstance (by decide +kernel) (pa_cons (pv 0) (pa_cons (pe_glob (v := .ref (He.ga K "BadFence")) rfl T.BadFence.g rfl) pa_nil)))) (pss_one (ps_set (i := 1) sc_law_names.nd rfl (Or.inl rfl) (pe_op op_add_str (pv 1) pe_str))) pss_nil)
    (pss_cons (ps_if (pt_val (pe_callB (CI rfl List.mem_cons_self) (by rfl) T.m_isinstance (by decide +kernel) (pa_cons (pv 0) (pa_cons (pe_glob (v := .ref (He.ga K "TooMany")) rfl T.TooMany.g rfl) pa_nil)))) (pss_one (ps_set (i := 1) sc_law_names.nd rfl (Or.inl rfl) (pe_op op_add_str (pv 1) pe_str))) pss_nil)
    (pss_cons (ps_if (pt_val (pe_callB (CI rfl List.mem_cons_self) (by rfl) T.m_isinstance (by decide +kernel) (pa_cons (pv 0) (pa_cons (pe_glob (v := .ref (He.ga K "BadSpot")) rfl T.BadSpot.g rfl) pa_nil)))) (pss_one (ps_set (i := 1) sc_law_names.nd rfl (Or.inl rfl) (pe_op op_add_str (pv 1) pe_str))) pss_nil)
    (pss_cons (ps_if (pt_val (pe_callB (CI rfl List.mem_cons_self) (by rfl) T.m_isinstance (by decide +kernel) (pa_cons (pv 0) (pa_cons (pe_glob (v := .ref (He.ga K "BadWay")) rfl T.BadWay.g rfl) pa_nil)))) (pss_one (ps_set (i := 1) sc_law_names.nd rfl (Or.inl rfl) (pe_op op_add_str (pv 1) pe_str))) pss_nil)
    (pss_cons (ps_if (pt_val (pe_callB (CI rfl List.mem_cons_self) (by rfl) T.m_isinstance (by decide +kernel) (pa_cons (pv 0) (pa_cons (pe_glob (v := .ref (He.ga K "NoLand")) rfl T.NoLand.g rfl) pa_nil)))) (pss_one (ps_set (i := 1) sc_law_names.nd rfl (Or.inl rfl) (pe_op op_add_str (pv 1) pe_str))) pss_nil)
    (pss_cons (ps_if (pt_val (pe_callB (CI rfl List.mem_cons_self) (by rfl) T.m_isinstance (by decide +kernel) (pa_cons (pv 0) (pa_cons (pe_glob (v := .ref (He.ga K "NoFence")) rfl T.NoFence.g rfl) pa_nil)))) (pss_one (ps_set (i := 1) sc_law_names.nd rfl (Or.inl rfl) (pe_op op_add_str (pv 1) pe_str))) pss_nil)
    (pss_cons (ps_if (pt_not (pt_val (pe_callB (CI rfl List.mem_cons_self) (by rfl) T.m_isinstance (by decide +kernel) (pa_cons (pv 0) (pa_cons (pe_bltn (v := .ty "ValueError") (by rfl) T.m_ValueError (by decide +kernel) rfl) pa_nil))))) (pss_one (ps_set (i := 1) sc_law_names.nd rfl (Or.inl rfl) pe_str)) pss_nil)
    (pss_one (ps_ret (pv 1)))))))))))) ?_
  refine ⟨_, rfl, _, _, _, rfl, fun u r => r, k.y ("BadSize", false) (by simp), _, rfl, iteF ?_⟩
  refine ⟨_, rfl, _, _, _, rfl, fun u r => r, k.y ("BadFence", false) (by simp), _, rfl, iteF ?_⟩
  refine ⟨_, rfl, _, _, _, rfl, fun u r => r, k.y ("TooMany", true) (by simp), _, rfl, iteT ?_⟩
  refine ⟨_, rfl, _, _, rfl, rfl, (by decide +kernel), ?_⟩
  refine ⟨_, rfl, _, _, _, rfl, fun u r => r, k.y ("BadSpot", false) (by simp), _, rfl, iteF ?_⟩
  refine ⟨_, rfl, _, _, _, rfl, fun u r => r, k.y ("BadWay", false) (by simp), _, rfl, iteF ?_⟩
  refine ⟨_, rfl, _, _, _, rfl, fun u r => r, k.y ("NoLand", false) (by simp), _, rfl, iteF ?_⟩
  refine ⟨_, rfl, _, _, _, rfl, fun u r => r, k.y ("NoFence", false) (by simp), _, rfl, iteF ?_⟩
  refine ⟨_, rfl, _, _, _, rfl, fun u r => r, k.v, _, rfl, iteF ?_⟩
  refine ⟨_, rfl, ?_⟩
  have fin : ∀ z : Str, z = "many " → Q (.str z) H := by
    rintro z rfl
    exact q
  exact fin _ (by decide +kernel)

/-! ## _law_size_refused -/
abbrev n_law_size_refused : List Str := ["_law_size", "_law_e"]
theorem sc_law_size_refused : FnScope n_law_size_refused ["_law_size"] (defScope s_law_size_refused) := ⟨rfl, rfl, rfl, by decide +kernel, rfl, by decide +kernel, by decide +kernel⟩
def sp_law_size_refused : Sp := fun vs H Q _ => ∃ v, vs = [v] ∧ Arg H v ∧ within v 1 1000 = false ∧ ∀ H', Same H H' → Q (.bl true) H'
theorem ok_law_size_refused (T : Txt K mg) (C_Ground_init : GoodI P w K mg base (L2.CX P w) 4 "Ground" ["self", "size"] (sp_g_init K)) : Good P w K mg base CX0 6 "_law_size_refused" ["_law_size"] sp_law_size_refused := by
  obtain ⟨fd, F⟩ := T.d_law_size_refused
  obtain ⟨fdn, Fn⟩ := T.d_law_names
  have NAMES_kp := Fn.kp
  have NS : Tells P w K mg base "_law_names" (He.ga K "BadSize") "size " := ok_law_names_BadSize T
  refine ⟨T.g_law_size_refused, F.kp, fd, F.bindsN (fun _ _ _ _ _ _ us hl => match us, hl with | [_], _ => rfl), F.ok sc_law_size_refused (fun vs H Q E h => ?_) (fun cdv A outer s H vs Q E hr h => ⟨_, PSs.nox (pss_cons (ps_try_as (i := 1) (Wout := fun _ _ _ _ => False) rfl rfl sc_law_size_refused.nd rfl rfl ⟨rfl, by decide, Or.inl T.LandError.g⟩ takes0 (fun W pn xe tk _ => (pss_one (ps_expr (pe_makeGS (C := "Ground") C_Ground_init hr tk rfl (pa_cons (pv 0) pa_nil))))) (fun a oe cls d pn hz hf => (pss_one (ps_ret (pe_cmpR op_eq (pe_tell T.g_law_names NAMES_kp hz hf hr.depth rfl (pa_cons (pv 1) pa_nil)) pe_str (nomark _))))))
    (pss_one (ps_ret pe_bl))), ?_⟩)⟩
  · obtain ⟨v, rfl, _⟩ := h
    rfl
  · obtain ⟨v, rfl, av, bad, q⟩ := h
    refine ⟨_, rfl, fun x dx nx ndx ne => ?_⟩
    have s1 : Same H (upd (upd H dx (.own x)) x (.ins (He.ga K "Ground") dx [])) := (same_upd ndx).trans (same_upd (by rw [upd_ne ne.symm]; exact nx))
    refine ⟨x, dx, v, rfl, av.up s1, upd_same, fun _ => ⟨true, T.ex_BadSize_LandError, fun _ a0 _ => ?_, fun z => Bool.noConfusion z⟩, fun n en n1 n2 => ?_⟩
    · exact ⟨_, rfl, rfl, rfl, _, _, rfl, NS, rfl, q _ s1⟩
    · exfalso
      rw [en, within_of n1 n2] at bad
      cases bad

/-! ## _law_put -/
abbrev n_law_put : List Str := ["_law_ground", "_law_rows", "_law_cell", "_law_size", "_law_fence", "_law_due", "_law_far", "_law_some", "_law_found", "_law_e", "_law_row"]
theorem sc_law_put : FnScope n_law_put ["_law_ground", "_law_rows", "_law_cell", "_law_size"] (defScope s_law_put) := ⟨rfl, rfl, rfl, by decide +kernel, rfl, by decide +kernel, by decide +kernel⟩
theorem ok_law_put (T : Txt K mg) (C_law_fence_by : Good P w K mg base CX0 1 "_law_fence_by" ["_law_cell", "_law_size"] sp_law_fence_by) (C_law_whole : Good P w K mg base CX0 1 "_law_whole" ["_law_thing"] sp_num)
    (C_Ground_put : GoodM P w K mg base (L2.CX P w) 6 "Ground" "put" ["self", "fence"] (sp_g_put K)) : Good P w K mg base CX0 7 "_law_put" ["_law_ground", "_law_rows", "_law_cell", "_law_size"] (sp_law_put K) := by
  obtain ⟨fd, F⟩ := T.d_law_put
  obtain ⟨fdn, Fn⟩ := T.d_law_names
  have NAMES_kp := Fn.kp
  have NF : Tells P w K mg base "_law_names" (He.ga K "BadFence") "fence " := ok_law_names_BadFence T
  have NM : Tells P w K mg base "_law_names" (He.ga K "TooMany") "many " := ok_law_names_TooMany T
  refine ⟨T.g_law_put, F.kp, fd, F.bindsN (fun _ _ _ _ _ _ us hl => match us, hl with | [_, _, _, _], _ => rfl), F.ok sc_law_put (fun vs H Q E h => ?_) (fun cdv A outer s H vs Q E hr h => ⟨_, PSs.nox (pss_cons (ps_set (i := 4) sc_law_put.nd rfl (Or.inl rfl) (pe_own C_law_fence_by (hr.mono (by decide)) rfl (pa_cons (pe_op op_fdiv (pv 2) pe_int) (pa_cons (pv 3) pa_nil))))
    (pss_cons (ps_set (i := 5) sc_law_put.nd rfl (Or.inl rfl) pe_str)
    (pss_cons (ps_if (pt_cmpR op_eq (pe_op op_mod (pv 2) pe_int) pe_int (nomark _)) (pss_cons (ps_set (i := 6) sc_law_put.nd rfl (Or.inl rfl) (pe_op op_fdiv (pv 2) pe_int))
    (pss_cons (ps_set (i := 7) sc_law_put.nd rfl (Or.inl rfl) (pe_lst (pa_cons (pe_tup (pa_cons pe_int (pa_cons pe_int (pa_cons (pe_op op_mod (pv 6) pe_int) pa_nil)))) (pa_cons (pe_tup (pa_cons (pe_op op_add pe_int (pe_op op_mod (pv 6) pe_int)) (pa_cons pe_int (pa_cons pe_int pa_nil)))) (pa_cons (pe_tup (pa_cons pe_int (pa_cons pe_int pa_nil))) (pa_cons pe_non (pa_cons (pe_tup (pa_cons pe_int (pa_cons pe_bl (pa_cons pe_int pa_nil)))) (pa_cons (pe_lst (pa_cons pe_int (pa_cons pe_int (pa_cons pe_int pa_nil)))) (pa_cons (pe_tup (pa_cons pe_int (pa_cons pe_int (pa_cons pe_int pa_nil)))) pa_nil)))))))))
    (pss_cons (ps_set (i := 7) sc_law_put.nd rfl (Or.inl rfl) (pe_op op_cat (pv 7) (pe_lst (pa_cons (pe_tup (pa_cons pe_int (pa_cons pe_int (pa_cons pe_int (pa_cons pe_int pa_nil))))) (pa_cons (pe_tup (pa_cons pe_non (pa_cons pe_int (pa_cons pe_int pa_nil)))) (pa_cons (pe_tup (pa_cons pe_int (pa_cons pe_str (pa_cons pe_int pa_nil)))) (pa_cons (pe_tup (pa_cons pe_int (pa_cons pe_int (pa_cons pe_non pa_nil)))) (pa_cons (pe_tup (pa_cons pe_int (pa_cons (pe_op op_sub (pe_un un_neg pe_int) (pe_op op_mod (pv 6) pe_int)) (pa_cons pe_int pa_nil)))) pa_nil))))))))
    (pss_cons (ps_set (i := 7) sc_law_put.nd rfl (Or.inl rfl) (pe_op op_cat (pv 7) (pe_lst (pa_cons (pe_tup (pa_cons pe_int (pa_cons pe_int (pa_cons (pe_op op_sub (pe_un un_neg pe_int) (pe_op op_mod (pv 6) pe_int)) pa_nil)))) (pa_cons (pe_tup (pa_cons pe_bl (pa_cons pe_int (pa_cons pe_int pa_nil)))) (pa_cons pe_str (pa_cons (pe_tup pa_nil) pa_nil)))))))
    (pss_cons (ps_set (i := 4) sc_law_put.nd rfl (Or.inl rfl) (pe_ix ix_list (pv 7) (pe_op op_mod (pv 6) pe_int) (fun _ _ => rfl)))
    (pss_one (ps_set (i := 5) sc_law_put.nd rfl (Or.inl rfl) pe_str))))))) (pss_one (ps_if (pt_cmpR op_eq (pe_callB call_len_seq (by rfl) T.m_len PySem.boot_len (pa_cons (pe_lc (own := [("_law_row", 10)]) (g := gName 10) (by rfl) sc_law_put.nd (pi_list (pv 1)) (blkOk_by (own := [("_law_row", 10)]) (N := n_law_put) (sc := defScope s_law_put) (by decide +kernel)) (fun _ _ _ _ _ => pg_name (i := 10) sc_law_put.nd rfl (Or.inl rfl)) (fun _ _ _ _ _ => (pts_one (pt_cmpR op_notN (pv 10) pe_non (nomark _)))) (fun _ _ _ _ _ => (pv 10))) pa_nil)) pe_int (nomark _)) (pss_one (ps_set (i := 5) sc_law_put.nd rfl (Or.inl rfl) pe_str)) pss_nil)))
    (pss_cons (ps_try_as (i := 9) (Wout := fun _ _ _ _ => False) rfl rfl sc_law_put.nd rfl rfl ⟨rfl, by decide, Or.inl T.LandError.g⟩ takes0 (fun W pn xe tk _ => (pss_one (ps_set (i := 8) sc_law_put.nd rfl (Or.inl rfl) (pe_methGS C_Ground_put hr tk (pv 0) (pa_cons (pv 4) pa_nil))))) (fun a oe cls d pn hz hf => (pss_one (ps_ret (pe_and (pe_cmpR op_ne (pv 5) pe_str (nomark _)) (pe_one (pe_cmpR op_eq (pe_tell T.g_law_names NAMES_kp hz hf hr.depth rfl (pa_cons (pv 9) pa_nil)) (pv 5) (nomark _))))))))
    (pss_cons (ps_expr (pe_bm PySem.F.plainAttrs_list PySem.F.slot_list_append PySem.F.type_list_append mt_append (pv 1) (pa_cons (pv 4) pa_nil)))
    (pss_one (ps_ret (pe_and (pe_cmpR op_eq (pv 5) pe_str (nomark _)) (pe_and (pe_own C_law_whole (hr.mono (by decide)) rfl (pa_cons (pv 8) pa_nil)) (pe_one (pe_cmpR op_eq (pv 8) (pe_op op_sub (pe_callB call_len_seq (by rfl) T.m_len PySem.boot_len (pa_cons (pv 1) pa_nil)) pe_int) (nomark _)))))))))))), ?_⟩)⟩
  · obtain ⟨p, d, R, n, c, rows, rfl, _⟩ := h
    rfl
  · obtain ⟨p, d, R, n, c, rows, rfl, g, many, q⟩ := h
    refine ⟨_, rfl, _, _, rfl, rfl, ⟨by decide, by decide⟩, _, rfl, _, n, rfl, g.g.n1, g.g.n2, fun H1 a x y z s1 new ha fr => gName_go (gName_go ?_)⟩
    refine if_cut (fun σ H' => ∃ (v : V) (due : Str) (o6 o7 : Option V), σ = [some (.ref p), some (.ref R), some (.int c), some (.int n), some v, some (.str due), o6, o7, none, none, none] ∧ Same H H' ∧ FItem H' v ∧
        ((due = "fence " ∧ ¬ IsFence H' v) ∨ (due = "many " ∧ IsFence H' v ∧ 16 ≤ (live rows).length) ∨ (due = "" ∧ IsFence H' v ∧ (live rows).length < 16))) ?_ ?_
    · rintro σ H1 ⟨v, due, o6, o7, rfl, s1, fv, cs⟩
      have g1 := g.up s1
      obtain ⟨dx, ob⟩ := g1.g.ob
      have back : ∀ H', Same H1 H' → Q (.bl true) H' := fun H' s => q H' rows (s1.trans s).x (g1.up s) (.inl rfl)
      refine ⟨_, rfl, p, dx, _, rfl, ob, rfl, _, rfl, p, d, n, rows, v, rfl, g1.g, fv, many, fun nf H2 s2 => ?_, fun isf full H2 s2 => ?_, fun a r ev ha fr few H2 s2 g2 => gName_go ?_⟩
      · have ed : due = "fence " := by
          rcases cs with k | k | k
          · exact k.1
          · exact absurd k.2.1 nf
          · exact absurd k.2.1 nf
        subst ed
        exact ⟨true, T.ex_BadFence_LandError, fun _ a0 _ => ⟨_, rfl, rfl, _, rfl, iteT ⟨_, rfl, rfl, rfl, _, _, rfl, NF, _, rfl, rfl, back _ s2⟩⟩, fun z => Bool.noConfusion z⟩
      · have ed : due = "many " := by
          rcases cs with k | k | k
          · exact absurd isf k.2
          · exact k.1
          · omega
        subst ed
        exact ⟨true, T.ex_TooMany_LandError, fun _ a0 _ => ⟨_, rfl, rfl, _, rfl, iteT ⟨_, rfl, rfl, rfl, _, _, rfl, NM, _, rfl, rfl, back _ s2⟩⟩, fun z => Bool.noConfusion z⟩
      · have ed : due = "" := by
          rcases cs with k | k | k
          · exact absurd (ev ▸ (fr.at_ ha).1) k.2
          · omega
          · exact k.1
        subst ed ev
        obtain ⟨s3, g3⟩ := g1.write s2 g2 _ List.map_append.symm
        have r2 := g1.g.lst s2 g1.r
        refine ⟨_, rfl, .inl ⟨rfl, _, .inl (.inl r2)⟩, _, rfl, R, _, _, rfl, rfl, r2, by rw [List.length_map, sizeLine_eq]; omega, ?_⟩
        refine ⟨_, rfl, rfl, _, rfl, iteT ?_⟩
        refine ⟨_, rfl, _, rfl, .int _, _, rfl, iteT ?_⟩
        refine ⟨_, rfl, _, rfl, R, _, rfl, .inl (SqL.of upd_same), _, _, rfl, rfl, rfl, ?_⟩
        have e : decide (V.int ((rows.length : Nat) : Int) = V.int ((((rows.map gV) ++ [V.ref a]).length : Nat) - 1)) = true := decide_eq_true (by rw [List.length_append, List.length_map]; congr 1; simp)
        dsimp only
        rw [e]
        exact q _ _ (s1.x.trans s3) g3 (.inr ⟨_, rfl⟩)
    · refine fun go => ⟨_, rfl, _, _, rfl, rfl, (by show (0 : Int) < 10; decide), rfl, _, rfl, ite2 (fun c0 => ?_) (fun c0 => ?_)⟩
      · refine ⟨_, rfl, _, _, rfl, rfl, ⟨by decide, by decide⟩, ?_⟩
        obtain ⟨far, hfar⟩ : ∃ far, far = c / 10 := ⟨_, rfl⟩
        refine gName_as (.int far) (by rw [hfar]) ?_
        clear hfar c0
        have S := s1
        generalize H1 = G0 at S ⊢
        have acc := bads_nil (H := G0)
        refine ⟨_, rfl, _, _, rfl, rfl, (by show (0 : Int) < 9; decide), by show 3 ≤ sizeLine; decide, fun q1 h1 => ?_⟩
        have s := same_upd (o := .tup [.int 0, .int 0, .int (far % 9)]) h1
        have b : Bad (upd G0 q1 (.tup [.int 0, .int 0, .int (far % 9)])) (.ref q1) := bad3 upd_same (.int _) (.int _) (.int _) fence_0
        generalize upd G0 q1 (.tup [.int 0, .int 0, .int (far % 9)]) = G1 at s b ⊢
        have S := S.trans s
        have acc := bads_more acc s b
        clear s b h1
        refine ⟨_, rfl, _, _, rfl, rfl, (by show (0 : Int) < 1003; decide), _, _, rfl, rfl, by show 3 ≤ sizeLine; decide, fun q2 h2 => ?_⟩
        have s := same_upd (o := .tup [.int (1001 + far % 1003), .int 0, .int 1]) h2
        have b : Bad (upd G1 q2 (.tup [.int (1001 + far % 1003), .int 0, .int 1])) (.ref q2) := bad3 upd_same (.int _) (.int _) (.int _) (fence_a (.inr (by omega)))
        generalize upd G1 q2 (.tup [.int (1001 + far % 1003), .int 0, .int 1]) = G2 at s b ⊢
        have S := S.trans s
        have acc := bads_more acc s b
        clear s b h2
        refine ⟨by show 2 ≤ sizeLine; decide, fun q3 h3 => ?_⟩
        have s := same_upd (o := .tup [.int 1, .int 2]) h3
        have b : Bad (upd G2 q3 (.tup [.int 1, .int 2])) (.ref q3) := badT upd_same (args_int [1, 2]) (by decide)
        generalize upd G2 q3 (.tup [.int 1, .int 2]) = G3 at s b ⊢
        have S := S.trans s
        have acc := bads_more acc s b
        clear s b h3
        have acc := bads_more acc (Same.refl _) (badP (v := .non) .non (fun _ z => by cases z))
        refine ⟨by show 3 ≤ sizeLine; decide, fun q4 h4 => ?_⟩
        have s := same_upd (o := .tup [.int 1, .bl true, .int 2]) h4
        have b : Bad (upd G3 q4 (.tup [.int 1, .bl true, .int 2])) (.ref q4) := bad3 upd_same (.int _) (.bl _) (.int _) rfl
        generalize upd G3 q4 (.tup [.int 1, .bl true, .int 2]) = G4 at s b ⊢
        have S := S.trans s
        have acc := bads_more acc s b
        clear s b h4
        refine ⟨by show 3 ≤ sizeLine; decide, fun q5 h5 => ?_⟩
        have s := same_upd (o := .lst [.int 1, .int 2, .int 3]) h5
        have b : Bad (upd G4 q5 (.lst [.int 1, .int 2, .int 3])) (.ref q5) := badL upd_same
        generalize upd G4 q5 (.lst [.int 1, .int 2, .int 3]) = G5 at s b ⊢
        have S := S.trans s
        have acc := bads_more acc s b
        clear s b h5
        refine ⟨by show 3 ≤ sizeLine; decide, fun q6 h6 => ?_⟩
        have s := same_upd (o := .tup [.int 1, .int 2, .int 1000001]) h6
        have b : Bad (upd G5 q6 (.tup [.int 1, .int 2, .int 1000001])) (.ref q6) := bad3 upd_same (.int _) (.int _) (.int _) rfl
        generalize upd G5 q6 (.tup [.int 1, .int 2, .int 1000001]) = G6 at s b ⊢
        have S := S.trans s
        have acc := bads_more acc s b
        clear s b h6
        refine ⟨by show 7 ≤ sizeLine; decide, fun L1 hL1 => gName_go ?_⟩
        have s := same_upd (o := .lst [.ref q1, .ref q2, .ref q3, .non, .ref q4, .ref q5, .ref q6]) hL1
        have eL1 := upd_same (H := G6) (a := L1) (o := .lst [.ref q1, .ref q2, .ref q3, .non, .ref q4, .ref q5, .ref q6])
        generalize upd G6 L1 (.lst [.ref q1, .ref q2, .ref q3, .non, .ref q4, .ref q5, .ref q6]) = GL1 at s eL1 ⊢
        have S := S.trans s
        have acc := bads_up acc s
        clear s hL1
        refine ⟨_, rfl, by show 4 ≤ sizeLine; decide, fun q7 h7 => ?_⟩
        have s := same_upd (o := .tup [.int 1, .int 2, .int 3, .int 4]) h7
        have b : Bad (upd GL1 q7 (.tup [.int 1, .int 2, .int 3, .int 4])) (.ref q7) := badT upd_same (args_int [1, 2, 3, 4]) (by decide)
        generalize upd GL1 q7 (.tup [.int 1, .int 2, .int 3, .int 4]) = G7 at s b ⊢
        have S := S.trans s
        have acc := bads_more acc s b
        have eL1 := s _ _ eL1
        clear s b h7
        refine ⟨by show 3 ≤ sizeLine; decide, fun q8 h8 => ?_⟩
        have s := same_upd (o := .tup [.non, .int 1, .int 2]) h8
        have b : Bad (upd G7 q8 (.tup [.non, .int 1, .int 2])) (.ref q8) := bad3 upd_same .non (.int _) (.int _) rfl
        generalize upd G7 q8 (.tup [.non, .int 1, .int 2]) = G8 at s b ⊢
        have S := S.trans s
        have acc := bads_more acc s b
        have eL1 := s _ _ eL1
        clear s b h8
        refine ⟨by show 3 ≤ sizeLine; decide, fun q9 h9 => ?_⟩
        have s := same_upd (o := .tup [.int 1, .str "2", .int 3]) h9
        have b : Bad (upd G8 q9 (.tup [.int 1, .str "2", .int 3])) (.ref q9) := bad3 upd_same (.int _) (.str _) (.int _) rfl
        generalize upd G8 q9 (.tup [.int 1, .str "2", .int 3]) = G9 at s b ⊢
        have S := S.trans s
        have acc := bads_more acc s b
        have eL1 := s _ _ eL1
        clear s b h9
        refine ⟨by show 3 ≤ sizeLine; decide, fun q10 h10 => ?_⟩
        have s := same_upd (o := .tup [.int 1, .int 2, .non]) h10
        have b : Bad (upd G9 q10 (.tup [.int 1, .int 2, .non])) (.ref q10) := bad3 upd_same (.int _) (.int _) .non rfl
        generalize upd G9 q10 (.tup [.int 1, .int 2, .non]) = G10 at s b ⊢
        have S := S.trans s
        have acc := bads_more acc s b
        have eL1 := s _ _ eL1
        clear s b h10
        refine ⟨1001, rfl, _, rfl, _, _, rfl, rfl, (by show (0 : Int) < 1003; decide), _, _, rfl, rfl, by show 3 ≤ sizeLine; decide, fun q11 h11 => ?_⟩
        have s := same_upd (o := .tup [.int 0, .int (-1001 - far % 1003), .int 5]) h11
        have b : Bad (upd G10 q11 (.tup [.int 0, .int (-1001 - far % 1003), .int 5])) (.ref q11) := bad3 upd_same (.int _) (.int _) (.int _) (fence_b (.inl (by omega)))
        generalize upd G10 q11 (.tup [.int 0, .int (-1001 - far % 1003), .int 5]) = G11 at s b ⊢
        have S := S.trans s
        have acc := bads_more acc s b
        have eL1 := s _ _ eL1
        clear s b h11
        refine ⟨by show 5 ≤ sizeLine; decide, fun L2 hL2 => ?_⟩
        have s := same_upd (o := .lst [.ref q7, .ref q8, .ref q9, .ref q10, .ref q11]) hL2
        have eL2 := upd_same (H := G11) (a := L2) (o := .lst [.ref q7, .ref q8, .ref q9, .ref q10, .ref q11])
        generalize upd G11 L2 (.lst [.ref q7, .ref q8, .ref q9, .ref q10, .ref q11]) = GL2 at s eL2 ⊢
        have S := S.trans s
        have acc := bads_up acc s
        have eL1 := s _ _ eL1
        clear s hL2
        refine ⟨L1, L2, _, _, rfl, rfl, eL1, eL2, by show 12 ≤ sizeLine; decide, fun L3 hL3 => gName_go ?_⟩
        have s := same_upd (o := .lst ([V.ref q1, .ref q2, .ref q3, .non, .ref q4, .ref q5, .ref q6] ++ [V.ref q7, .ref q8, .ref q9, .ref q10, .ref q11])) hL3
        have eL3 := upd_same (H := GL2) (a := L3) (o := .lst ([V.ref q1, .ref q2, .ref q3, .non, .ref q4, .ref q5, .ref q6] ++ [V.ref q7, .ref q8, .ref q9, .ref q10, .ref q11]))
        generalize upd GL2 L3 (.lst ([V.ref q1, .ref q2, .ref q3, .non, .ref q4, .ref q5, .ref q6] ++ [V.ref q7, .ref q8, .ref q9, .ref q10, .ref q11])) = GL3 at s eL3 ⊢
        have S := S.trans s
        have acc := bads_up acc s
        have eL1 := s _ _ eL1
        have eL2 := s _ _ eL2
        clear s hL3
        refine ⟨_, rfl, 1000001, rfl, _, rfl, _, _, rfl, rfl, (by show (0 : Int) < 1003; decide), _, _, rfl, rfl, by show 3 ≤ sizeLine; decide, fun q12 h12 => ?_⟩
        have s := same_upd (o := .tup [.int 1, .int 2, .int (-1000001 - far % 1003)]) h12
        have b : Bad (upd GL3 q12 (.tup [.int 1, .int 2, .int (-1000001 - far % 1003)])) (.ref q12) := bad3 upd_same (.int _) (.int _) (.int _) (fence_c (.inl (by omega)))
        generalize upd GL3 q12 (.tup [.int 1, .int 2, .int (-1000001 - far % 1003)]) = G12 at s b ⊢
        have S := S.trans s
        have acc := bads_more acc s b
        have eL3 := s _ _ eL3
        clear s b h12
        refine ⟨by show 3 ≤ sizeLine; decide, fun q13 h13 => ?_⟩
        have s := same_upd (o := .tup [.bl false, .int 1, .int 2]) h13
        have b : Bad (upd G12 q13 (.tup [.bl false, .int 1, .int 2])) (.ref q13) := bad3 upd_same (.bl _) (.int _) (.int _) rfl
        generalize upd G12 q13 (.tup [.bl false, .int 1, .int 2]) = G13 at s b ⊢
        have S := S.trans s
        have acc := bads_more acc s b
        have eL3 := s _ _ eL3
        clear s b h13
        have acc := bads_more acc (Same.refl _) (badP (v := .str "abc") (.str _) (fun _ z => by cases z))
        refine ⟨by show 0 ≤ sizeLine; decide, fun q14 h14 => ?_⟩
        have s := same_upd (o := .tup []) h14
        have b : Bad (upd G13 q14 (.tup [])) (.ref q14) := badT upd_same (args_int []) (by decide)
        generalize upd G13 q14 (.tup []) = G14 at s b ⊢
        have S := S.trans s
        have acc := bads_more acc s b
        have eL3 := s _ _ eL3
        clear s b h14
        refine ⟨by show 4 ≤ sizeLine; decide, fun L4 hL4 => ?_⟩
        have s := same_upd (o := .lst [.ref q12, .ref q13, .str "abc", .ref q14]) hL4
        have eL4 := upd_same (H := G14) (a := L4) (o := .lst [.ref q12, .ref q13, .str "abc", .ref q14])
        generalize upd G14 L4 (.lst [.ref q12, .ref q13, .str "abc", .ref q14]) = GL4 at s eL4 ⊢
        have S := S.trans s
        have acc := bads_up acc s
        have eL3 := s _ _ eL3
        clear s hL4
        refine ⟨L3, L4, _, _, rfl, rfl, eL3, eL4, by show 16 ≤ sizeLine; decide, fun L5 hL5 => gName_go ?_⟩
        have s := same_upd (o := .lst (([V.ref q1, .ref q2, .ref q3, .non, .ref q4, .ref q5, .ref q6] ++ [V.ref q7, .ref q8, .ref q9, .ref q10, .ref q11]) ++ [V.ref q12, .ref q13, .str "abc", .ref q14])) hL5
        have eL5 := upd_same (H := GL4) (a := L5) (o := .lst (([V.ref q1, .ref q2, .ref q3, .non, .ref q4, .ref q5, .ref q6] ++ [V.ref q7, .ref q8, .ref q9, .ref q10, .ref q11]) ++ [V.ref q12, .ref q13, .str "abc", .ref q14]))
        generalize upd GL4 L5 (.lst (([V.ref q1, .ref q2, .ref q3, .non, .ref q4, .ref q5, .ref q6] ++ [V.ref q7, .ref q8, .ref q9, .ref q10, .ref q11]) ++ [V.ref q12, .ref q13, .str "abc", .ref q14])) = GL5 at s eL5 ⊢
        have S := S.trans s
        have acc := bads_up acc s
        have eL3 := s _ _ eL3
        have eL4 := s _ _ eL4
        clear s hL5
        obtain ⟨v, hv, mem⟩ := menu_mem (xs := ([V.ref q1, .ref q2, .ref q3, .non, .ref q4, .ref q5, .ref q6] ++ [V.ref q7, .ref q8, .ref q9, .ref q10, .ref q11]) ++ [V.ref q12, .ref q13, .str "abc", .ref q14]) (n := far) (m := 16) (by decide) rfl
        have b : Bad GL5 v := acc v (by simpa using mem)
        exact ⟨_, rfl, _, rfl, _, _, rfl, rfl, (by show (0 : Int) < 16; decide), L5, _, _, v, rfl, rfl, SqL.of eL5, hv, gName_go (gName_go (go _ _ ⟨v, "fence ", _, _, rfl, S, b.1, .inl ⟨rfl, b.2⟩⟩))⟩
      · have ff := FenceR.at_ (r := ⟨x, y, z⟩) fr ha
        have g1 := g.up s1
        refine ⟨_, rfl, R, rfl, ⟨_, SqL.of g1.r⟩, fun D hD => ?_⟩
        refine lc_list (K := K) (a := R) (xs := rows.map gV) (fun i H' => Same H1 H' ∧ H' D = some (.lst (((live (rows.take i)).map Prod.fst).map V.ref))) ⟨same_upd hD, upd_same⟩ (fun i H' _ z => SqL.of (z.1 _ _ g1.r)) ?_ ?_
        · rintro i v H' hi ⟨s2, hl⟩
          obtain ⟨o, ho, rfl⟩ := gV_at hi
          have st := live_step ho
          have le := live_le (rows.take i)
          have lt := List.length_take_le i rows
          have lt' := List.length_take_le' i rows
          refine ⟨rfl, _, rfl, rfl, _, rfl, ?_⟩
          cases o with
          | none =>
            refine iteF ⟨s2, ?_⟩
            rw [st, show slotL none = [] from rfl, List.append_nil]
            exact hl
          | some k =>
            refine iteT ⟨_, rfl, _, hl, by rw [List.length_map, List.length_map, sizeLine_eq]; omega, upd_new s2 hD hl, ?_⟩
            rw [upd_same, st, List.map_append, List.map_append]
            rfl
        · rintro H2 ⟨s2, hl⟩
          rw [List.length_map, List.take_length] at hl
          refine ⟨D, _, rfl, .inl (SqL.of hl), rfl, _, rfl, ?_⟩
          rw [List.length_map, List.length_map]
          have isf := ff.1
          have few := g.g.few
          refine ite2 (fun c1 => ?_) (fun c1 => ?_)
          · have c1 : (((live rows).length : Nat) : Int) = 16 := V.int.inj (of_decide_eq_true c1)
            exact gName_go (go _ _ ⟨.ref a, "many ", _, _, rfl, s1.trans s2, ff.2.up s2, .inr (.inl ⟨rfl, (FenceR.at_ (r := ⟨x, y, z⟩) fr (s2 _ _ ha)).1, by omega⟩)⟩)
          · have c1 : ¬ (((live rows).length : Nat) : Int) = 16 := fun z => c1 (decide_eq_true (congrArg V.int z))
            exact go _ _ ⟨.ref a, "", _, _, rfl, s1.trans s2, ff.2.up s2, .inr (.inr ⟨rfl, (FenceR.at_ (r := ⟨x, y, z⟩) fr (s2 _ _ ha)).1, by omega⟩)⟩

/-! ## _law_take -/
abbrev n_law_take : List Str := ["_law_ground", "_law_rows", "_law_cell", "_law_below", "_law_number", "_law_good", "_law_found", "_law_e"]
theorem sc_law_take : FnScope n_law_take ["_law_ground", "_law_rows", "_law_cell"] (defScope s_law_take) := ⟨rfl, rfl, rfl, by decide +kernel, rfl, by decide +kernel, by decide +kernel⟩
theorem ok_law_take (T : Txt K mg) (C_law_whole : Good P w K mg base CX0 1 "_law_whole" ["_law_thing"] sp_num)
    (C_Ground_take : GoodM P w K mg base (L2.CX P w) 2 "Ground" "take" ["self", "number"] (sp_g_take K)) : Good P w K mg base CX0 3 "_law_take" ["_law_ground", "_law_rows", "_law_cell"] (sp_law_take K) := by
  obtain ⟨fd, F⟩ := T.d_law_take
  obtain ⟨fdn, Fn⟩ := T.d_law_names
  have NAMES_kp := Fn.kp
  have NN : Tells P w K mg base "_law_names" (He.ga K "NoFence") "none " := ok_law_names_NoFence T
  refine ⟨T.g_law_take, F.kp, fd, F.bindsN (fun _ _ _ _ _ _ us hl => match us, hl with | [_, _, _], _ => rfl), F.ok sc_law_take (fun vs H Q E h => ?_) (fun cdv A outer s H vs Q E hr h => ⟨_, PSs.nox (pss_cons (ps_set (i := 3) sc_law_take.nd rfl (Or.inl rfl) (pe_op op_sub (pe_un un_neg pe_int) (pe_op op_mod (pe_op op_fdiv (pv 2) pe_int) (pe_op op_add (pe_callB call_len_seq (by rfl) T.m_len PySem.boot_len (pa_cons (pv 1) pa_nil)) pe_int))))
    (pss_cons (ps_set (i := 4) sc_law_take.nd rfl (Or.inl rfl) (pe_ix ix_list (pe_lst (pa_cons (pe_callB call_len_seq (by rfl) T.m_len PySem.boot_len (pa_cons (pv 1) pa_nil)) (pa_cons (pv 3) (pa_cons pe_bl (pa_cons pe_non (pa_cons pe_str (pa_cons pe_bl (pa_cons (pe_op op_add (pe_callB call_len_seq (by rfl) T.m_len PySem.boot_len (pa_cons (pv 1) pa_nil)) pe_int) (pa_cons (pe_lst (pa_cons pe_int pa_nil)) (pa_cons pe_dnewK pa_nil)))))))))) (pe_op op_mod (pe_op op_fdiv (pv 2) pe_int) pe_int) (fun _ _ => rfl)))
    (pss_cons (ps_if (PW.pt (pw_and (pt_cmpR op_gt (pe_op op_mod (pv 2) pe_int) pe_int (nomark _)) (pw_and1 (pt_cmpR op_gt (pe_callB call_len_seq (by rfl) T.m_len PySem.boot_len (pa_cons (pv 1) pa_nil)) pe_int (nomark _))))) (pss_one (ps_set (i := 4) sc_law_take.nd rfl (Or.inl rfl) (pe_op op_mod (pe_op op_fdiv (pv 2) pe_int) (pe_callB call_len_seq (by rfl) T.m_len PySem.boot_len (pa_cons (pv 1) pa_nil))))) pss_nil)
    (pss_cons (ps_set (i := 5) sc_law_take.nd rfl (Or.inl rfl) (pe_and (pe_own C_law_whole (hr.mono (by decide)) rfl (pa_cons (pv 4) pa_nil)) (pe_one (pe_chain op_le op_lt pe_int (pv 4) (pe_callB call_len_seq (by rfl) T.m_len PySem.boot_len (pa_cons (pv 1) pa_nil))))))
    (pss_cons (ps_if (pt_val (pv 5)) (pss_one (ps_set (i := 5) sc_law_take.nd rfl (Or.inl rfl) (pe_cmpR op_notN (pe_ix ix_list (pv 1) (pv 4) (fun _ _ => rfl)) pe_non (nomark _)))) pss_nil)
    (pss_cons (ps_try_as (i := 7) (Wout := fun _ _ _ _ => False) rfl rfl sc_law_take.nd rfl rfl ⟨rfl, by decide, Or.inl T.LandError.g⟩ takes0 (fun W pn xe tk _ => (pss_one (ps_set (i := 6) sc_law_take.nd rfl (Or.inl rfl) (pe_methGS C_Ground_take hr tk (pv 0) (pa_cons (pv 4) pa_nil))))) (fun a oe cls d pn hz hf => (pss_one (ps_ret (pe_and (pe_not (pv 5)) (pe_one (pe_cmpR op_eq (pe_tell T.g_law_names NAMES_kp hz hf hr.depth rfl (pa_cons (pv 7) pa_nil)) pe_str (nomark _))))))))
    (pss_cons (ps_if (PW.pt (pw_or (pt_not (pt_val (pv 5))) (pw_or (pt_not (pt_val (pe_callB call_isi (by rfl) T.m_isinstance (by decide +kernel) (pa_cons (pv 6) (pa_cons (pe_bltn (v := .ty "tuple") (by rfl) T.m_tuple (by decide +kernel) rfl) pa_nil))))) (pw_or1 (pt_cmpR (op_neD hr.units) (pv 6) (pe_ix ix_list (pv 1) (pv 4) (fun _ _ => rfl)) (nomark _)))))) (pss_one (ps_ret pe_bl)) pss_nil)
    (pss_cons (ps_asg pe_non (pg_sub (pv 1) (pv 4) set_list))
    (pss_one (ps_ret pe_bl)))))))))), ?_⟩)⟩
  · obtain ⟨p, d, R, n, c, rows, rfl, _⟩ := h
    rfl
  · obtain ⟨p, d, R, n, c, rows, rfl, g, many, q⟩ := h
    have len0 : (((rows.map gV).length : Nat) : Int) = (rows.length : Nat) := by rw [List.length_map]
    refine ⟨1, rfl, _, rfl, _, _, rfl, rfl, ⟨by decide, by decide⟩, _, rfl, R, _, rfl, .inl (SqL.of g.r), _, _, rfl, rfl, _, _, rfl, rfl, (by rw [len0]; omega), _, _, rfl, rfl, ?_⟩
    obtain ⟨below, hb⟩ : ∃ below, below = -1 - c / 28 % (((rows.map gV).length : Nat) + 2) := ⟨_, rfl⟩
    refine gName_as (.int below) (by rw [hb]) ?_
    clear hb
    refine ⟨_, rfl, R, _, rfl, .inl (SqL.of g.r), _, rfl, _, rfl, R, _, rfl, .inl (SqL.of g.r), _, _, rfl, rfl, by show 1 ≤ sizeLine; decide, fun q1 h1 q2 h2 => ⟨by show 9 ≤ sizeLine; decide, fun L hL => ?_⟩⟩
    have s1 := same_upd (o := .lst [.int 0]) h1
    have e1 := upd_same (H := H) (a := q1) (o := .lst [.int 0])
    generalize upd H q1 (.lst [.int 0]) = G1 at s1 e1 h2 hL ⊢
    have s2 := same_upd (o := .dK []) h2
    have e2 := upd_same (H := G1) (a := q2) (o := .dK [])
    have e1 := s2 _ _ e1
    generalize upd G1 q2 (.dK []) = G2 at s2 e1 e2 hL ⊢
    generalize (((rows.map gV).length : Nat) : Int) = ln at len0 hL ⊢
    have s3 := same_upd (o := .lst [.int ln, .int below, .bl true, .non, .str "0", .bl false, .int (ln + 7), .ref q1, .ref q2]) hL
    have eL := upd_same (H := G2) (a := L) (o := .lst [.int ln, .int below, .bl true, .non, .str "0", .bl false, .int (ln + 7), .ref q1, .ref q2])
    have e1 := s3 _ _ e1
    have e2 := s3 _ _ e2
    generalize upd G2 L (.lst [.int ln, .int below, .bl true, .non, .str "0", .bl false, .int (ln + 7), .ref q1, .ref q2]) = G3 at s3 e1 e2 eL ⊢
    obtain ⟨v, hv, mem⟩ := menu_mem (xs := [.int ln, .int below, .bl true, .non, .str "0", .bl false, .int (ln + 7), .ref q1, .ref q2]) (n := c / 4) (m := 9) (by decide) rfl
    have av : Arg G3 v := by
      simp only [List.mem_cons, List.not_mem_nil, or_false] at mem
      rcases mem with e | e | e | e | e | e | e | e | e <;> rw [e]
      · exact .int _
      · exact .int _
      · exact .bl _
      · exact .non
      · exact .str _
      · exact .bl _
      · exact .int _
      · exact .lst e1
      · exact .dK e2
    refine ⟨_, rfl, _, _, rfl, rfl, ⟨by decide, by decide⟩, _, _, rfl, rfl, (by show (0 : Int) < 9; decide), L, _, _, v, rfl, rfl, SqL.of eL, hv, gName_go ?_⟩
    have S := (s1.trans s2).trans s3
    clear s1 s2 s3 e1 e2 eL hv mem h1 h2 hL
    refine if_cut (fun σ H' => ∃ v, σ = [some (.ref p), some (.ref R), some (.int c), some (.int below), some v, none, none, none] ∧ Same H H' ∧ Arg H' v) ?_ ?_
    · rintro σ H1 ⟨v, rfl, s1, av⟩
      have g1 := g.up s1
      have r1 := SqL.of (K := K) g1.r
      refine st_cut (fun σ H' => H1 = H' ∧ ∃ gd, σ = [some (.ref p), some (.ref R), some (.int c), some (.int below), some v, some (.bl gd), none, none] ∧ (gd = true → ∃ i : Nat, v = .int i ∧ i < rows.length) ∧ (gd = false → ¬ Stands rows v)) ?_ ?_
      · rintro σ H' ⟨rfl, gd, rfl, y1, y2⟩
        refine if_cut (fun σ H' => H1 = H' ∧ ∃ gd, σ = [some (.ref p), some (.ref R), some (.int c), some (.int below), some v, some (.bl gd), none, none] ∧ (gd = true → Stands rows v) ∧ (gd = false → ¬ Stands rows v)) ?_ ?_
        · rintro σ H' ⟨rfl, gd, rfl, y1, y2⟩
          obtain ⟨dx, ob⟩ := g1.g.ob
          refine ⟨_, rfl, p, dx, _, rfl, ob, rfl, _, rfl, p, d, n, rows, v, rfl, g1.g, av, fun ns => ?_, fun i x ev hi H2 s2 g2 => gName_go ?_⟩
          · have e : gd = false := by
              cases gd
              · rfl
              · exact absurd (y1 rfl) ns
            subst e
            exact ⟨true, T.ex_NoFence_LandError, fun _ a0 _ => ⟨_, rfl, _, rfl, _, rfl, iteT ⟨_, rfl, rfl, rfl, _, _, rfl, NN, rfl, q _ rows s1.x g1 rfl⟩⟩, fun z => Bool.noConfusion z⟩
          · have e : gd = true := by
              cases gd
              · exact absurd ⟨i, x, ev, hi⟩ (y2 rfl)
              · rfl
            subst e ev
            have il := (List.getElem?_eq_some_iff.mp hi).1
            have hx : H2 x.1 = some (rowHO x.2) := g1.g.tup s2 (g1.g.at_ x (live_mem.mpr (List.mem_of_getElem? hi))).1
            have r2 := g1.g.lst s2 g1.r
            refine ⟨_, rfl, _, rfl, iteF ?_⟩
            refine ⟨_, rfl, _, _, _, _, true, rfl, .ty _, .base (.tup hx), kit_ty (by decide +kernel), _, rfl, iteF ?_⟩
            refine ⟨_, rfl, _, rfl, _, rfl, R, _, _, _, rfl, rfl, SqL.of r2, atI_nat (gV_get hi), _, _, dp_row hx, dp_row hx, rfl, rfl, _, rfl, ?_⟩
            have e : PyData.eqv (rowD x.2) (rowD x.2) = true := SeqAt.eqv_refl _ rfl
            rw [e]
            refine iteF (next_go ?_)
            refine ⟨_, rfl, _, rfl, R, _, _, i, rfl, rfl, r2, ?_, ?_⟩
            · rw [List.length_map]
              unfold ixN
              rw [if_pos (by omega), if_pos (by omega)]
              rfl
            · obtain ⟨s3, g3⟩ := g1.write s2 g2 ((rows.map gV).set i .non) (by rw [List.map_set]; rfl)
              exact q _ (rows.set i none) (s1.x.trans s3) g3 (List.length_set ..)
        · intro go
          refine ⟨_, rfl, _, rfl, ?_⟩
          cases gd with
          | false => exact iteF (go _ _ ⟨rfl, false, rfl, (by intro z; cases z), y2⟩)
          | true =>
            obtain ⟨i, rfl, il⟩ := y1 rfl
            have hi := List.getElem?_eq_getElem il
            refine iteT ⟨_, rfl, _, rfl, R, _, _, _, rfl, rfl, r1, atI_nat (gV_get hi), rfl, gName_go ?_⟩
            cases hx : rows[i] with
            | none =>
              rw [hx] at hi
              refine go _ _ ⟨rfl, false, rfl, (by intro z; cases z), fun _ ⟨j, x, ej, hj⟩ => ?_⟩
              have ej : ((i : Nat) : Int) = (j : Nat) := V.int.inj ej
              rw [show j = i by omega, hi] at hj
              cases hj
            | some x =>
              rw [hx] at hi
              exact go _ _ ⟨rfl, true, rfl, fun _ => ⟨i, x, rfl, hi⟩, (by intro z; cases z)⟩
      · intro go
        refine ⟨_, rfl, v, rfl, av, _, rfl, ?_⟩
        cases hn : isNum v with
        | false => exact iteF (gName_go (go _ _ ⟨rfl, false, rfl, (by intro z; cases z), fun _ ⟨i, x, e, _⟩ => by rw [e] at hn; cases hn⟩))
        | true =>
          obtain ⟨k, rfl⟩ : ∃ k, v = .int k := by cases v <;> first | exact ⟨_, rfl⟩ | cases hn
          refine iteT ⟨_, rfl, _, _, rfl, rfl, _, rfl, ite2 (fun z => ?_) (fun z => ?_)⟩
          · have z := of_decide_eq_true z
            refine ⟨_, rfl, R, _, rfl, .inl r1, _, _, rfl, rfl, gName_go (go _ _ ⟨rfl, _, rfl, fun y => ?_, fun y => ?_⟩)⟩
            · have y := of_decide_eq_true y
              rw [List.length_map] at y
              exact ⟨k.toNat, by rw [Int.toNat_of_nonneg z], by omega⟩
            · have y := of_decide_eq_false y
              rw [List.length_map] at y
              rintro ⟨i, x, e, hi⟩
              have e : k = (i : Nat) := V.int.inj e
              have := (List.getElem?_eq_some_iff.mp hi).1
              omega
          · have z : ¬ 0 ≤ k := fun y => z (decide_eq_true y)
            refine gName_go (go _ _ ⟨rfl, false, rfl, (by intro z; cases z), fun _ ⟨i, x, e, hi⟩ => ?_⟩)
            have e : k = (i : Nat) := V.int.inj e
            omega
    · intro go
      refine ⟨_, rfl, _, _, rfl, rfl, (by show (0 : Int) < 4; decide), _, _, rfl, rfl, _, rfl, ite2 (fun _ => ?_) (fun _ => iteF (go _ _ ⟨v, rfl, S, av⟩))⟩
      have r3 := SqL.of (K := K) (S _ _ g.r)
      refine ⟨_, rfl, R, _, rfl, .inl r3, _, _, rfl, rfl, _, rfl, ite2 (fun z => ?_) (fun _ => go _ _ ⟨v, rfl, S, av⟩)⟩
      have z := of_decide_eq_true z
      exact ⟨_, rfl, _, _, rfl, rfl, ⟨by decide, by decide⟩, _, rfl, R, _, rfl, .inl r3, _, _, rfl, rfl, z, gName_go (go _ _ ⟨_, rfl, S, .int _⟩)⟩

/-! ## _law_standing -/
abbrev n_law_standing : List Str := ["_law_ground", "_law_rows", "_law_due", "_law_found", "_law_row", "_law_k"]
theorem sc_law_standing : FnScope n_law_standing ["_law_ground", "_law_rows"] (defScope s_law_standing) := ⟨rfl, rfl, rfl, by decide +kernel, rfl, by decide +kernel, by decide +kernel⟩
theorem ok_law_standing (T : Txt K mg) (C_law_whole : Good P w K mg base CX0 1 "_law_whole" ["_law_thing"] sp_num)
    (C_Ground_standing : GoodM P w K mg base CX0 1 "Ground" "standing" ["self"] (sp_g_standing K)) : Good P w K mg base CX0 2 "_law_standing" ["_law_ground", "_law_rows"] (sp_law_standing K) := by
  obtain ⟨fd, F⟩ := T.d_law_standing
  refine ⟨T.g_law_standing, F.kp, fd, F.bindsN (fun _ _ _ _ _ _ us hl => match us, hl with | [_, _], _ => rfl), F.ok sc_law_standing (fun vs H Q E h => ?_) (fun cdv A outer s H vs Q E hr h => ⟨_, PSs.nox (pss_cons (ps_setLc (i := 2) (y := "_law_due") (own := [("_law_k", 5)]) (g := gName 5) (by rfl) sc_law_standing.nd rfl rfl (sw_true rfl rfl rfl (by decide +kernel)) (pi_range1 (by rfl) T.m_range (pa_cons (pe_callB call_len_seq (by rfl) T.m_len PySem.boot_len (pa_cons (pv 1) pa_nil)) pa_nil)) (blkOk_by (own := [("_law_k", 5)]) (N := n_law_standing) (sc := defScope s_law_standing) (by decide +kernel)) (fun _ _ _ _ _ => pg_name (i := 5) sc_law_standing.nd rfl (Or.inl rfl)) (fun _ _ _ _ _ => (pts_one (pt_cmpR op_notN (pe_ix (ix_listK (K := K) rfl) (pv 1) (pv 5) (fun _ _ => rfl)) pe_non (nomark _)))) (fun _ _ _ _ _ => (pe_tup (pa_cons (pv 5) (pa_cons (pe_ix (ix_listK (K := K) rfl) (pv 1) (pv 5) (fun _ _ => rfl)) pa_nil)))))
    (pss_cons (ps_set (i := 3) sc_law_standing.nd rfl (Or.inl rfl) (pe_methG0 C_Ground_standing hr pass0 (pv 0)))
    (pss_cons (ps_if (PW.pt (pw_or (pt_not (pt_val (pe_callB call_isi (by rfl) T.m_isinstance (by decide +kernel) (pa_cons (pv 3) (pa_cons (pe_bltn (v := .ty "list") (by rfl) T.m_list (by decide +kernel) rfl) pa_nil))))) (pw_or1 (pt_cmpR (op_neD hr.units) (pv 3) (pv 2) (nomark _))))) (pss_one (ps_ret pe_bl)) pss_nil)
    (pss_cons (ps_for PassesOwn.never rfl (pi_list (pv 3)) (pg_name (i := 4) sc_law_standing.nd rfl (Or.inl rfl))
    (pss_one (ps_if (PW.pt (pw_or (pt_not (pt_val (pe_callB call_isi (by rfl) T.m_isinstance (by decide +kernel) (pa_cons (pv 4) (pa_cons (pe_bltn (v := .ty "tuple") (by rfl) T.m_tuple (by decide +kernel) rfl) pa_nil))))) (pw_or (pt_not (pt_val (pe_own C_law_whole hr rfl (pa_cons (pe_ix ix_tup (pv 4) pe_int (fun _ _ => rfl)) pa_nil)))) (pw_or1 (pt_not (pt_val (pe_callB call_isi (by rfl) T.m_isinstance (by decide +kernel) (pa_cons (pe_ix ix_tup (pv 4) pe_int (fun _ _ => rfl)) (pa_cons (pe_bltn (v := .ty "tuple") (by rfl) T.m_tuple (by decide +kernel) rfl) pa_nil))))))))) (pss_one (ps_ret pe_bl)) pss_nil)))
    (pss_cons (ps_expr (pe_bm PySem.F.plainAttrs_list PySem.F.slot_list_append PySem.F.type_list_append mt_append (pv 3) (pa_cons (pe_tup (pa_cons (pe_callB call_len_seq (by rfl) T.m_len PySem.boot_len (pa_cons (pv 1) pa_nil)) (pa_cons (pe_tup (pa_cons pe_int (pa_cons pe_int (pa_cons pe_int pa_nil)))) pa_nil))) pa_nil)))
    (pss_one (ps_ret (pe_and (pe_cmpR (op_eqD hr.units) (pe_methG0 C_Ground_standing hr pass0 (pv 0)) (pv 2) (nomark _)) (pe_one (pe_cmpR (op_eqD hr.units) (pv 3) (pe_op op_cat (pv 2) (pe_lst (pa_cons (pe_tup (pa_cons (pe_callB call_len_seq (by rfl) T.m_len PySem.boot_len (pa_cons (pv 1) pa_nil)) (pa_cons (pe_tup (pa_cons pe_int (pa_cons pe_int (pa_cons pe_int pa_nil)))) pa_nil))) pa_nil))) (nomark _))))))))))), ?_⟩)⟩
  · obtain ⟨p, d, R, n, rows, rfl, _⟩ := h
    rfl
  · obtain ⟨p, d, R, n, rows, rfl, g, many, q⟩ := h
    have lm : (rows.map gV).length = rows.length := List.length_map ..
    refine ⟨_, rfl, R, _, rfl, .inl (SqL.of g.r), _, rfl, by omega, by omega, fun D hD => ?_⟩
    refine lc_range (lo := 0) (n := (rows.map gV).length) (fun i H' => Same H H' ∧ ∃ ts, EntL H' D ts (ent 0 (rows.take i))) ⟨same_upd hD, [], ⟨upd_same, rfl⟩⟩ ?_ ?_
    · rintro i H' hi ⟨s1, ts, hl⟩
      have il : i < rows.length := by omega
      have g1 := g.up s1
      have hx := List.getElem?_eq_getElem il
      generalize rows[i] = x at hx
      have st := ent_step hx
      have at_ : atI (rows.map gV) (0 + (i : Int)) = some (gV x) := by rw [Int.zero_add]; exact atI_nat (gV_get hx)
      have le := live_le (rows.take i)
      have lt := List.length_take_le i rows
      have el := ent_len 0 (rows.take i)
      have tl := hl.len
      refine ⟨rfl, _, rfl, _, rfl, R, _, _, _, rfl, rfl, SqL.of g1.r, at_, rfl, _, rfl, ?_⟩
      cases x with
      | none =>
        refine iteF ⟨s1, ts, ?_⟩
        rw [st, show entS i none = [] from rfl, List.append_nil]
        exact hl
      | some k =>
        refine iteT ⟨_, rfl, _, rfl, _, rfl, R, _, _, _, rfl, rfl, SqL.of g1.r, at_, by show 2 ≤ sizeLine; decide, fun t ht => ?_⟩
        have s2 := same_upd (o := .tup [.int (0 + (i : Int)), gV (some k)]) ht
        have hl2 := hl.up s2
        refine ⟨_, hl2.lst, by rw [sizeLine_eq]; omega, upd_new (s1.trans s2) hD hl2.lst, ts ++ [t], ?_⟩
        rw [st]
        exact hl2.push (x := ((i : Int), k)) (by rw [upd_same, Int.zero_add]; rfl) ent_tup
    · rintro H1 ⟨s1, ts, hl⟩
      rw [lm, List.take_length] at hl
      have g1 := g.up s1
      obtain ⟨dx, ob⟩ := g1.g.ob
      refine ⟨_, rfl, p, dx, _, rfl, ob, rfl, p, d, n, rows, rfl, g1.g, fun H2 L us s2 hL hus pr => gName_go ?_⟩
      have hl2 := hl.up s2
      have fl2 : EntL H2 L us (ent 0 rows) := ⟨hus, ents_of pr⟩
      have ok2 : EntOk H2 (ent 0 rows) := fun e he => s2 _ _ (g1.g.at_ e.2 (ent_mem he)).1
      have few : (ent 0 rows).length ≤ 16 := by rw [ent_len]; exact g.g.few
      refine ⟨_, rfl, _, _, _, _, true, rfl, .ty _, .base (.lst hus), kit_ty (by decide +kernel), _, rfl, iteF ?_⟩
      refine ⟨_, rfl, _, rfl, _, _, dp_ents fl2 ok2, dp_ents hl2 ok2, shaped_ents _, shaped_ents _, _, rfl, ?_⟩
      rw [eqv_ents]
      refine iteF (next_go ?_)
      refine ⟨_, rfl, L, rfl, ⟨_, fl2.seq⟩, for_list (xs := us.map V.ref) (fun i σ H' => H2 = H' ∧ ∃ z, σ = [some (.ref p), some (.ref R), some (.ref D), some (.ref L), z, none]) ⟨rfl, _, rfl⟩ (fun i σ H' _ z => by rw [← z.1]; exact fl2.seq) ?_ ?_⟩
      · rintro i v σ H' hi ⟨rfl, z, rfl⟩
        obtain ⟨t, e, rfl, ht, he, hat⟩ := fl2.get' hi
        have tt : SqT K H2 t [.int e.1, .ref e.2.1] := SqT.of hat
        have me := ok2 e (List.mem_of_getElem? he)
        refine ⟨_, rfl, _, _, _, _, true, rfl, .ty _, .base (.tup hat), kit_ty (by decide +kernel), _, rfl, iteF ?_⟩
        refine ⟨_, rfl, t, _, 0, _, rfl, rfl, tt, rfl, .int e.1, rfl, .int _, _, rfl, iteF ?_⟩
        refine ⟨_, rfl, t, _, 1, _, rfl, rfl, tt, rfl, _, _, _, _, true, rfl, .ty _, .base (.tup me), kit_ty (by decide +kernel), _, rfl, iteF ?_⟩
        exact ⟨rfl, _, rfl⟩
      · rintro σ H' ⟨rfl, z, rfl⟩
        have g2 := g1.up s2
        refine ⟨_, rfl, .inl ⟨rfl, _, .inl (.inl fl2.lst)⟩, _, rfl, R, _, rfl, .inl (SqL.of g2.r), by show 3 ≤ sizeLine; decide, fun t1 h1 => ⟨by show 2 ≤ sizeLine; decide, fun t2 h2 => ?_⟩⟩
        have x1 := same_upd (o := .tup [.int 1, .int 0, .int 0]) h1
        have e1 : upd H2 t1 (.tup [.int 1, .int 0, .int 0]) t1 = some (rowHO ⟨1, 0, 0⟩) := upd_same
        generalize upd H2 t1 (.tup [.int 1, .int 0, .int 0]) = G1 at x1 e1 h2 ⊢
        have x2 := same_upd (o := .tup [.int ((rows.map gV).length : Nat), .ref t1]) h2
        have e2 : upd G1 t2 (.tup [.int ((rows.map gV).length : Nat), .ref t1]) t2 = some (entHO (extE rows.length t1)) := by rw [upd_same, lm]; rfl
        have e1 := x2 _ _ e1
        generalize upd G1 t2 (.tup [.int ((rows.map gV).length : Nat), .ref t1]) = G2 at x2 e1 e2 ⊢
        have x := x1.trans x2
        have fl3 := fl2.up x
        have ok3 := ok2.up x
        have len3 := fl3.len
        refine ⟨L, _, _, rfl, rfl, fl3.lst, by rw [len3, sizeLine_eq]; omega, ?_⟩
        have s3 : Same H1 (upd G2 L (.lst (us.map V.ref ++ [.ref t2]))) := upd_new (s2.trans x) hL fl3.lst
        have fl4 : EntL (upd G2 L (.lst (us.map V.ref ++ [.ref t2]))) L (us ++ [t2]) (ent 0 rows ++ [(extE rows.length t1)]) := fl3.push e2 ent_tup
        have ne : ∀ {b : Addr} {xs : List V}, G2 b = some (.tup xs) → b ≠ L := fun e => ne_of e fl3.lst (by intro z; cases z)
        have ok4 : EntOk (upd G2 L (.lst (us.map V.ref ++ [.ref t2]))) (ent 0 rows ++ [(extE rows.length t1)]) := fun e he => by
          rcases List.mem_append.mp he with z | z
          · exact (upd_ne (ne (ok3 e z))).trans (ok3 e z)
          · have z : e = (extE rows.length t1) := by simpa using z
            rw [z]
            exact (upd_ne (ne e1)).trans e1
        generalize upd G2 L (.lst (us.map V.ref ++ [.ref t2])) = H3 at s3 fl4 ok4 ⊢
        have g3 := g1.up s3
        obtain ⟨dx3, ob3⟩ := g3.g.ob
        refine ⟨_, rfl, p, dx3, _, rfl, ob3, rfl, p, d, n, rows, rfl, g3.g, fun H4 L2 us2 s4 hL2 hus2 pr2 => ?_⟩
        have hl4 := hl.up (s3.trans s4)
        have fl5 : EntL H4 L2 us2 (ent 0 rows) := ⟨hus2, ents_of pr2⟩
        have ok5 : EntOk H4 (ent 0 rows) := fun e he => s4 _ _ (g3.g.at_ e.2 (ent_mem he)).1
        refine ⟨_, rfl, _, _, dp_ents fl5 ok5, dp_ents hl4 ok5, shaped_ents _, shaped_ents _, _, rfl, ?_⟩
        rw [eqv_ents]
        have g4 := g3.up s4
        refine iteT ⟨_, rfl, _, rfl, _, rfl, R, _, rfl, .inl (SqL.of g4.r), by show 3 ≤ sizeLine; decide, fun t3 h3 => ⟨by show 2 ≤ sizeLine; decide, fun t4 h4 => ⟨by show 1 ≤ sizeLine; decide, fun L3 hL3 => ?_⟩⟩⟩
        have x3 := same_upd (o := .tup [.int 1, .int 0, .int 0]) h3
        have e3 : upd H4 t3 (.tup [.int 1, .int 0, .int 0]) t3 = some (rowHO ⟨1, 0, 0⟩) := upd_same
        generalize upd H4 t3 (.tup [.int 1, .int 0, .int 0]) = G3 at x3 e3 h4 hL3 ⊢
        have x4 := same_upd (o := .tup [.int ((rows.map gV).length : Nat), .ref t3]) h4
        have e4 : upd G3 t4 (.tup [.int ((rows.map gV).length : Nat), .ref t3]) t4 = some (entHO (extE rows.length t3)) := by rw [upd_same, lm]; rfl
        have e3 := x4 _ _ e3
        generalize upd G3 t4 (.tup [.int ((rows.map gV).length : Nat), .ref t3]) = G4 at x4 e3 e4 hL3 ⊢
        have x5 := same_upd (o := .lst [.ref t4]) hL3
        have y := (x3.trans x4).trans x5
        have hl5 := hl4.up y
        have len5 := hl5.len
        refine ⟨D, L3, _, _, rfl, rfl, hl5.lst, upd_same, by rw [len5, sizeLine_eq]; show _ + 1 ≤ _; omega, fun L4 hL4 => ?_⟩
        have x6 := same_upd (o := .lst (ts.map V.ref ++ [.ref t4])) hL4
        have z := y.trans x6
        have r1 : EntL (upd (upd G4 L3 (.lst [.ref t4])) L4 (.lst (ts.map V.ref ++ [.ref t4]))) L4 (ts ++ [t4]) (ent 0 rows ++ [(extE rows.length t3)]) := ⟨by rw [upd_same, List.map_append]; rfl, (hl4.at_.up z).app (.one (x6 _ _ (x5 _ _ e4)))⟩
        have ok6 : EntOk (upd (upd G4 L3 (.lst [.ref t4])) L4 (.lst (ts.map V.ref ++ [.ref t4]))) (ent 0 rows ++ [(extE rows.length t3)]) := fun e he => by
          rcases List.mem_append.mp he with k | k
          · exact z _ _ (ok5 e k)
          · have k : e = (extE rows.length t3) := by simpa using k
            rw [k]
            exact x6 _ _ (x5 _ _ e3)
        have same : (ent 0 rows ++ [extE rows.length t3]).map entD = (ent 0 rows ++ [extE rows.length t1]).map entD := by
          rw [List.map_append, List.map_append]
          rfl
        refine ⟨_, _, dp_ents (fl4.up (s4.trans z)) (ok4.up (s4.trans z)), dp_ents r1 ok6, shaped_ents _, shaped_ents _, ?_⟩
        rw [same, eqv_ents]
        exact q _ (((s1.trans s3).trans s4).trans z)

/-! ## _law_ended -/
abbrev n_law_ended : List Str := ["_law_ground", "_law_rows", "_law_size", "_law_fences", "_law_found", "_law_again_here", "_law_row"]
theorem sc_law_ended : FnScope n_law_ended ["_law_ground", "_law_rows", "_law_size"] (defScope s_law_ended) := ⟨rfl, rfl, rfl, by decide +kernel, rfl, by decide +kernel, by decide +kernel⟩
theorem ok_law_ended (T : Txt K mg) (C_corners : Good P w K mg base (L2.CX P w) 9 "corners" ["size", "fences"] (sp_corners K)) (C_twice_area : Good P w K mg base (L2.CX P w) 10 "twice_area" ["size", "fences"] (sp_twice_area K))
    (C_Ground_corners : GoodM P w K mg base CX0 9 "Ground" "corners" ["self"] (sp_g_corners K)) (C_Ground_area : GoodM P w K mg base CX0 11 "Ground" "area" ["self"] (sp_g_area K)) :
    Good P w K mg base CX0 12 "_law_ended" ["_law_ground", "_law_rows", "_law_size"] (sp_law_ended K) := by
  obtain ⟨fd, F⟩ := T.d_law_ended
  refine ⟨T.g_law_ended, F.kp, fd, F.bindsN (fun _ _ _ _ _ _ us hl => match us, hl with | [_, _, _], _ => rfl), F.ok sc_law_ended (fun vs H Q E h => ?_) (fun cdv A outer s H vs Q E hr h => ⟨_, PSs.nox (pss_cons (ps_setLc (i := 3) (y := "_law_fences") (own := [("_law_row", 6)]) (g := gName 6) (by rfl) sc_law_ended.nd rfl rfl (sw_true rfl rfl rfl (by decide +kernel)) (pi_list (pv 1)) (blkOk_by (own := [("_law_row", 6)]) (N := n_law_ended) (sc := defScope s_law_ended) (by decide +kernel)) (fun _ _ _ _ _ => pg_name (i := 6) sc_law_ended.nd rfl (Or.inl rfl)) (fun _ _ _ _ _ => (pts_one (pt_cmpR op_notN (pv 6) pe_non (nomark _)))) (fun _ _ _ _ _ => (pv 6)))
    (pss_cons (ps_set (i := 4) sc_law_ended.nd rfl (Or.inl rfl) (pe_methG0 C_Ground_corners (hr.mono (by decide)) pass0 (pv 0)))
    (pss_cons (ps_if (PW.pt (pw_or (pt_not (pt_val (pe_callB call_isi (by rfl) T.m_isinstance (by decide +kernel) (pa_cons (pv 4) (pa_cons (pe_bltn (v := .ty "list") (by rfl) T.m_list (by decide +kernel) rfl) pa_nil))))) (pw_or1 (pt_cmpR (op_neD hr.units) (pv 4) (pe_ownL C_corners (hr.mono (by decide)) rfl (pa_cons (pv 2) (pa_cons (pv 3) pa_nil))) (nomark _))))) (pss_one (ps_ret pe_bl)) pss_nil)
    (pss_cons (ps_expr (pe_bm PySem.F.plainAttrs_list PySem.F.slot_list_append PySem.F.type_list_append mt_append (pv 4) (pa_cons (pe_tup (pa_cons pe_int (pa_cons pe_int (pa_cons pe_int pa_nil)))) pa_nil)))
    (pss_cons (ps_set (i := 5) sc_law_ended.nd rfl (Or.inl rfl) (pe_methG0 C_Ground_corners (hr.mono (by decide)) pass0 (pv 0)))
    (pss_one (ps_ret (pe_and (pe_cmpR (op_eqD hr.units) (pv 4) (pe_op op_cat (pv 5) (pe_lst (pa_cons (pe_tup (pa_cons pe_int (pa_cons pe_int (pa_cons pe_int pa_nil)))) pa_nil))) (nomark _)) (pe_one (pe_cmpR (op_eqD hr.units) (pe_methG0 C_Ground_area hr pass0 (pv 0)) (pe_ownL C_twice_area (hr.mono (by decide)) rfl (pa_cons (pv 2) (pa_cons (pv 3) pa_nil))) (nomark _))))))))))), ?_⟩)⟩
  · obtain ⟨p, d, R, n, rows, rfl, _⟩ := h
    rfl
  · obtain ⟨p, d, R, n, rows, rfl, g, many, tb, q⟩ := h
    refine ⟨_, rfl, R, rfl, ⟨_, SqL.of g.r⟩, fun D hD => ?_⟩
    refine lc_list (K := K) (a := R) (xs := rows.map gV) (fun i H' => Same H H' ∧ H' D = some (.lst (((live (rows.take i)).map Prod.fst).map V.ref))) ⟨same_upd hD, upd_same⟩ (fun i H' _ z => SqL.of (z.1 _ _ g.r)) ?_ ?_
    · rintro i v H' hi ⟨s2, hl⟩
      obtain ⟨o, ho, rfl⟩ := gV_at hi
      have st := live_step ho
      have le := live_le (rows.take i)
      have lt := List.length_take_le i rows
      have lt' := List.length_take_le' i rows
      refine ⟨rfl, _, rfl, rfl, _, rfl, ?_⟩
      cases o with
      | none =>
        refine iteF ⟨s2, ?_⟩
        rw [st, show slotL none = [] from rfl, List.append_nil]
        exact hl
      | some k =>
        refine iteT ⟨_, rfl, _, hl, by rw [List.length_map, List.length_map, sizeLine_eq]; omega, upd_new s2 hD hl, ?_⟩
        rw [upd_same, st, List.map_append, List.map_append]
        rfl
    · rintro H1 ⟨s1, hl⟩
      rw [List.length_map, List.take_length] at hl
      have g1 := g.up s1
      have land1 := g1.g.land hl
      obtain ⟨dx, ob⟩ := g1.g.ob
      refine ⟨_, rfl, p, dx, _, rfl, ob, rfl, p, d, n, rows, rfl, g1.g, tb.up s1, fun H2 L cs qs s2 hL pt told => gName_go ?_⟩
      refine ⟨_, rfl, _, _, _, _, true, rfl, .ty _, .base (.lst pt.lst), kit_ty (by decide +kernel), _, rfl, iteF ?_⟩
      refine ⟨_, rfl, _, rfl, _, rfl, .int n, D, rfl, Land.asks ((tb.up s1).up s2) (land1.up s2) fun H3 L2 cs2 qs2 s3 hL2 pt2 told2 => ?_⟩
      have eq : qs2 = qs := told2.unique told
      subst eq
      refine ⟨_, _, dp_pts (pt.up s3), dp_pts pt2, shaped_list tri_pts, shaped_list tri_pts, _, rfl, ?_⟩
      have er : PyData.eqv (.list (qs2.map ptD)) (.list (qs2.map ptD)) = true := SeqAt.eqv_refl _ (lay_list tri_pts)
      rw [er]
      refine iteF (next_go ?_)
      have pt3 := pt.up s3
      have few := told_20 told2 land1.ok
      refine ⟨_, rfl, .inl ⟨rfl, _, .inl (.inl pt3.lst)⟩, by show 3 ≤ sizeLine; decide, fun t1 h1 => ?_⟩
      have x1 := same_upd (o := .tup [.int 0, .int 0, .int 1]) h1
      have e1 : upd H3 t1 (.tup [.int 0, .int 0, .int 1]) t1 = some (ptHO ⟨0, 0, 1⟩) := upd_same
      generalize upd H3 t1 (.tup [.int 0, .int 0, .int 1]) = G1 at x1 e1 ⊢
      have pt4 := pt3.up x1
      have len4 := pt4.len
      refine ⟨L, _, _, rfl, rfl, pt4.lst, by rw [len4, sizeLine_eq]; omega, ?_⟩
      have s4 : Same H1 (upd G1 L (.lst (cs.map V.ref ++ [.ref t1]))) := upd_new ((s2.trans s3).trans x1) hL pt4.lst
      have pt5 : PtL (upd G1 L (.lst (cs.map V.ref ++ [.ref t1]))) L (cs ++ [t1]) (qs2 ++ [⟨0, 0, 1⟩]) := pt4.push e1 pt_tup
      generalize upd G1 L (.lst (cs.map V.ref ++ [.ref t1])) = H4 at s4 pt5 ⊢
      have g4 := g1.up s4
      obtain ⟨dx4, ob4⟩ := g4.g.ob
      refine ⟨_, rfl, p, dx4, _, rfl, ob4, rfl, p, d, n, rows, rfl, g4.g, (tb.up s1).up s4, fun H5 L5 cs5 qs5 s5 hL5 pt6 told5 => gName_go ?_⟩
      have eq : qs5 = qs2 := told5.unique told
      subst eq
      have len6 := pt6.len
      refine ⟨_, rfl, _, rfl, by show 3 ≤ sizeLine; decide, fun t3 h3 => ⟨by show 1 ≤ sizeLine; decide, fun L3 hL3 => ?_⟩⟩
      have x3 := same_upd (o := .tup [.int 0, .int 0, .int 1]) h3
      have e3 : upd H5 t3 (.tup [.int 0, .int 0, .int 1]) t3 = some (ptHO ⟨0, 0, 1⟩) := upd_same
      generalize upd H5 t3 (.tup [.int 0, .int 0, .int 1]) = G3 at x3 e3 hL3 ⊢
      have x4 := same_upd (o := .lst [.ref t3]) hL3
      refine ⟨L5, L3, _, _, rfl, rfl, (pt6.up (x3.trans x4)).lst, upd_same, by rw [len6, sizeLine_eq]; show _ + 1 ≤ _; omega, fun L4 hL4 => ?_⟩
      have x5 := same_upd (o := .lst (cs5.map V.ref ++ [.ref t3])) hL4
      have z := (x3.trans x4).trans x5
      have r1 : PtL (upd (upd G3 L3 (.lst [.ref t3])) L4 (.lst (cs5.map V.ref ++ [.ref t3]))) L4 (cs5 ++ [t3]) (qs5 ++ [⟨0, 0, 1⟩]) := ⟨by rw [upd_same, List.map_append]; rfl, (pt6.at_.up z).app (.one (x5 _ _ (x4 _ _ e3)))⟩
      refine ⟨_, _, dp_pts (pt5.up (s5.trans z)), dp_pts r1, shaped_list tri_pts, shaped_list tri_pts, _, rfl, ?_⟩
      have er : PyData.eqv (.list ((qs5 ++ [(⟨0, 0, 1⟩ : LG.Pt)]).map ptD)) (.list ((qs5 ++ [(⟨0, 0, 1⟩ : LG.Pt)]).map ptD)) = true := SeqAt.eqv_refl _ (lay_list tri_pts)
      rw [er]
      have s6 := (s4.trans s5).trans z
      generalize upd (upd G3 L3 (.lst [.ref t3])) L4 (.lst (cs5.map V.ref ++ [.ref t3])) = H6 at s6 ⊢
      have g6 := g1.up s6
      obtain ⟨dx6, ob6⟩ := g6.g.ob
      refine iteT ⟨_, rfl, p, dx6, _, rfl, ob6, rfl, p, d, n, rows, rfl, g6.g, (tb.up s1).up s6, fun H7 t m b s7 ht ar => ?_⟩
      refine ⟨_, rfl, _, rfl, .int n, D, rfl, Land.asks (((tb.up s1).up s6).up s7) ((land1.up s6).up s7) fun H8 t' m' b' s8 ht' ar' => ?_⟩
      obtain ⟨rfl, rfl⟩ := ar.one ar'
      refine ⟨_, _, dp_two (s8 _ _ ht), dp_two ht', rfl, rfl, ?_⟩
      rw [eqv_two, decide_eq_true (show m = m ∧ b = b from ⟨rfl, rfl⟩)]
      exact q _ (((s1.trans s6).trans s7).trans s8)

/-! ## _law_again -/
abbrev n_law_again : List Str := ["_law_ground", "_law_rows", "_law_size", "_law_cell", "_law_there", "_law_number", "_law_fence", "_law_ahead", "_law_kept", "_law_far", "_law_k"]
theorem sc_law_again : FnScope n_law_again ["_law_ground", "_law_rows", "_law_size", "_law_cell"] (defScope s_law_again) := ⟨rfl, rfl, rfl, by decide +kernel, rfl, by decide +kernel, by decide +kernel⟩
def sp_law_again (K : PySem.W.Frag) : Sp := fun vs H Q _ => ∃ (p d R : Addr) (n c : Int) (rows : List Slot), vs = [.ref p, .ref R, .int n, .int c] ∧ GR (He.ga K "Ground") H p d R n rows ∧ rows.length < 800 ∧ Tabs K H ∧ ∀ H', Tabs K H' → Q (.bl true) H'
theorem ok_law_again (T : Txt K mg) (C_law_fence_by : Good P w K mg base CX0 1 "_law_fence_by" ["_law_cell", "_law_size"] sp_law_fence_by)
    (C_law_standing : Good P w K mg base CX0 2 "_law_standing" ["_law_ground", "_law_rows"] (sp_law_standing K)) (C_law_ended : Good P w K mg base CX0 12 "_law_ended" ["_law_ground", "_law_rows", "_law_size"] (sp_law_ended K))
    (C_Ground_corners : GoodM P w K mg base CX0 9 "Ground" "corners" ["self"] (sp_g_corners K)) (C_Ground_take : GoodM P w K mg base (L2.CX P w) 2 "Ground" "take" ["self", "number"] (sp_g_take K))
    (C_Ground_put : GoodM P w K mg base (L2.CX P w) 6 "Ground" "put" ["self", "fence"] (sp_g_put K)) :
    Good P w K mg base CX0 13 "_law_again" ["_law_ground", "_law_rows", "_law_size", "_law_cell"] (sp_law_again K) := by
  obtain ⟨fd, F⟩ := T.d_law_again
  refine ⟨T.g_law_again, F.kp, fd, F.bindsN (fun _ _ _ _ _ _ us hl => match us, hl with | [_, _, _, _], _ => rfl), F.ok sc_law_again (fun vs H Q E h => ?_) (fun cdv A outer s H vs Q E hr h => ⟨_, PSs.nox (pss_cons (ps_setLc (i := 4) (y := "_law_there") (own := [("_law_k", 10)]) (g := gName 10) (by rfl) sc_law_again.nd rfl rfl (sw_true rfl rfl rfl (by decide +kernel)) (pi_range1 (by rfl) T.m_range (pa_cons (pe_callB call_len_seq (by rfl) T.m_len PySem.boot_len (pa_cons (pv 1) pa_nil)) pa_nil)) (blkOk_by (own := [("_law_k", 10)]) (N := n_law_again) (sc := defScope s_law_again) (by decide +kernel)) (fun _ _ _ _ _ => pg_name (i := 10) sc_law_again.nd rfl (Or.inl rfl)) (fun _ _ _ _ _ => (pts_one (pt_cmpR op_notN (pe_ix (ix_listK (K := K) rfl) (pv 1) (pv 10) (fun _ _ => rfl)) pe_non (nomark _)))) (fun _ _ _ _ _ => (pv 10)))
    (pss_cons (ps_if (pt_cmpR (op_eqD hr.units) (pv 4) (pe_lst pa_nil) (nomark _)) (pss_one (ps_ret pe_bl)) pss_nil)
    (pss_cons (ps_set (i := 5) sc_law_again.nd rfl (Or.inl rfl) (pe_ix ix_list (pv 4) (pe_op op_mod (pv 3) (pe_callB call_len_seq (by rfl) T.m_len PySem.boot_len (pa_cons (pv 4) pa_nil))) (fun _ _ => rfl)))
    (pss_cons (ps_set (i := 6) sc_law_again.nd rfl (Or.inl rfl) (pe_ix ix_list (pv 1) (pv 5) (fun _ _ => rfl)))
    (pss_cons (ps_set (i := 7) sc_law_again.nd rfl (Or.inl rfl) (pe_methG0 C_Ground_corners (hr.mono (by decide)) pass0 (pv 0)))
    (pss_cons (ps_set (i := 8) sc_law_again.nd rfl (Or.inl rfl) (pe_callTy call_list_of (by rfl) T.m_list (by decide +kernel) (pa_cons (pv 7) pa_nil)))
    (pss_cons (ps_if (PW.pt (pw_or (pt_cmpR (op_neD hr.units) (pe_methG C_Ground_take (hr.mono (by decide)) passL (pv 0) (pa_cons (pv 5) pa_nil)) (pv 6) (nomark _)) (pw_or1 (pt_cmpR (op_neD hr.units) (pv 7) (pv 8) (nomark _))))) (pss_one (ps_ret pe_bl)) pss_nil)
    (pss_cons (ps_asg pe_non (pg_sub (pv 1) (pv 5) set_list))
    (pss_cons (ps_if (PW.pt (pw_or (pt_not (pt_val (pe_own C_law_standing (hr.mono (by decide)) rfl (pa_cons (pv 0) (pa_cons (pv 1) pa_nil))))) (pw_or1 (pt_not (pt_val (pe_own C_law_ended hr rfl (pa_cons (pv 0) (pa_cons (pv 1) (pa_cons (pv 2) pa_nil))))))))) (pss_one (ps_ret pe_bl)) pss_nil)
    (pss_cons (ps_set (i := 9) sc_law_again.nd rfl (Or.inl rfl) (pe_own C_law_fence_by (hr.mono (by decide)) rfl (pa_cons (pv 3) (pa_cons (pv 2) pa_nil))))
    (pss_cons (ps_if (pt_cmpR op_ne (pe_methG C_Ground_put (hr.mono (by decide)) passL (pv 0) (pa_cons (pv 9) pa_nil)) (pe_callB call_len_seq (by rfl) T.m_len PySem.boot_len (pa_cons (pv 1) pa_nil)) (nomark _)) (pss_one (ps_ret pe_bl)) pss_nil)
    (pss_cons (ps_expr (pe_bm PySem.F.plainAttrs_list PySem.F.slot_list_append PySem.F.type_list_append mt_append (pv 1) (pa_cons (pv 9) pa_nil)))
    (pss_one (ps_ret (pe_and (pe_own C_law_standing (hr.mono (by decide)) rfl (pa_cons (pv 0) (pa_cons (pv 1) pa_nil))) (pe_and (pe_own C_law_ended hr rfl (pa_cons (pv 0) (pa_cons (pv 1) (pa_cons (pv 2) pa_nil)))) (pe_one (pe_cmpR (op_eqD hr.units) (pv 7) (pv 8) (nomark _))))))))))))))))))), ?_⟩)⟩
  · obtain ⟨p, d, R, n, c, rows, rfl, _⟩ := h
    rfl
  · obtain ⟨p, d, R, n, c, rows, rfl, g, many, tb, q⟩ := h
    have lm : (rows.map gV).length = rows.length := List.length_map ..
    refine ⟨_, rfl, R, _, rfl, .inl (SqL.of g.r), _, rfl, by omega, by omega, fun D hD => ?_⟩
    refine lc_range (lo := 0) (n := (rows.map gV).length) (fun i H' => Same H H' ∧ H' D = some (.lst (nums (ent 0 (rows.take i))))) ⟨same_upd hD, upd_same⟩ ?_ ?_
    · rintro i H' hi ⟨s1, hl⟩
      have il : i < rows.length := by omega
      have g1 := g.up s1
      have hx := List.getElem?_eq_getElem il
      generalize rows[i] = x at hx
      have st := ent_step hx
      have at_ : atI (rows.map gV) (0 + (i : Int)) = some (gV x) := by rw [Int.zero_add]; exact atI_nat (gV_get hx)
      have le := live_le (rows.take i)
      have lt := List.length_take_le i rows
      have el := ent_len 0 (rows.take i)
      refine ⟨rfl, _, rfl, _, rfl, R, _, _, _, rfl, rfl, SqL.of g1.r, at_, rfl, _, rfl, ?_⟩
      cases x with
      | none =>
        refine iteF ⟨s1, ?_⟩
        rw [st, show entS i none = [] from rfl, List.append_nil]
        exact hl
      | some k =>
        refine iteT ⟨_, rfl, _, hl, by unfold nums; rw [List.length_map, sizeLine_eq]; omega, upd_new s1 hD hl, ?_⟩
        rw [st, upd_same]
        unfold nums
        rw [List.map_append, Int.zero_add]
        rfl
    · rintro H1 ⟨s1, hl⟩
      rw [lm, List.take_length] at hl
      refine ⟨_, rfl, by show 0 ≤ sizeLine; decide, fun e1 he1 => ?_⟩
      have s2 := same_upd (o := .lst []) he1
      have pe1 : Dp K (upd H1 e1 (.lst [])) (.ref e1) (.list []) := .lst (SqL.of upd_same) .nil
      have hl2 := s2 _ _ hl
      refine ⟨_, _, .lst (SqL.of hl2) (dp_nums _), pe1, shaped_nums _, rfl, _, rfl, ?_⟩
      rw [eqv_nil]
      have t2 := s1.trans s2
      generalize upd H1 e1 (.lst []) = H2 at t2 hl2 ⊢
      clear pe1 s2 he1 hl s1
      refine ite2 (fun z => q _ (tb.up t2)) (fun z => next_go ?_)
      have ne : ent 0 rows ≠ [] := fun k => z (decide_eq_true (by rw [k]; rfl))
      have g2 := g.up t2
      have pos : 0 < (nums (ent 0 rows)).length := by unfold nums; rw [List.length_map]; exact List.length_pos_iff.mpr ne
      obtain ⟨v, hv, mem⟩ := menu_mem (xs := nums (ent 0 rows)) (n := c) (m := ((nums (ent 0 rows)).length : Nat)) (by omega) rfl
      obtain ⟨e, he, rfl⟩ : ∃ e ∈ ent 0 rows, v = .int e.1 := by
        unfold nums at mem
        obtain ⟨e, he, k⟩ := List.mem_map.mp mem
        exact ⟨e, he, k.symm⟩
      obtain ⟨i, ei, hi⟩ := ent_at he
      rw [Nat.zero_add] at ei
      rw [ei] at hv
      obtain ⟨_, x⟩ := e
      have il := (List.getElem?_eq_some_iff.mp hi).1
      refine ⟨_, rfl, _, rfl, _, rfl, D, _, rfl, .inl (SqL.of hl2), _, _, rfl, rfl, by omega, D, _, _, _, rfl, rfl, SqL.of hl2, hv, gName_go ?_⟩
      refine ⟨_, rfl, _, rfl, R, _, _, _, rfl, rfl, SqL.of g2.r, atI_nat (gV_get hi), gName_go ?_⟩
      obtain ⟨dx, ob⟩ := g2.g.ob
      refine ⟨_, rfl, p, dx, _, rfl, ob, rfl, p, d, n, rows, rfl, g2.g, tb.up t2, fun H3 L cs qs s3 hL pt told => gName_go ?_⟩
      refine ⟨_, rfl, L, _, rfl, .inl pt.seq, fun M hM => gName_go ?_⟩
      have s4 := same_upd (o := .lst (cs.map V.ref)) hM
      have pt4 := pt.up s4
      have kp4 : PtL (upd H3 M (.lst (cs.map V.ref))) M cs qs := ⟨upd_same, pt4.at_⟩
      have t4 := (t2.trans s3).trans s4
      generalize upd H3 M (.lst (cs.map V.ref)) = H4 at s4 pt4 kp4 t4 ⊢
      have LR : L ≠ R := (ne_of_none g2.r hL).symm
      have MR : M ≠ R := (ne_of_none (s3 _ _ g2.r) hM).symm
      have g4 := g.up t4
      have tb4 := tb.up t4
      obtain ⟨dx4, ob4⟩ := g4.g.ob
      have eqp : PyData.eqv (.list (qs.map ptD)) (.list (qs.map ptD)) = true := SeqAt.eqv_refl _ (lay_list tri_pts)
      refine ⟨_, rfl, p, dx4, _, rfl, ob4, rfl, _, rfl, p, d, n, rows, _, rfl, g4.g, .int _, fun ns => absurd ⟨i, x, rfl, hi⟩ ns, fun j y ev hj H5 s5 g5 => ?_⟩
      have ev : i = j := by have := V.int.inj ev; omega
      subst ev
      have ey : y = x := by rw [hi] at hj; exact (Option.some.inj (Option.some.inj hj)).symm
      subst ey
      have hx5 := g4.g.tup s5 (g4.g.at_ y (live_mem.mpr (List.mem_of_getElem? hi))).1
      refine ⟨_, rfl, _, _, dp_row hx5, dp_row hx5, rfl, rfl, _, rfl, ?_⟩
      have er : PyData.eqv (rowD y.2) (rowD y.2) = true := SeqAt.eqv_refl _ rfl
      rw [er]
      refine iteF ⟨_, rfl, _, rfl, _, _, dp_pts (g4.g.lstAt s5 pt4), dp_pts (g4.g.lstAt s5 kp4), shaped_list tri_pts, shaped_list tri_pts, _, rfl, ?_⟩
      rw [eqp]
      refine iteF (next_go ?_)
      have r5 := g4.g.lst s5 g4.r
      refine ⟨_, rfl, _, rfl, R, _, _, i, rfl, rfl, r5, ?_, ?_⟩
      · rw [List.length_map]
        unfold ixN
        rw [if_pos (by omega), if_pos (by omega)]
        rfl
      obtain ⟨s6, g6⟩ := g4.write s5 g5 ((rows.map gV).set i .non) (by rw [List.map_set]; rfl)
      generalize upd H5 R (.lst ((rows.map gV).set i .non)) = H6 at s6 g6 ⊢
      have tb6 := g4.tabs s6 tb4
      have pt6 := g4.lstAt s6 pt4 LR
      have kp6 := g4.lstAt s6 kp4 MR
      have lt6 := live_set_lt hi
      have few6 := g.g.few
      have len6 : (rows.set i none).length = rows.length := List.length_set ..
      generalize rows.set i none = rows' at g6 lt6 len6
      refine ⟨_, rfl, _, rfl, p, d, R, n, _, rfl, g6, by omega, fun H7 s7 => ⟨_, rfl, iteF ⟨_, rfl, _, rfl, _, rfl, p, d, R, n, _, rfl, g6.up s7, by omega, tb6.up s7, fun H8 s8 => ⟨_, rfl, iteF (next_go ?_)⟩⟩⟩⟩
      refine ⟨_, rfl, _, rfl, c, n, rfl, g.g.n1, g.g.n2, fun H9 a x y z s9 new ha fr => gName_go ?_⟩
      have t9 := (s7.trans s8).trans s9
      have g9 := g6.up t9
      obtain ⟨dx9, ob9⟩ := g9.g.ob
      have ff := FenceR.at_ (r := ⟨x, y, z⟩) fr ha
      refine ⟨_, rfl, p, dx9, _, rfl, ob9, rfl, _, rfl, p, d, n, rows', _, rfl, g9.g, ff.2, by omega, fun nf => absurd ff.1 nf, fun _ full => absurd full (by omega), fun a' r' ev ha' fr' few H10 s10 g10 => ?_⟩
      cases ev
      have r10 := g9.g.lst s10 g9.r
      refine ⟨_, rfl, R, _, rfl, .inl (SqL.of r10), rfl, _, rfl, ?_⟩
      rw [decide_eq_true (show V.int ((rows'.length : Nat) : Int) = V.int (((rows'.map gV).length : Nat) : Int) by rw [List.length_map])]
      refine iteF (next_go ?_)
      refine ⟨_, rfl, .inl ⟨rfl, _, .inl (.inl r10)⟩, _, rfl, R, _, _, rfl, rfl, r10, by rw [List.length_map, sizeLine_eq]; omega, ?_⟩
      obtain ⟨s11, g11⟩ := g9.write s10 g10 _ List.map_append.symm
      have e11 : rows'.map gV ++ [V.ref a] = rows'.map gV ++ [some (a, r')].map gV := rfl
      rw [e11]
      generalize upd H10 R (.lst (rows'.map gV ++ [some (a, r')].map gV)) = H11 at s11 g11 ⊢
      have tb11 := g9.tabs s11 (tb6.up t9)
      have pt11 := g9.lstAt s11 (pt6.up t9) LR
      have kp11 := g9.lstAt s11 (kp6.up t9) MR
      have len11 : (rows' ++ [some (a, r')]).length < 900 := by rw [List.length_append]; show _ + 1 < 900; omega
      refine ⟨_, rfl, _, rfl, p, d, R, n, _, rfl, g11, len11, fun H12 s12 => ⟨_, rfl, iteT ⟨_, rfl, _, rfl, _, rfl, p, d, R, n, _, rfl, g11.up s12, len11, tb11.up s12, fun H13 s13 => ⟨_, rfl, iteT ?_⟩⟩⟩⟩
      refine ⟨_, rfl, _, rfl, _, _, dp_pts (pt11.up (s12.trans s13)), dp_pts (kp11.up (s12.trans s13)), shaped_list tri_pts, shaped_list tri_pts, ?_⟩
      rw [eqp]
      exact q _ (tb11.up (s12.trans s13))

/-! ## law -/
abbrev n_law : List Str := ["_law_script", "_law_first", "_law_sizes", "_law_grounds", "_law_rows", "_law_many", "_law_cells", "_law_k", "_law_cell", "_law_at", "_law_more", "_law_good", "_law_told", "_law_copy"]
theorem sc_law : FnScope n_law ["_law_script"] (defScope s_law) := ⟨rfl, rfl, rfl, by decide +kernel, rfl, by decide +kernel, by decide +kernel⟩
theorem ok_law {fd : FuncData} (T : Txt K mg) (F : FnP K "law" s_law fd) (C_law_cell_at : Good P w K mg base CX0 1 "_law_cell_at" ["_law_script", "_law_k"] (sp_cell K))
    (C_law_size_by : Good P w K mg base CX0 1 "_law_size_by" ["_law_cell"] sp_law_size_by) (C_law_size_refused : Good P w K mg base CX0 6 "_law_size_refused" ["_law_size"] sp_law_size_refused)
    (C_Ground_init : GoodI P w K mg base (L2.CX P w) 4 "Ground" ["self", "size"] (sp_g_init K)) (C_Ground_standing : GoodM P w K mg base CX0 1 "Ground" "standing" ["self"] (sp_g_standing K))
    (C_law_put : Good P w K mg base CX0 7 "_law_put" ["_law_ground", "_law_rows", "_law_cell", "_law_size"] (sp_law_put K)) (C_law_take : Good P w K mg base CX0 3 "_law_take" ["_law_ground", "_law_rows", "_law_cell"] (sp_law_take K))
    (C_law_standing : Good P w K mg base CX0 2 "_law_standing" ["_law_ground", "_law_rows"] (sp_law_standing K)) (C_law_ended : Good P w K mg base CX0 12 "_law_ended" ["_law_ground", "_law_rows", "_law_size"] (sp_law_ended K))
    (C_law_again : Good P w K mg base CX0 13 "_law_again" ["_law_ground", "_law_rows", "_law_size", "_law_cell"] (sp_law_again K)) :
    FnOk P w K mg base CX0 (13 + 1) (He.ga K "law") fd ["_law_script"] (sp_lawT K) := by
  refine F.ok sc_law (fun vs H Q E h => ?_) (fun cdv A outer s H vs Q E hr h => ⟨_, PSs.nox (pss_cons (ps_set (i := 1) sc_law.nd rfl (Or.inl rfl) (pe_own C_law_cell_at (hr.mono (by decide)) rfl (pa_cons (pv 0) (pa_cons pe_int pa_nil))))
    (pss_cons (ps_set (i := 2) sc_law.nd rfl (Or.inl rfl) (pe_lst (pa_cons (pe_own C_law_size_by (hr.mono (by decide)) rfl (pa_cons (pv 1) pa_nil)) (pa_cons (pe_op op_add pe_int (pe_op op_mod (pe_own C_law_cell_at (hr.mono (by decide)) rfl (pa_cons (pv 0) (pa_cons pe_int pa_nil))) pe_int)) pa_nil))))
    (pss_cons (ps_if (pt_cmpR op_eq (pe_op op_mod (pe_op op_fdiv (pv 1) pe_int) pe_int) pe_int (nomark _)) (pss_one (ps_if (pt_not (pt_val (pe_own C_law_size_refused (hr.mono (by decide)) rfl (pa_cons (pe_ix ix_list (pe_lst (pa_cons pe_int (pa_cons pe_int (pa_cons (pe_op op_sub (pe_un un_neg pe_int) (pe_op op_mod (pv 1) pe_int)) (pa_cons pe_bl (pa_cons pe_non (pa_cons pe_str pa_nil))))))) (pe_op op_mod (pe_op op_fdiv (pv 1) pe_int) pe_int) (fun _ _ => rfl)) pa_nil)))) (pss_one (ps_ret pe_bl)) pss_nil)) pss_nil)
    (pss_cons (ps_set (i := 3) sc_law.nd rfl (Or.inl rfl) (pe_lst (pa_cons (pe_makeG (C := "Ground") C_Ground_init rfl (hr.mono (by decide)) passL (pa_cons (pe_ix ix_list (pv 2) pe_int (fun _ _ => rfl)) pa_nil)) (pa_cons (pe_makeG (C := "Ground") C_Ground_init rfl (hr.mono (by decide)) passL (pa_cons (pe_ix ix_list (pv 2) pe_int (fun _ _ => rfl)) pa_nil)) pa_nil))))
    (pss_cons (ps_set (i := 4) sc_law.nd rfl (Or.inl rfl) (pe_lst (pa_cons (pe_lst pa_nil) (pa_cons (pe_lst pa_nil) pa_nil))))
    (pss_cons (ps_set (i := 5) sc_law.nd rfl (Or.inl rfl) pe_int)
    (pss_cons (ps_if (pt_cmpR op_gt (pe_callB call_len_seq (by rfl) T.m_len PySem.boot_len (pa_cons (pv 0) pa_nil)) pe_int (nomark _)) (pss_one (ps_set (i := 5) sc_law.nd rfl (Or.inl rfl) pe_int)) pss_nil)
    (pss_cons (ps_set (i := 6) sc_law.nd rfl (Or.inl rfl) (pe_lst pa_nil))
    (pss_cons (ps_if (pt_cmpR op_eq (pe_op op_mod (pv 1) pe_int) pe_int (nomark _)) (pss_one (ps_for PassesOwn.never rfl (pi_range1 (by rfl) T.m_range (pa_cons (pe_op op_mod (pe_op op_fdiv (pe_own C_law_cell_at (hr.mono (by decide)) rfl (pa_cons (pv 0) (pa_cons pe_int pa_nil))) pe_int) pe_int) pa_nil)) (pg_name (i := 7) sc_law.nd rfl (Or.inl rfl))
    (pss_one (ps_expr (pe_bm PySem.F.plainAttrs_list PySem.F.slot_list_append PySem.F.type_list_append mt_append (pv 6) (pa_cons (pe_op op_add (pe_op op_mul (pe_op op_mul pe_int (pe_op op_add (pe_op op_mul pe_int (pe_op op_add (pe_own C_law_cell_at (hr.mono (by decide)) rfl (pa_cons (pv 0) (pa_cons pe_int pa_nil))) (pe_op op_mul pe_int (pv 7)))) pe_int)) pe_int) pe_int) pa_nil)))))) pss_nil)
    (pss_cons (ps_for PassesOwn.never rfl (pi_list (pe_op op_cat (pv 6) (pe_slice sl_list (pv 0) (po_some pe_int) (po_some (pe_op op_add pe_int (pv 5)))))) (pg_name (i := 8) sc_law.nd rfl (Or.inl rfl))
    (pss_cons (ps_set (i := 9) sc_law.nd rfl (Or.inl rfl) (pe_callTy call_int1 (by rfl) T.m_int (by decide +kernel) (pa_cons (pe_cmpR op_eq (pe_op op_mod (pv 8) pe_int) pe_int (nomark _)) pa_nil)))
    (pss_cons (ps_set (i := 10) sc_law.nd rfl (Or.inl rfl) (pe_op op_fdiv (pv 8) pe_int))
    (pss_cons (ps_set (i := 11) sc_law.nd rfl (Or.inl rfl) pe_bl)
    (pss_cons (ps_set (i := 12) sc_law.nd rfl (Or.inl rfl) (pe_methG0 C_Ground_standing (hr.mono (by decide)) pass0 (pe_ix ix_list (pv 3) (pv 9) (fun _ _ => rfl))))
    (pss_cons (ps_set (i := 13) sc_law.nd rfl (Or.inl rfl) (pe_callTy call_list_of (by rfl) T.m_list (by decide +kernel) (pa_cons (pv 12) pa_nil)))
    (pss_cons (ps_if (pt_cmpR op_eq (pe_op op_mod (pv 10) pe_int) pe_int (nomark _)) (pss_one (ps_set (i := 11) sc_law.nd rfl (Or.inl rfl) (pe_own C_law_put (hr.mono (by decide)) rfl (pa_cons (pe_ix ix_list (pv 3) (pv 9) (fun _ _ => rfl)) (pa_cons (pe_ix ix_list (pv 4) (pv 9) (fun _ _ => rfl)) (pa_cons (pe_op op_fdiv (pv 10) pe_int) (pa_cons (pe_ix ix_list (pv 2) (pv 9) (fun _ _ => rfl)) pa_nil))))))) (pss_one (ps_set (i := 11) sc_law.nd rfl (Or.inl rfl) (pe_own C_law_take (hr.mono (by decide)) rfl (pa_cons (pe_ix ix_list (pv 3) (pv 9) (fun _ _ => rfl)) (pa_cons (pe_ix ix_list (pv 4) (pv 9) (fun _ _ => rfl)) (pa_cons (pe_op op_fdiv (pv 10) pe_int) pa_nil)))))))
    (pss_cons (ps_if (PW.pt (pw_or (pt_not (pt_val (pv 11))) (pw_or (pt_not (pt_val (pe_own C_law_standing (hr.mono (by decide)) rfl (pa_cons (pe_ix ix_list (pv 3) (pv 9) (fun _ _ => rfl)) (pa_cons (pe_ix ix_list (pv 4) (pv 9) (fun _ _ => rfl)) pa_nil))))) (pw_or1 (pt_cmpR (op_neD hr.units) (pv 12) (pv 13) (nomark _)))))) (pss_one (ps_ret pe_bl)) pss_nil)
    (pss_one (ps_if (PW.pt (pw_and (pt_cmpR op_eq (pe_op op_mod (pe_op op_fdiv (pv 8) pe_int) pe_int) pe_int (nomark _)) (pw_and1 (pt_cmpR op_lt (pe_callB call_len_seq (by rfl) T.m_len PySem.boot_len (pa_cons (pe_methG0 C_Ground_standing (hr.mono (by decide)) pass0 (pe_ix ix_list (pv 3) (pv 9) (fun _ _ => rfl))) pa_nil)) pe_int (nomark _))))) (pss_one (ps_if (pt_not (pt_val (pe_own C_law_ended (hr.mono (by decide)) rfl (pa_cons (pe_ix ix_list (pv 3) (pv 9) (fun _ _ => rfl)) (pa_cons (pe_ix ix_list (pv 4) (pv 9) (fun _ _ => rfl)) (pa_cons (pe_ix ix_list (pv 2) (pv 9) (fun _ _ => rfl)) pa_nil)))))) (pss_one (ps_ret pe_bl)) pss_nil)) pss_nil))))))))))
    (pss_cons (ps_for PassesOwn.never rfl (pi_range1 (by rfl) T.m_range (pa_cons pe_int pa_nil)) (pg_name (i := 7) sc_law.nd rfl (Or.inl rfl))
    (pss_one (ps_if (PW.pt (pw_or (pt_not (pt_val (pe_own C_law_standing (hr.mono (by decide)) rfl (pa_cons (pe_ix ix_list (pv 3) (pv 7) (fun _ _ => rfl)) (pa_cons (pe_ix ix_list (pv 4) (pv 7) (fun _ _ => rfl)) pa_nil))))) (pw_or1 (pt_not (pt_val (pe_own C_law_ended (hr.mono (by decide)) rfl (pa_cons (pe_ix ix_list (pv 3) (pv 7) (fun _ _ => rfl)) (pa_cons (pe_ix ix_list (pv 4) (pv 7) (fun _ _ => rfl)) (pa_cons (pe_ix ix_list (pv 2) (pv 7) (fun _ _ => rfl)) pa_nil))))))))) (pss_one (ps_ret pe_bl)) pss_nil)))
    (pss_cons (ps_set (i := 9) sc_law.nd rfl (Or.inl rfl) (pe_op op_mod (pe_op op_fdiv (pv 1) pe_int) pe_int))
    (pss_one (ps_ret (pe_own C_law_again hr rfl (pa_cons (pe_ix ix_list (pv 3) (pv 9) (fun _ _ => rfl)) (pa_cons (pe_ix ix_list (pv 4) (pv 9) (fun _ _ => rfl)) (pa_cons (pe_ix ix_list (pv 2) (pv 9) (fun _ _ => rfl)) (pa_cons (pe_op op_fdiv (pv 1) pe_int) pa_nil))))))))))))))))))), ?_⟩)
  · obtain ⟨a, ns, rfl, _⟩ := h
    rfl
  · obtain ⟨a, ns, rfl, hS, hlen, tb, q⟩ := h
    refine ⟨.ref a, rfl, a, ns, 0, rfl, hS, Int.le_refl 0, ?_⟩
    generalize cell ns 0 = c0
    refine gName_go ⟨_, rfl, c0, rfl, fun n0 a1 a2 => ⟨_, rfl, a, ns, 1, rfl, hS, by decide, _, _, rfl, rfl, (by show (0 : Int) < 9; decide), _, _, rfl, rfl, by show 2 ≤ sizeLine; decide, fun S nS => gName_go ?_⟩⟩
    obtain ⟨n1, en1⟩ : ∃ n1, n1 = 1 + cell ns 1 % 9 := ⟨_, rfl⟩
    have b1 : 1 ≤ n1 := by omega
    have b2 : n1 ≤ 1000 := by omega
    have s1 := same_upd (o := .lst [.int n0, .int (1 + cell ns 1 % 9)]) nS
    have eS : upd H S (.lst [.int n0, .int (1 + cell ns 1 % 9)]) S = some (.lst [.int n0, .int n1]) := by rw [upd_same, en1]
    generalize upd H S (.lst [.int n0, .int (1 + cell ns 1 % 9)]) = H1 at s1 eS ⊢
    clear en1
    refine if_cut (fun σ H' => σ = [some (.ref a), some (.int c0), some (.ref S), none, none, none, none, none, none, none, none, none, none, none] ∧ Same H1 H') ?_ ?_
    · rintro σ H2 ⟨rfl, s2⟩
      have eS2 := s2 _ _ eS
      -- the grounds
      refine ⟨_, rfl, S, _, 0, _, rfl, rfl, SqL.of eS2, rfl, fun p0 x0 np0 nx0 ne0 => ?_⟩
      have m0 : Same H2 (upd (upd H2 x0 (.own p0)) p0 (.ins (He.ga K "Ground") x0 [])) := (same_upd nx0).trans (same_upd (by rw [upd_ne ne0.symm]; exact np0))
      refine ⟨p0, x0, .int n0, rfl, .int _, upd_same, fun z => (by rw [within_of a1 a2] at z; cases z), fun n' en _ _ d0 H3 nd0 g0 y0 => ⟨rfl, ?_⟩⟩
      cases en
      have s3 := m0.made np0 y0
      have eS3 := s3 _ _ eS2
      clear m0 y0
      refine ⟨_, rfl, S, _, 1, _, rfl, rfl, SqL.of eS3, rfl, fun p1 x1 np1 nx1 ne1 => ?_⟩
      have m1 : Same H3 (upd (upd H3 x1 (.own p1)) p1 (.ins (He.ga K "Ground") x1 [])) := (same_upd nx1).trans (same_upd (by rw [upd_ne ne1.symm]; exact np1))
      refine ⟨p1, x1, .int n1, rfl, .int _, upd_same, fun z => (by rw [within_of b1 b2] at z; cases z), fun n' en _ _ d1 H4 nd1 g1 y1 => ⟨rfl, by show 2 ≤ sizeLine; decide, fun Gs nGs => gName_go ?_⟩⟩
      cases en
      have s4 := m1.made np1 y1
      have npp : p0 ≠ p1 := by
        obtain ⟨dx, ob⟩ := g0.ob
        exact ne_of_none ob np1
      have ndd : d0 ≠ d1 := ne_of_none (m1 _ _ g0.dc) nd1
      clear m1 y1 np1 nx1 ne1 nd1 nd0 np0 nx0 ne0
      have s5 := same_upd (o := .lst [.ref p0, .ref p1]) nGs
      have eG : upd H4 Gs (.lst [.ref p0, .ref p1]) Gs = some (.lst [.ref p0, .ref p1]) := upd_same
      have g0 := (g0.up s4).up s5
      have g1 := g1.up s5
      generalize upd H4 Gs (.lst [.ref p0, .ref p1]) = H5 at s5 eG g0 g1 ⊢
      have eS5 := s5 _ _ (s4 _ _ eS3)
      have t5 := (((s1.trans s2).trans s3).trans s4).trans s5
      -- its own rows
      refine ⟨by show 0 ≤ sizeLine; decide, fun R0 nR0 => ⟨by show 0 ≤ sizeLine; decide, fun R1 nR1 => ⟨by show 2 ≤ sizeLine; decide, fun Rs nRs => gName_go (gName_go ?_)⟩⟩⟩
      have s6 := same_upd (o := .lst []) nR0
      have e0 : upd H5 R0 (.lst []) R0 = some (.lst (([] : List Slot).map gV)) := upd_same
      have neR : ∀ {b : Addr} {o : HO}, H5 b = some o → b ≠ R0 := fun e => ne_of_none e nR0
      generalize upd H5 R0 (.lst []) = H6 at s6 e0 nR1 nRs ⊢
      have s7 := same_upd (o := .lst []) nR1
      have e1 : upd H6 R1 (.lst []) R1 = some (.lst (([] : List Slot).map gV)) := upd_same
      have neR' : ∀ {b : Addr} {o : HO}, H6 b = some o → b ≠ R1 := fun e => ne_of_none e nR1
      generalize upd H6 R1 (.lst []) = H7 at s7 e1 nRs ⊢
      have s8 := same_upd (o := .lst [.ref R0, .ref R1]) nRs
      have eR : upd H7 Rs (.lst [.ref R0, .ref R1]) Rs = some (.lst [.ref R0, .ref R1]) := upd_same
      have neS : ∀ {b : Addr} {o : HO}, H7 b = some o → b ≠ Rs := fun e => ne_of_none e nRs
      generalize upd H7 Rs (.lst [.ref R0, .ref R1]) = H8 at s8 eR ⊢
      have t8 := ((t5.trans s6).trans s7).trans s8
      have k8 := (s6.trans s7).trans s8
      have S8 := t8.seq hS
      have made : ∀ (H' : Hp) (W : Addr) (ws : List V), Same H8 H' → H8 W = none → H' W = some (.lst ws) → In2 (He.ga K "Ground") K H' S Gs Rs W ws 0 := fun H' W ws s nW eW => by
        have r0 := s8 _ _ (s7 _ _ e0)
        have r1 := s8 _ _ e1
        have k := k8.trans s
        refine ⟨n0, n1, p0, d0, R0, p1, d1, R1, [], [], ⟨k _ _ eS5, k _ _ eG, s _ _ eR, eW, tb.up (t8.trans s), ⟨g0.up k, s _ _ r0⟩, ⟨g1.up k, s _ _ r1⟩, npp, ndd, ?_, ⟨neR eS5, neR eG, (neS (s7 _ _ e0)).symm, ?_⟩, ⟨neR' (s6 _ _ eS5), neR' (s6 _ _ eG), (neS e1).symm, ?_⟩⟩, Nat.le_refl _, Nat.le_refl _⟩
        · exact neR' e0
        · exact (ne_of_none r0 nW).symm
        · exact (ne_of_none r1 nW).symm
      refine if_cut (fun σ H' => H8 = H' ∧ ∃ m : Int, σ = [some (.ref a), some (.int c0), some (.ref S), some (.ref Gs), some (.ref Rs), some (.int m), none, none, none, none, none, none, none, none]) ?_ ?_
      · rintro σ H' ⟨rfl, m, rfl⟩
        refine ⟨by show 0 ≤ sizeLine; decide, fun C nC => gName_go ?_⟩
        refine if_cut (fun σ H' => (∃ x7, σ = [some (.ref a), some (.int c0), some (.ref S), some (.ref Gs), some (.ref Rs), some (.int m), some (.ref C), x7, none, none, none, none, none, none]) ∧ Same H8 H' ∧ ∃ xs : List Int, H' C = some (.lst (xs.map V.int)) ∧ xs.length ≤ 20) ?_ ?_
        · rintro σ H9 ⟨⟨x7, rfl⟩, s9, xs, eC, xl⟩
          refine ⟨_, rfl, _, rfl, 2, rfl, _, rfl, _, _, rfl, rfl, _, rfl, a, _, rfl, s9.seq S8, fun U nU => ?_⟩
          have u1 := same_upd (o := .lst (cutV (ns.map V.int) (some 2) (some (2 + m)))) nU
          have eU : upd H9 U (.lst (cutV (ns.map V.int) (some 2) (some (2 + m)))) U = some (.lst (cutV (ns.map V.int) (some 2) (some (2 + m)))) := upd_same
          have cl : (cutV (ns.map V.int) (some 2) (some (2 + m))).length ≤ 63 := Nat.le_trans (cutV_length _ _ _) (by rw [List.length_map]; exact hlen)
          have ci : ∀ v ∈ cutV (ns.map V.int) (some 2) (some (2 + m)), ∃ c, v = .int c := fun v hv => by
            obtain ⟨c, _, e⟩ := List.mem_map.mp (cut_sub v hv)
            exact ⟨c, e.symm⟩
          generalize upd H9 U (.lst (cutV (ns.map V.int) (some 2) (some (2 + m)))) = G9 at u1 eU ⊢
          generalize cutV (ns.map V.int) (some 2) (some (2 + m)) = cs at eU cl ci
          refine ⟨C, U, _, _, rfl, rfl, u1 _ _ eC, eU, by rw [List.length_map, sizeLine_eq]; omega, fun W nW => ⟨W, rfl, ⟨_, SqL.of upd_same⟩, ?_⟩⟩
          have u2 := same_upd (o := .lst (xs.map V.int ++ cs)) nW
          have eW : upd G9 W (.lst (xs.map V.int ++ cs)) W = some (.lst (xs.map V.int ++ cs)) := upd_same
          have inv := made _ W _ ((s9.trans u1).trans u2) ((s9.trans u1).free nW) eW
          generalize upd G9 W (.lst (xs.map V.int ++ cs)) = G10 at inv ⊢
          have wl : (xs.map V.int ++ cs).length ≤ 83 := by rw [List.length_append, List.length_map]; omega
          have wi : ∀ v ∈ xs.map V.int ++ cs, ∃ c, v = .int c := fun v hv => by
            rcases List.mem_append.mp hv with h | h
            · obtain ⟨c, _, e⟩ := List.mem_map.mp h
              exact ⟨c, e.symm⟩
            · exact ci v h
          generalize xs.map V.int ++ cs = ws at inv wl wi ⊢
          clear eW u2 nW eU u1 cl ci nU eC xl s9 made
          refine for_list (xs := ws) (fun i σ H' => (∃ x7 x8 x9 x10 x11 x12 x13, σ = [some (.ref a), some (.int c0), some (.ref S), some (.ref Gs), some (.ref Rs), some (.int m), some (.ref C), x7, x8, x9, x10, x11, x12, x13]) ∧ In2 (He.ga K "Ground") K H' S Gs Rs W ws i) ⟨⟨x7, none, none, none, none, none, none, rfl⟩, inv⟩ (fun i σ H' _ z => SqL.of z.2.w) ?_ ?_
          · rintro i v σ H1 hi ⟨⟨x7, x8, x9, x10, x11, x12, x13, rfl⟩, inv⟩
            obtain ⟨c, rfl⟩ := wi v (List.mem_of_getElem? hi)
            have il := (List.getElem?_eq_some_iff.mp hi).1
            refine ⟨_, rfl, _, _, rfl, rfl, (by show (0 : Int) < 3; decide), rfl, .inr ⟨_, rfl, ?_⟩⟩
            obtain ⟨j, ej, hj⟩ : ∃ j : Int, j = (if decide (V.int (c % 3) = V.int 0) = true then 1 else 0) ∧ (j = 0 ∨ j = 1) := by
              by_cases z : decide (V.int (c % 3) = V.int 0) = true
              · exact ⟨1, by rw [if_pos z], .inr rfl⟩
              · exact ⟨0, by rw [if_neg z], .inl rfl⟩
            refine gName_as (.int j) (by rw [ej]) ?_
            clear ej
            refine ⟨_, rfl, _, _, rfl, rfl, ⟨by decide, by decide⟩, gName_go (gName_go ?_)⟩
            -- one of the two grounds
            obtain ⟨n, p, d, R, rows, v⟩ := inv.at hj
            obtain ⟨l1, g1, g2⟩ := v.g
            obtain ⟨dx, ob⟩ := v.gr.g.ob
            refine ⟨_, rfl, _, rfl, Gs, _, _, _, rfl, rfl, SqL.of g1, g2, p, dx, _, rfl, ob, rfl, p, d, n, rows, rfl, v.gr.g, fun H2 L ts s2 nL eL pr => gName_go ?_⟩
            refine ⟨_, rfl, L, _, rfl, .inl (SqL.of eL), fun M nM => gName_go ?_⟩
            have s3 := same_upd (o := .lst (ts.map V.ref)) nM
            have told : EntL H2 L ts (ent 0 rows) := ⟨eL, ents_of pr⟩
            have told3 := told.up s3
            have copy3 : EntL (upd H2 M (.lst (ts.map V.ref))) M ts (ent 0 rows) := ⟨upd_same, told3.at_⟩
            have ok3 : EntOk (upd H2 M (.lst (ts.map V.ref))) (ent 0 rows) := fun e he => s3 _ _ (s2 _ _ (v.gr.g.at_ e.2 (ent_mem he)).1)
            have LR : L ≠ R := (ne_of_none v.gr.r nL).symm
            have MR : M ≠ R := (ne_of_none (s2 _ _ v.gr.r) nM).symm
            have v3 := v.up (s2.trans s3)
            generalize upd H2 M (.lst (ts.map V.ref)) = H3 at s3 told3 copy3 ok3 v3 ⊢
            generalize ent 0 rows = es at told told3 copy3 ok3
            obtain ⟨lg, g1, g2⟩ := v3.g
            obtain ⟨lr, r1, r2⟩ := v3.r
            obtain ⟨ls, z1, z2⟩ := v3.s
            have rl := v3.len
            refine if_cut (fun σ H' => σ = [some (.ref a), some (.int c0), some (.ref S), some (.ref Gs), some (.ref Rs), some (.int m), some (.ref C), x7, some (.int c), some (.int j), some (.int (c / 3)), some (.bl true), some (.ref L), some (.ref M)] ∧ In2 (He.ga K "Ground") K H' S Gs Rs W ws (i + 1) ∧ EntL H' L ts es ∧ EntL H' M ts es ∧ EntOk H' es) ?_ ?_
            · rintro σ H4 ⟨rfl, inv, told, copy, ok⟩
              obtain ⟨n, p, d, R, rows, v⟩ := inv.at hj
              obtain ⟨lg, g1, g2⟩ := v.g
              obtain ⟨lr, r1, r2⟩ := v.r
              have rl := v.len
              refine ⟨_, rfl, _, rfl, iteF ?_⟩
              refine ⟨_, rfl, _, rfl, Gs, _, _, _, rfl, rfl, SqL.of g1, g2, _, rfl, _, rfl, Rs, _, _, _, rfl, rfl, SqL.of r1, r2, p, d, R, n, rows, rfl, v.gr, by omega, fun H5 s5 => ⟨_, rfl, iteF ?_⟩⟩
              refine ⟨_, rfl, _, rfl, _, _, dp_ents (told.up s5) (ok.up s5), dp_ents (copy.up s5) (ok.up s5), shaped_ents _, shaped_ents _, _, rfl, ?_⟩
              rw [eqv_ents]
              refine iteF (next_go ?_)
              have v5 := v.up s5
              have last : ∀ H', Same H5 H' → In2 (He.ga K "Ground") K H' S Gs Rs W ws (i + 1) := fun H' s => (v5.up s).in2
              refine ⟨_, rfl, _, _, rfl, rfl, ⟨by decide, by decide⟩, _, _, rfl, rfl, (by show (0 : Int) < 3; decide), rfl, _, rfl, ite2 (fun _ => ?_) (fun _ => iteF ⟨⟨_, _, _, _, _, _, _, rfl⟩, last _ (Same.refl _)⟩)⟩
              obtain ⟨lg, g1, g2⟩ := v5.g
              obtain ⟨dx, ob⟩ := v5.gr.g.ob
              refine ⟨_, rfl, _, rfl, Gs, _, _, _, rfl, rfl, SqL.of g1, g2, p, dx, _, rfl, ob, rfl, p, d, n, rows, rfl, v5.gr.g, fun H6 L2 ts2 s6 nL2 eL2 pr2 => ?_⟩
              refine ⟨L2, _, rfl, .inl (SqL.of eL2), _, _, rfl, rfl, _, rfl, ite2 (fun _ => ?_) (fun _ => ⟨⟨_, _, _, _, _, _, _, rfl⟩, last _ s6⟩)⟩
              have v6 := v5.up s6
              obtain ⟨lg, g1, g2⟩ := v6.g
              obtain ⟨lr, r1, r2⟩ := v6.r
              obtain ⟨ls, z1, z2⟩ := v6.s
              exact ⟨_, rfl, _, rfl, Gs, _, _, _, rfl, rfl, SqL.of g1, g2, _, rfl, _, rfl, Rs, _, _, _, rfl, rfl, SqL.of r1, r2, _, rfl, _, rfl, S, _, _, _, rfl, rfl, SqL.of z1, z2, p, d, R, n, rows, rfl, v6.gr, by omega, v6.tb, fun H7 s7 => ⟨_, rfl, iteF ⟨⟨_, _, _, _, _, _, _, rfl⟩, last _ (s6.trans s7)⟩⟩⟩
            · intro go
              have done : ∀ (H' : Hp) (rows' : List Slot), SameX [p, d, R] H3 H' → GR (He.ga K "Ground") H' p d R n rows' → rows'.length ≤ i + 1 → In2 (He.ga K "Ground") K H' S Gs Rs W ws (i + 1) ∧ EntL H' L ts es ∧ EntL H' M ts es ∧ EntOk H' es := fun H' rows' s g hl =>
                ⟨v3.back H' rows' (i + 1) s g hl (Nat.le_succ _), v3.gr.lstAt s told3 LR, v3.gr.lstAt s copy3 MR, fun e he => v3.gr.tup s (ok3 e he)⟩
              refine ⟨_, rfl, _, _, rfl, rfl, (by show (0 : Int) < 2; decide), rfl, _, rfl, ite2 (fun _ => ?_) (fun _ => ?_)⟩
              · refine ⟨_, rfl, _, rfl, Gs, _, _, _, rfl, rfl, SqL.of g1, g2, _, rfl, _, rfl, Rs, _, _, _, rfl, rfl, SqL.of r1, r2, _, rfl, _, _, rfl, rfl, ⟨by decide, by decide⟩, _, rfl, _, rfl, S, _, _, _, rfl, rfl, SqL.of z1, z2, p, d, R, n, _, rows, rfl, v3.gr, by omega, fun H4 rows' s4 g4 h => gName_go (go _ _ ⟨rfl, done _ _ s4 g4 ?_⟩)⟩
                rcases h with h | ⟨g, h⟩
                · rw [h]
                  omega
                · rw [h, List.length_append]
                  show _ + 1 ≤ _
                  omega
              · exact ⟨_, rfl, _, rfl, Gs, _, _, _, rfl, rfl, SqL.of g1, g2, _, rfl, _, rfl, Rs, _, _, _, rfl, rfl, SqL.of r1, r2, _, rfl, _, _, rfl, rfl, ⟨by decide, by decide⟩, p, d, R, n, _, rows, rfl, v3.gr, by omega, fun H4 rows' s4 g4 h => gName_go (go _ _ ⟨rfl, done _ _ s4 g4 (by omega)⟩)⟩
          · rintro σ H1 ⟨⟨x7, x8, x9, x10, x11, x12, x13, rfl⟩, inv⟩
            refine ⟨2, rfl, by decide, by decide, for_range (lo := 0) (n := 2) (fun i σ H' => (∃ x7, σ = [some (.ref a), some (.int c0), some (.ref S), some (.ref Gs), some (.ref Rs), some (.int m), some (.ref C), x7, x8, x9, x10, x11, x12, x13]) ∧ In2 (He.ga K "Ground") K H' S Gs Rs W ws ws.length) ⟨⟨x7, rfl⟩, inv⟩ ?_ ?_⟩
            · rintro i σ H2 hi ⟨⟨x7, rfl⟩, inv⟩
              obtain ⟨n, p, d, R, rows, v⟩ := inv.at (j := 0 + (i : Int)) (by omega)
              obtain ⟨lg, g1, g2⟩ := v.g
              obtain ⟨lr, r1, r2⟩ := v.r
              have rl := v.len
              refine ⟨_, rfl, _, rfl, Gs, _, _, _, rfl, rfl, SqL.of g1, g2, _, rfl, _, rfl, Rs, _, _, _, rfl, rfl, SqL.of r1, r2, p, d, R, n, rows, rfl, v.gr, by omega, fun H5 s5 => ⟨_, rfl, iteF ?_⟩⟩
              have v6 := v.up s5
              obtain ⟨lg, g1, g2⟩ := v6.g
              obtain ⟨lr, r1, r2⟩ := v6.r
              obtain ⟨ls, z1, z2⟩ := v6.s
              exact ⟨_, rfl, _, rfl, Gs, _, _, _, rfl, rfl, SqL.of g1, g2, _, rfl, _, rfl, Rs, _, _, _, rfl, rfl, SqL.of r1, r2, _, rfl, _, rfl, S, _, _, _, rfl, rfl, SqL.of z1, z2, p, d, R, n, rows, rfl, v6.gr, by omega, v6.tb, fun H7 s7 => ⟨_, rfl, iteF ⟨⟨_, rfl⟩, v6.in2.up s7⟩⟩⟩
            · rintro σ H2 ⟨⟨x7, rfl⟩, inv⟩
              refine ⟨_, rfl, _, _, rfl, rfl, ⟨by decide, by decide⟩, _, _, rfl, rfl, (by show (0 : Int) < 2; decide), ?_⟩
              have j0 := Int.emod_nonneg (c0 / 3) (show (2 : Int) ≠ 0 by decide)
              have j1 := Int.emod_lt_of_pos (c0 / 3) (show (0 : Int) < 2 by decide)
              obtain ⟨j, ej⟩ : ∃ j, j = c0 / 3 % 2 := ⟨_, rfl⟩
              rw [← ej] at j0 j1
              refine gName_as (.int j) (by rw [ej]) ?_
              obtain ⟨n, p, d, R, rows, v⟩ := inv.at (j := j) (by omega)
              obtain ⟨lg, g1, g2⟩ := v.g
              obtain ⟨lr, r1, r2⟩ := v.r
              obtain ⟨ls, z1, z2⟩ := v.s
              have rl := v.len
              exact ⟨_, rfl, _, rfl, Gs, _, _, _, rfl, rfl, SqL.of g1, g2, _, rfl, _, rfl, Rs, _, _, _, rfl, rfl, SqL.of r1, r2, _, rfl, _, rfl, S, _, _, _, rfl, rfl, SqL.of z1, z2, _, rfl, _, _, rfl, rfl, ⟨by decide, by decide⟩, p, d, R, n, _, rows, rfl, v.gr, by omega, v.tb, fun H' t => q _ t⟩
        · intro go
          refine ⟨_, rfl, _, _, rfl, rfl, (by show (0 : Int) < 12; decide), rfl, _, rfl, ite2 (fun _ => ?_) (fun _ => go _ _ ⟨⟨none, rfl⟩, same_upd nC, [], upd_same, by decide⟩)⟩
          have u1 := same_upd (o := .lst []) nC
          have r0 := Int.emod_nonneg (cell ns 1 / 9) (show (21 : Int) ≠ 0 by decide)
          have r1 := Int.emod_lt_of_pos (cell ns 1 / 9) (show (0 : Int) < 21 by decide)
          refine ⟨_, rfl, a, ns, 1, rfl, u1.seq S8, by decide, _, _, rfl, rfl, ⟨by decide, by decide⟩, _, _, rfl, rfl, (by show (0 : Int) < 21; decide), _, rfl, by omega, by omega, ?_⟩
          refine for_range (lo := 0) (n := (cell ns 1 / 9 % 21).toNat) (fun i σ H' => (∃ x7, σ = [some (.ref a), some (.int c0), some (.ref S), some (.ref Gs), some (.ref Rs), some (.int m), some (.ref C), x7, none, none, none, none, none, none]) ∧ Same H8 H' ∧ ∃ xs : List Int, H' C = some (.lst (xs.map V.int)) ∧ xs.length = i) ⟨⟨none, rfl⟩, u1, [], upd_same, rfl⟩ ?_ ?_
          · rintro i σ H' hi ⟨⟨x7, rfl⟩, s9, xs, eC, xl⟩
            refine ⟨_, rfl, .inl ⟨rfl, _, .inl (.inl eC)⟩, _, rfl, a, ns, 1, rfl, s9.seq S8, by decide, _, rfl, _, _, rfl, rfl, .inl ⟨by decide, by decide⟩, _, _, rfl, rfl, _, _, rfl, rfl, .inl ⟨by decide, by decide⟩, _, _, rfl, rfl, _, _, rfl, rfl, .inl ⟨by decide, by decide⟩, _, _, rfl, rfl, .inr ⟨by decide, by decide⟩, _, _, rfl, rfl, ?_⟩
            refine ⟨C, _, _, rfl, rfl, eC, by rw [List.length_map, sizeLine_eq]; omega, ⟨_, rfl⟩, upd_new s9 nC eC, xs ++ [3 * (10 * (cell ns 1 + 8191 * (0 + (i : Int))) + 1) * 2 + 1], ?_, by rw [List.length_append, xl]; rfl⟩
            rw [upd_same, List.map_append]
            rfl
          · rintro σ H' ⟨⟨x7, rfl⟩, s9, xs, eC, xl⟩
            exact go _ _ ⟨⟨x7, rfl⟩, s9, xs, eC, by omega⟩
      · intro go
        refine ⟨_, rfl, a, _, rfl, .inl S8, _, _, rfl, rfl, _, rfl, ite2 (fun _ => gName_go (go _ _ ⟨rfl, _, rfl⟩)) (fun _ => go _ _ ⟨rfl, _, rfl⟩)⟩
    · intro go
      refine ⟨_, rfl, _, _, rfl, rfl, ⟨by decide, by decide⟩, _, _, rfl, rfl, (by show (0 : Int) < 9; decide), rfl, _, rfl, ite2 (fun _ => ?_) (fun _ => go _ _ ⟨rfl, Same.refl _⟩)⟩
      refine ⟨5, rfl, _, rfl, _, _, rfl, rfl, (by show (0 : Int) < 1003; decide), _, _, rfl, rfl, by show 6 ≤ sizeLine; decide, fun M nM => ?_⟩
      have s2 := same_upd (o := .lst [.int 0, .int 1001, .int (-5 - c0 % 1003), .bl true, .non, .str "5"]) nM
      have eM := upd_same (H := H1) (a := M) (o := .lst [.int 0, .int 1001, .int (-5 - c0 % 1003), .bl true, .non, .str "5"])
      generalize upd H1 M (.lst [.int 0, .int 1001, .int (-5 - c0 % 1003), .bl true, .non, .str "5"]) = H2 at s2 eM ⊢
      obtain ⟨v, hv, mem⟩ := menu_mem (xs := [.int 0, .int 1001, .int (-5 - c0 % 1003), .bl true, .non, .str "5"]) (n := c0 / 63) (m := 6) (by decide) rfl
      have av : Arg H2 v ∧ within v 1 1000 = false := by
        simp only [List.mem_cons, List.not_mem_nil, or_false] at mem
        rcases mem with e | e | e | e | e | e <;> rw [e]
        · exact ⟨.int _, rfl⟩
        · exact ⟨.int _, rfl⟩
        · exact ⟨.int _, within_not (.inl (by omega))⟩
        · exact ⟨.bl _, rfl⟩
        · exact ⟨.non, rfl⟩
        · exact ⟨.str _, rfl⟩
      exact ⟨_, rfl, _, _, rfl, rfl, ⟨by decide, by decide⟩, _, _, rfl, rfl, (by show (0 : Int) < 6; decide), M, _, _, v, rfl, rfl, SqL.of eM, hv, v, rfl, av.1, av.2, fun H3 s3 => ⟨_, rfl, iteF (next_go (go _ _ ⟨rfl, s2.trans s3⟩))⟩⟩

theorem law_all {fd : FuncData} (T : Txt K mg) (F : FnP K "law" s_law fd) (TB : ∀ p ∈ csL K, LamX.TabB base mg p.1 p.2) : FnOk P w K mg base CX0 14 (He.ga K "law") fd ["_law_script"] (sp_lawT K) := by
  have c_is_number := ok_is_number (P := P) (w := w) (K := K) (mg := mg) (base := base) T 
  have c_is_number_within := ok_is_number_within (P := P) (w := w) (K := K) (mg := mg) (base := base) T c_is_number
  have c_check_size := ok_check_size (P := P) (w := w) (K := K) (mg := mg) (base := base) T c_is_number_within
  have c_spot_of := ok_spot_of (P := P) (w := w) (K := K) (mg := mg) (base := base) T c_is_number
  have c_twice_triangle := ok_twice_triangle (P := P) (w := w) (K := K) (mg := mg) (base := base) T 
  have c_turn := ok_turn (P := P) (w := w) (K := K) (mg := mg) (base := base) T c_twice_triangle
  have c_is_slope := ok_is_slope (P := P) (w := w) (K := K) (mg := mg) (base := base) T c_is_number_within
  have c_fence_of := ok_fence_of (P := P) (w := w) (K := K) (mg := mg) (base := base) T c_is_number_within c_is_slope
  have c_check_fence := ok_check_fence (P := P) (w := w) (K := K) (mg := mg) (base := base) T c_fence_of
  have c_edges := ok_edges (P := P) (w := w) (K := K) (mg := mg) (base := base) T c_check_size
  have c_fences_and_edges := ok_fences_and_edges (P := P) (w := w) (K := K) (mg := mg) (base := base) T c_edges c_check_fence
  have c_reach := ok_reach (P := P) (w := w) (K := K) (mg := mg) (base := base) T 
  have c_meeting := ok_meeting (P := P) (w := w) (K := K) (mg := mg) (base := base) T c_spot_of
  have c_is_kept := ok_is_kept (P := P) (w := w) (K := K) (mg := mg) (base := base) T TB
  have c_kept_meetings := ok_kept_meetings (P := P) (w := w) (K := K) (mg := mg) (base := base) T c_meeting c_is_kept
  have c_is_ahead := ok_is_ahead (P := P) (w := w) (K := K) (mg := mg) (base := base) T 
  have c_lowest := ok_lowest (P := P) (w := w) (K := K) (mg := mg) (base := base) T c_is_ahead
  have c_many_on_the_right := ok_many_on_the_right (P := P) (w := w) (K := K) (mg := mg) (base := base) T c_turn
  have c_corners_between := ok_corners_between (P := P) (w := w) (K := K) (mg := mg) (base := base) T TB c_kept_meetings c_lowest c_many_on_the_right
  have c_corners := ok_corners (P := P) (w := w) (K := K) (mg := mg) (base := base) T c_fences_and_edges c_corners_between
  have c_twice_area := ok_twice_area (P := P) (w := w) (K := K) (mg := mg) (base := base) T c_corners
  have c_Ground_init := ok_Ground_init (P := P) (w := w) (K := K) (mg := mg) (base := base) T c_check_size
  have c_Ground_put := ok_Ground_put (P := P) (w := w) (K := K) (mg := mg) (base := base) T c_check_fence
  have c_Ground_take := ok_Ground_take (P := P) (w := w) (K := K) (mg := mg) (base := base) T c_is_number
  have c_Ground_standing := ok_Ground_standing (P := P) (w := w) (K := K) (mg := mg) (base := base) T 
  have c_Ground_numbered_fences := ok_Ground_numbered_fences (P := P) (w := w) (K := K) (mg := mg) (base := base) T 
  have c_Ground_corners := ok_Ground_corners (P := P) (w := w) (K := K) (mg := mg) (base := base) T c_fences_and_edges c_corners_between c_Ground_numbered_fences
  have c_Ground_area := ok_Ground_area (P := P) (w := w) (K := K) (mg := mg) (base := base) T c_twice_area c_Ground_numbered_fences
  have c_law_cell_at := ok_law_cell_at (P := P) (w := w) (K := K) (mg := mg) (base := base) T 
  have c_law_whole := ok_law_whole (P := P) (w := w) (K := K) (mg := mg) (base := base) T 
  have c_law_size_by := ok_law_size_by (P := P) (w := w) (K := K) (mg := mg) (base := base) T 
  have c_law_fence_by := ok_law_fence_by (P := P) (w := w) (K := K) (mg := mg) (base := base) T 
  have c_law_size_refused := ok_law_size_refused (P := P) (w := w) (K := K) (mg := mg) (base := base) T c_Ground_init
  have c_law_put := ok_law_put (P := P) (w := w) (K := K) (mg := mg) (base := base) T c_law_fence_by c_law_whole c_Ground_put
  have c_law_take := ok_law_take (P := P) (w := w) (K := K) (mg := mg) (base := base) T c_law_whole c_Ground_take
  have c_law_standing := ok_law_standing (P := P) (w := w) (K := K) (mg := mg) (base := base) T c_law_whole c_Ground_standing
  have c_law_ended := ok_law_ended (P := P) (w := w) (K := K) (mg := mg) (base := base) T c_corners c_twice_area c_Ground_corners c_Ground_area
  have c_law_again := ok_law_again (P := P) (w := w) (K := K) (mg := mg) (base := base) T c_law_fence_by c_law_standing c_law_ended c_Ground_corners c_Ground_take c_Ground_put
  exact ok_law T F c_law_cell_at c_law_size_by c_law_size_refused c_Ground_init c_Ground_standing c_law_put c_law_take c_law_standing c_law_ended c_law_again
end
def fnL : List He.DefD := [⟨("is_number", none), "is_number", "is_number", defArgs s_is_number, defBody s_is_number, defScope s_is_number, [], []⟩,
  ⟨("is_number_within", none), "is_number_within", "is_number_within", defArgs s_is_number_within, defBody s_is_number_within, defScope s_is_number_within, [], []⟩,
  ⟨("check_size", none), "check_size", "check_size", defArgs s_check_size, defBody s_check_size, defScope s_check_size, [], []⟩,
  ⟨("spot_of", none), "spot_of", "spot_of", defArgs s_spot_of, defBody s_spot_of, defScope s_spot_of, [], []⟩,
  ⟨("_twice_triangle", none), "_twice_triangle", "_twice_triangle", defArgs s_twice_triangle, defBody s_twice_triangle, defScope s_twice_triangle, [], []⟩,
  ⟨("turn", none), "turn", "turn", defArgs s_turn, defBody s_turn, defScope s_turn, [], []⟩,
  ⟨("_is_slope", none), "_is_slope", "_is_slope", defArgs s_is_slope, defBody s_is_slope, defScope s_is_slope, [], []⟩,
  ⟨("fence_of", none), "fence_of", "fence_of", defArgs s_fence_of, defBody s_fence_of, defScope s_fence_of, [], []⟩,
  ⟨("check_fence", none), "check_fence", "check_fence", defArgs s_check_fence, defBody s_check_fence, defScope s_check_fence, [], []⟩,
  ⟨("edges", none), "edges", "edges", defArgs s_edges, defBody s_edges, defScope s_edges, [], []⟩,
  ⟨("fences_and_edges", none), "fences_and_edges", "fences_and_edges", defArgs s_fences_and_edges, defBody s_fences_and_edges, defScope s_fences_and_edges, [], []⟩,
  ⟨("reach", none), "reach", "reach", defArgs s_reach, defBody s_reach, defScope s_reach, [], []⟩,
  ⟨("meeting", none), "meeting", "meeting", defArgs s_meeting, defBody s_meeting, defScope s_meeting, [], []⟩,
  ⟨("_is_kept", none), "_is_kept", "_is_kept", defArgs s_is_kept, defBody s_is_kept, defScope s_is_kept, [], []⟩,
  ⟨("_kept_meetings", none), "_kept_meetings", "_kept_meetings", defArgs s_kept_meetings, defBody s_kept_meetings, defScope s_kept_meetings, [], []⟩,
  ⟨("_is_ahead", none), "_is_ahead", "_is_ahead", defArgs s_is_ahead, defBody s_is_ahead, defScope s_is_ahead, [], []⟩,
  ⟨("_lowest", none), "_lowest", "_lowest", defArgs s_lowest, defBody s_lowest, defScope s_lowest, [], []⟩,
  ⟨("_many_on_the_right", none), "_many_on_the_right", "_many_on_the_right", defArgs s_many_on_the_right, defBody s_many_on_the_right, defScope s_many_on_the_right, [], []⟩,
  ⟨("corners_between", none), "corners_between", "corners_between", defArgs s_corners_between, defBody s_corners_between, defScope s_corners_between, [], []⟩,
  ⟨("corners", none), "corners", "corners", defArgs s_corners, defBody s_corners, defScope s_corners, [], []⟩,
  ⟨("twice_area", none), "twice_area", "twice_area", defArgs s_twice_area, defBody s_twice_area, defScope s_twice_area, [], []⟩,
  ⟨("Ground", some "__init__"), "__init__", "Ground.__init__", defArgs s_Ground_init, defBody s_Ground_init, defScope s_Ground_init, [], []⟩,
  ⟨("Ground", some "put"), "put", "Ground.put", defArgs s_Ground_put, defBody s_Ground_put, defScope s_Ground_put, [], []⟩,
  ⟨("Ground", some "take"), "take", "Ground.take", defArgs s_Ground_take, defBody s_Ground_take, defScope s_Ground_take, [], []⟩,
  ⟨("Ground", some "standing"), "standing", "Ground.standing", defArgs s_Ground_standing, defBody s_Ground_standing, defScope s_Ground_standing, [], []⟩,
  ⟨("Ground", some "_numbered_fences"), "_numbered_fences", "Ground._numbered_fences", defArgs s_Ground_numbered_fences, defBody s_Ground_numbered_fences, defScope s_Ground_numbered_fences, [], []⟩,
  ⟨("Ground", some "corners"), "corners", "Ground.corners", defArgs s_Ground_corners, defBody s_Ground_corners, defScope s_Ground_corners, [], []⟩,
  ⟨("Ground", some "area"), "area", "Ground.area", defArgs s_Ground_area, defBody s_Ground_area, defScope s_Ground_area, [], []⟩,
  ⟨("_law_cell_at", none), "_law_cell_at", "_law_cell_at", defArgs s_law_cell_at, defBody s_law_cell_at, defScope s_law_cell_at, [], []⟩,
  ⟨("_law_whole", none), "_law_whole", "_law_whole", defArgs s_law_whole, defBody s_law_whole, defScope s_law_whole, [], []⟩,
  ⟨("_law_size_by", none), "_law_size_by", "_law_size_by", defArgs s_law_size_by, defBody s_law_size_by, defScope s_law_size_by, [], []⟩,
  ⟨("_law_fence_by", none), "_law_fence_by", "_law_fence_by", defArgs s_law_fence_by, defBody s_law_fence_by, defScope s_law_fence_by, [], []⟩,
  ⟨("_law_names", none), "_law_names", "_law_names", defArgs s_law_names, defBody s_law_names, defScope s_law_names, [], []⟩,
  ⟨("_law_size_refused", none), "_law_size_refused", "_law_size_refused", defArgs s_law_size_refused, defBody s_law_size_refused, defScope s_law_size_refused, [], []⟩,
  ⟨("_law_put", none), "_law_put", "_law_put", defArgs s_law_put, defBody s_law_put, defScope s_law_put, [], []⟩,
  ⟨("_law_take", none), "_law_take", "_law_take", defArgs s_law_take, defBody s_law_take, defScope s_law_take, [], []⟩,
  ⟨("_law_standing", none), "_law_standing", "_law_standing", defArgs s_law_standing, defBody s_law_standing, defScope s_law_standing, [], []⟩,
  ⟨("_law_ended", none), "_law_ended", "_law_ended", defArgs s_law_ended, defBody s_law_ended, defScope s_law_ended, [], []⟩,
  ⟨("_law_again", none), "_law_again", "_law_again", defArgs s_law_again, defBody s_law_again, defScope s_law_again, [], []⟩,
  ⟨("law", none), "law", "law", defArgs s_law, defBody s_law, defScope s_law, [], []⟩]
def faL : List He.Fa := [.glo "is_number", .glo "is_number_within", .glo "check_size", .glo "spot_of", .glo "_twice_triangle", .glo "turn", .glo "_is_slope", .glo "fence_of", .glo "check_fence", .glo "edges", .glo "fences_and_edges", .glo "reach", .glo "meeting", .glo "_is_kept", .glo "_kept_meetings", .glo "_is_ahead", .glo "_lowest", .glo "_many_on_the_right", .glo "corners_between", .glo "corners", .glo "twice_area", .mkr "Ground", .meth "Ground" "put", .meth "Ground" "take", .meth "Ground" "standing", .meth "Ground" "_numbered_fences", .meth "Ground" "corners", .meth "Ground" "area", .glo "_law_cell_at", .glo "_law_whole", .glo "_law_size_by", .glo "_law_fence_by", .glo "_law_names", .glo "_law_size_refused", .glo "_law_put", .glo "_law_take", .glo "_law_standing", .glo "_law_ended", .glo "_law_again", .glo "law", .free "ValueError", .free "all", .free "bool", .free "int", .free "isinstance", .free "len", .free "list", .free "max", .free "min", .free "range", .free "sorted", .free "tuple", .free "zip", .int "MOST_FENCES" (16), .int "MOST_OFFSET" (1000000), .int "MOST_SIZE" (1000), .int "MOST_SLOPE" (1000), .glo "BadFence", .exc "BadFence", .glo "BadSize", .exc "BadSize", .glo "BadSpot", .exc "BadSpot", .glo "BadWay", .exc "BadWay", .glo "LandError", .exc "LandError", .glo "NoFence", .exc "NoFence", .glo "NoLand", .exc "NoLand", .glo "TooMany", .exc "TooMany", .exm "BadFence" "LandError" true, .exm "BadSize" "LandError" true, .exm "BadSpot" "LandError" true, .exm "NoFence" "LandError" true, .exm "TooMany" "LandError" true, .glo "Ground", .cls "Ground", .noat "Ground" "_coming", .noat "Ground" "_fences", .noat "Ground" "_size"]
def exL (K : PySem.W.Frag) : Bool := bltB K "gcd" "math.gcd" && (typB K "combinations" "itertools.combinations" && (decide (tabC K ≠ tabK K) && (kitsB K "BadFence" [("BadFence", true), ("BadSize", false), ("BadSpot", false), ("BadWay", false), ("NoFence", false), ("NoLand", false), ("TooMany", false)] && (kitsB K "BadSize" [("BadFence", false), ("BadSize", true), ("BadSpot", false), ("BadWay", false), ("NoFence", false), ("NoLand", false), ("TooMany", false)] && (kitsB K "BadSpot" [("BadFence", false), ("BadSize", false), ("BadSpot", true), ("BadWay", false), ("NoFence", false), ("NoLand", false), ("TooMany", false)] && (kitsB K "NoFence" [("BadFence", false), ("BadSize", false), ("BadSpot", false), ("BadWay", false), ("NoFence", true), ("NoLand", false), ("TooMany", false)] && (kitsB K "TooMany" [("BadFence", false), ("BadSize", false), ("BadSpot", false), ("BadWay", false), ("NoFence", false), ("NoLand", false), ("TooMany", true)])))))))
abbrev R : PySem.W.OpenRow := PySem.W.OpenLaw.row PySem.Challenge.rw_landlines_k09_a_ground_kept
abbrev hkL : PySem.W.Hook := He.hookX 4 faL fnL [] tfL exL
def obL (s : PySem.W.SharedT) : He.AlX := He.obsX 4 faL fnL [] tfL exL (HandSHeadRun.getT s)
theorem obL_eq (s : PySem.W.SharedT) : obL s = hkL.obs s.abs := He.obsX_eq (HandSHeadRun.getT_eq s)
def looseL : List Str := (["LandError", "BadSize", "BadFence", "TooMany", "BadSpot", "BadWay", "NoLand", "NoFence", "MOST_SIZE", "is_number", "is_number_within", "check_size", "spot_of", "turn", "_twice_triangle", "MOST_SLOPE", "MOST_OFFSET", "MOST_FENCES", "fence_of", "_is_slope", "check_fence", "edges", "fences_and_edges", "reach", "meeting", "corners", "corners_between", "_kept_meetings", "_is_kept", "_lowest"] : List Str) ++ (["_is_ahead", "_many_on_the_right", "twice_area", "Ground", "_law_cell_at", "_law_whole", "_law_size_by", "_law_fence_by", "_law_names", "_law_size_refused", "_law_put", "_law_take", "_law_standing", "_law_ended", "_law_again"] : List Str)
def vwL : Program := PySem.W.view R.prog [0, 1, 55]
theorem runL (w : World) : HandSHeadRun.RunEqI R vwL hkL obL 5360 looseL w := by
  unfold HandSHeadRun.RunEqI
  kernel_rfl
theorem factsL {w : World} {K : PySem.W.Frag} {h : Heap} {mg : Str → Option Value} (X : K.In h) (G : h.Ns mainGlobals mg) (z : He.SaysX faL fnL [] tfL exL w h K) : Txt K mg := by
  have c := z.t.d
  have m := z.more
  obtain ⟨x0, m⟩ := He.ba m
  obtain ⟨x1, m⟩ := He.ba m
  obtain ⟨x2, m⟩ := He.ba m
  obtain ⟨x3, m⟩ := He.ba m
  obtain ⟨x4, m⟩ := He.ba m
  obtain ⟨x5, m⟩ := He.ba m
  obtain ⟨x6, m⟩ := He.ba m
  have x7 := m
  exact {
    d_is_number := c.def_ 0 (d := ⟨("is_number", none), "is_number", "is_number", defArgs s_is_number, defBody s_is_number, defScope s_is_number, [], []⟩) rfl
    g_is_number := He.glo_ok X G (c.fact 0 rfl)
    d_is_number_within := c.def_ 1 (d := ⟨("is_number_within", none), "is_number_within", "is_number_within", defArgs s_is_number_within, defBody s_is_number_within, defScope s_is_number_within, [], []⟩) rfl
    g_is_number_within := He.glo_ok X G (c.fact 1 rfl)
    d_check_size := c.def_ 2 (d := ⟨("check_size", none), "check_size", "check_size", defArgs s_check_size, defBody s_check_size, defScope s_check_size, [], []⟩) rfl
    g_check_size := He.glo_ok X G (c.fact 2 rfl)
    d_spot_of := c.def_ 3 (d := ⟨("spot_of", none), "spot_of", "spot_of", defArgs s_spot_of, defBody s_spot_of, defScope s_spot_of, [], []⟩) rfl
    g_spot_of := He.glo_ok X G (c.fact 3 rfl)
    d_twice_triangle := c.def_ 4 (d := ⟨("_twice_triangle", none), "_twice_triangle", "_twice_triangle", defArgs s_twice_triangle, defBody s_twice_triangle, defScope s_twice_triangle, [], []⟩) rfl
    g_twice_triangle := He.glo_ok X G (c.fact 4 rfl)
    d_turn := c.def_ 5 (d := ⟨("turn", none), "turn", "turn", defArgs s_turn, defBody s_turn, defScope s_turn, [], []⟩) rfl
    g_turn := He.glo_ok X G (c.fact 5 rfl)
    d_is_slope := c.def_ 6 (d := ⟨("_is_slope", none), "_is_slope", "_is_slope", defArgs s_is_slope, defBody s_is_slope, defScope s_is_slope, [], []⟩) rfl
    g_is_slope := He.glo_ok X G (c.fact 6 rfl)
    d_fence_of := c.def_ 7 (d := ⟨("fence_of", none), "fence_of", "fence_of", defArgs s_fence_of, defBody s_fence_of, defScope s_fence_of, [], []⟩) rfl
    g_fence_of := He.glo_ok X G (c.fact 7 rfl)
    d_check_fence := c.def_ 8 (d := ⟨("check_fence", none), "check_fence", "check_fence", defArgs s_check_fence, defBody s_check_fence, defScope s_check_fence, [], []⟩) rfl
    g_check_fence := He.glo_ok X G (c.fact 8 rfl)
    d_edges := c.def_ 9 (d := ⟨("edges", none), "edges", "edges", defArgs s_edges, defBody s_edges, defScope s_edges, [], []⟩) rfl
    g_edges := He.glo_ok X G (c.fact 9 rfl)
    d_fences_and_edges := c.def_ 10 (d := ⟨("fences_and_edges", none), "fences_and_edges", "fences_and_edges", defArgs s_fences_and_edges, defBody s_fences_and_edges, defScope s_fences_and_edges, [], []⟩) rfl
    g_fences_and_edges := He.glo_ok X G (c.fact 10 rfl)
    d_reach := c.def_ 11 (d := ⟨("reach", none), "reach", "reach", defArgs s_reach, defBody s_reach, defScope s_reach, [], []⟩) rfl
    g_reach := He.glo_ok X G (c.fact 11 rfl)
    d_meeting := c.def_ 12 (d := ⟨("meeting", none), "meeting", "meeting", defArgs s_meeting, defBody s_meeting, defScope s_meeting, [], []⟩) rfl
    g_meeting := He.glo_ok X G (c.fact 12 rfl)
    d_is_kept := c.def_ 13 (d := ⟨("_is_kept", none), "_is_kept", "_is_kept", defArgs s_is_kept, defBody s_is_kept, defScope s_is_kept, [], []⟩) rfl
    g_is_kept := He.glo_ok X G (c.fact 13 rfl)
    d_kept_meetings := c.def_ 14 (d := ⟨("_kept_meetings", none), "_kept_meetings", "_kept_meetings", defArgs s_kept_meetings, defBody s_kept_meetings, defScope s_kept_meetings, [], []⟩) rfl
    g_kept_meetings := He.glo_ok X G (c.fact 14 rfl)
    d_is_ahead := c.def_ 15 (d := ⟨("_is_ahead", none), "_is_ahead", "_is_ahead", defArgs s_is_ahead, defBody s_is_ahead, defScope s_is_ahead, [], []⟩) rfl
    g_is_ahead := He.glo_ok X G (c.fact 15 rfl)
    d_lowest := c.def_ 16 (d := ⟨("_lowest", none), "_lowest", "_lowest", defArgs s_lowest, defBody s_lowest, defScope s_lowest, [], []⟩) rfl
    g_lowest := He.glo_ok X G (c.fact 16 rfl)
    d_many_on_the_right := c.def_ 17 (d := ⟨("_many_on_the_right", none), "_many_on_the_right", "_many_on_the_right", defArgs s_many_on_the_right, defBody s_many_on_the_right, defScope s_many_on_the_right, [], []⟩) rfl
    g_many_on_the_right := He.glo_ok X G (c.fact 17 rfl)
    d_corners_between := c.def_ 18 (d := ⟨("corners_between", none), "corners_between", "corners_between", defArgs s_corners_between, defBody s_corners_between, defScope s_corners_between, [], []⟩) rfl
    g_corners_between := He.glo_ok X G (c.fact 18 rfl)
    d_corners := c.def_ 19 (d := ⟨("corners", none), "corners", "corners", defArgs s_corners, defBody s_corners, defScope s_corners, [], []⟩) rfl
    g_corners := He.glo_ok X G (c.fact 19 rfl)
    d_twice_area := c.def_ 20 (d := ⟨("twice_area", none), "twice_area", "twice_area", defArgs s_twice_area, defBody s_twice_area, defScope s_twice_area, [], []⟩) rfl
    g_twice_area := He.glo_ok X G (c.fact 20 rfl)
    d_Ground_init := c.def_ 21 (d := ⟨("Ground", some "__init__"), "__init__", "Ground.__init__", defArgs s_Ground_init, defBody s_Ground_init, defScope s_Ground_init, [], []⟩) rfl
    mk_Ground := He.mkr_ok (c.fact 21 rfl)
    d_Ground_put := c.def_ 22 (d := ⟨("Ground", some "put"), "put", "Ground.put", defArgs s_Ground_put, defBody s_Ground_put, defScope s_Ground_put, [], []⟩) rfl
    me_Ground_put := He.meth_ok (c.fact 22 rfl)
    d_Ground_take := c.def_ 23 (d := ⟨("Ground", some "take"), "take", "Ground.take", defArgs s_Ground_take, defBody s_Ground_take, defScope s_Ground_take, [], []⟩) rfl
    me_Ground_take := He.meth_ok (c.fact 23 rfl)
    d_Ground_standing := c.def_ 24 (d := ⟨("Ground", some "standing"), "standing", "Ground.standing", defArgs s_Ground_standing, defBody s_Ground_standing, defScope s_Ground_standing, [], []⟩) rfl
    me_Ground_standing := He.meth_ok (c.fact 24 rfl)
    d_Ground_numbered_fences := c.def_ 25 (d := ⟨("Ground", some "_numbered_fences"), "_numbered_fences", "Ground._numbered_fences", defArgs s_Ground_numbered_fences, defBody s_Ground_numbered_fences, defScope s_Ground_numbered_fences, [], []⟩) rfl
    me_Ground_numbered_fences := He.meth_ok (c.fact 25 rfl)
    d_Ground_corners := c.def_ 26 (d := ⟨("Ground", some "corners"), "corners", "Ground.corners", defArgs s_Ground_corners, defBody s_Ground_corners, defScope s_Ground_corners, [], []⟩) rfl
    me_Ground_corners := He.meth_ok (c.fact 26 rfl)
    d_Ground_area := c.def_ 27 (d := ⟨("Ground", some "area"), "area", "Ground.area", defArgs s_Ground_area, defBody s_Ground_area, defScope s_Ground_area, [], []⟩) rfl
    me_Ground_area := He.meth_ok (c.fact 27 rfl)
    d_law_cell_at := c.def_ 28 (d := ⟨("_law_cell_at", none), "_law_cell_at", "_law_cell_at", defArgs s_law_cell_at, defBody s_law_cell_at, defScope s_law_cell_at, [], []⟩) rfl
    g_law_cell_at := He.glo_ok X G (c.fact 28 rfl)
    d_law_whole := c.def_ 29 (d := ⟨("_law_whole", none), "_law_whole", "_law_whole", defArgs s_law_whole, defBody s_law_whole, defScope s_law_whole, [], []⟩) rfl
    g_law_whole := He.glo_ok X G (c.fact 29 rfl)
    d_law_size_by := c.def_ 30 (d := ⟨("_law_size_by", none), "_law_size_by", "_law_size_by", defArgs s_law_size_by, defBody s_law_size_by, defScope s_law_size_by, [], []⟩) rfl
    g_law_size_by := He.glo_ok X G (c.fact 30 rfl)
    d_law_fence_by := c.def_ 31 (d := ⟨("_law_fence_by", none), "_law_fence_by", "_law_fence_by", defArgs s_law_fence_by, defBody s_law_fence_by, defScope s_law_fence_by, [], []⟩) rfl
    g_law_fence_by := He.glo_ok X G (c.fact 31 rfl)
    d_law_names := c.def_ 32 (d := ⟨("_law_names", none), "_law_names", "_law_names", defArgs s_law_names, defBody s_law_names, defScope s_law_names, [], []⟩) rfl
    g_law_names := He.glo_ok X G (c.fact 32 rfl)
    d_law_size_refused := c.def_ 33 (d := ⟨("_law_size_refused", none), "_law_size_refused", "_law_size_refused", defArgs s_law_size_refused, defBody s_law_size_refused, defScope s_law_size_refused, [], []⟩) rfl
    g_law_size_refused := He.glo_ok X G (c.fact 33 rfl)
    d_law_put := c.def_ 34 (d := ⟨("_law_put", none), "_law_put", "_law_put", defArgs s_law_put, defBody s_law_put, defScope s_law_put, [], []⟩) rfl
    g_law_put := He.glo_ok X G (c.fact 34 rfl)
    d_law_take := c.def_ 35 (d := ⟨("_law_take", none), "_law_take", "_law_take", defArgs s_law_take, defBody s_law_take, defScope s_law_take, [], []⟩) rfl
    g_law_take := He.glo_ok X G (c.fact 35 rfl)
    d_law_standing := c.def_ 36 (d := ⟨("_law_standing", none), "_law_standing", "_law_standing", defArgs s_law_standing, defBody s_law_standing, defScope s_law_standing, [], []⟩) rfl
    g_law_standing := He.glo_ok X G (c.fact 36 rfl)
    d_law_ended := c.def_ 37 (d := ⟨("_law_ended", none), "_law_ended", "_law_ended", defArgs s_law_ended, defBody s_law_ended, defScope s_law_ended, [], []⟩) rfl
    g_law_ended := He.glo_ok X G (c.fact 37 rfl)
    d_law_again := c.def_ 38 (d := ⟨("_law_again", none), "_law_again", "_law_again", defArgs s_law_again, defBody s_law_again, defScope s_law_again, [], []⟩) rfl
    g_law_again := He.glo_ok X G (c.fact 38 rfl)
    d_law := c.def_ 39 (d := ⟨("law", none), "law", "law", defArgs s_law, defBody s_law, defScope s_law, [], []⟩) rfl
    g_law := He.glo_ok X G (c.fact 39 rfl)
    g_Ground := He.glo_ok X G (c.fact 78 rfl)
    cl_Ground := He.cls_ok (c.fact 79 rfl)
    no_coming := He.noat_ok (c.fact 80 rfl)
    no_fences := He.noat_ok (c.fact 81 rfl)
    no_size := He.noat_ok (c.fact 82 rfl)
    m_ValueError := He.free_ok X G (c.fact 40 rfl)
    m_all := He.free_ok X G (c.fact 41 rfl)
    m_bool := He.free_ok X G (c.fact 42 rfl)
    m_int := He.free_ok X G (c.fact 43 rfl)
    m_isinstance := He.free_ok X G (c.fact 44 rfl)
    m_len := He.free_ok X G (c.fact 45 rfl)
    m_list := He.free_ok X G (c.fact 46 rfl)
    m_max := He.free_ok X G (c.fact 47 rfl)
    m_min := He.free_ok X G (c.fact 48 rfl)
    m_range := He.free_ok X G (c.fact 49 rfl)
    m_sorted := He.free_ok X G (c.fact 50 rfl)
    m_tuple := He.free_ok X G (c.fact 51 rfl)
    m_zip := He.free_ok X G (c.fact 52 rfl)
    c_MOST_FENCES := He.int_ok X G (c.fact 53 rfl)
    c_MOST_OFFSET := He.int_ok X G (c.fact 54 rfl)
    c_MOST_SIZE := He.int_ok X G (c.fact 55 rfl)
    c_MOST_SLOPE := He.int_ok X G (c.fact 56 rfl)
    BadFence := ExcF.mk' X G (c.fact 57 rfl) (c.fact 58 rfl)
    BadSize := ExcF.mk' X G (c.fact 59 rfl) (c.fact 60 rfl)
    BadSpot := ExcF.mk' X G (c.fact 61 rfl) (c.fact 62 rfl)
    BadWay := ExcF.mk' X G (c.fact 63 rfl) (c.fact 64 rfl)
    LandError := ExcF.mk' X G (c.fact 65 rfl) (c.fact 66 rfl)
    NoFence := ExcF.mk' X G (c.fact 67 rfl) (c.fact 68 rfl)
    NoLand := ExcF.mk' X G (c.fact 69 rfl) (c.fact 70 rfl)
    TooMany := ExcF.mk' X G (c.fact 71 rfl) (c.fact 72 rfl)
    gcd := bltB_ok X G x0
    comb := typB_ok X G x1
    tabs := of_decide_eq_true x2
    ex_BadFence_LandError := He.exm_ok (c.fact 73 rfl)
    kit_BadFence := KitsF.mk' x3
    ex_BadSize_LandError := He.exm_ok (c.fact 74 rfl)
    kit_BadSize := KitsF.mk' x4
    ex_BadSpot_LandError := He.exm_ok (c.fact 75 rfl)
    kit_BadSpot := KitsF.mk' x5
    ex_NoFence_LandError := He.exm_ok (c.fact 76 rfl)
    kit_NoFence := KitsF.mk' x6
    ex_TooMany_LandError := He.exm_ok (c.fact 77 rfl)
    kit_TooMany := KitsF.mk' x7
  }
end LL
open PySem PySem.W PySem.Calls PyProof.Rows
theorem PySem.Challenge.cw_landlines_k09_a_ground_kept_holds : PySem.Challenge.rw_landlines_k09_a_ground_kept.Holds := by
  w_on; o_law
  refine HandSHeadRun.head_imp (r := OpenLaw.row PySem.Challenge.rw_landlines_k09_a_ground_kept) (q := LL.vwL) (H := LL.hkL) (ob := LL.obL) (M := 5360) (loose := LL.looseL) (d := HandSHeadRun.topDef (OpenLaw.row PySem.Challenge.rw_landlines_k09_a_ground_kept).prog 55) (kwd := []) LL.obL_eq
    LL.runL (by kernel_rfl) (by kernel_rfl) (by kernel_rfl) (by rfl) (by first | assumption | decide +kernel) (by decide +kernel) ⟨rfl, rfl, rfl, rfl, rfl, by decide +kernel⟩ ?hw ?hc
  case hw => w_witness2
  case hc =>
    refine LamX.walk_ofTsE (l := PySem.Challenge.rw_landlines_k09_a_ground_kept) (n := 63) (k := 14) (x := "_law_script") (CX := fun _ => L2.CX0) rfl (by decide) (by kernel_rfl) ⟨rfl, by decide, by decide⟩ ?F (fun _ _ _ _ _ z => z)
    intro w mg fa h Y G hmg0
    obtain ⟨K, KX, c⟩ := Y
    have hmg : mg ("law" : PySem.Str) = some (.ref fa) := by
      have e : (HandSHeadRun.topDef (OpenLaw.row PySem.Challenge.rw_landlines_k09_a_ground_kept).prog 55).name = ("law" : PySem.Str) := by kernel_rfl
      rw [← e]
      exact hmg0
    have T := LL.factsL KX G c
    have e := hmg.symm.trans T.g_law
    cases e
    obtain ⟨fd, F⟩ := T.d_law
    have b := L2.FunD.bindsA (ps := ["_law_script"]) F fun _ _ _ _ _ _ us hl => match us, hl with | [_], _ => rfl
    have of : ∀ {q : PySem.Addr × PySem.Addr}, q ∈ LL.csL K → ∃ x ∈ LL.tfL, He.cT K x = q := fun hq => List.mem_map.mp hq
    refine ⟨K, KX, fd, LL.csL K, LL.sp_law0 K, fun q hq => ?_, fun q hq => ?_, fun q hq => ?_, fun s v => b s [v] rfl, fun H a ns hl _ hT hS => ⟨a, ns, rfl, hS, hl, hT (He.cT K ("_is_kept", none)) List.mem_cons_self, hT (He.cT K ("corners_between", none)) (List.mem_cons_of_mem _ List.mem_cons_self), fun _ => rfl⟩, fun base _ _ TB => LL.fnok_tabs T.tabs (LL.law_all T F TB)⟩
    · obtain ⟨x, hx, rfl⟩ := of hq
      exact c.empty x hx
    · obtain ⟨x, hx, rfl⟩ := of hq
      exact c.out x hx
    · obtain ⟨x, hx, rfl⟩ := of hq
      exact PySem.W.codeHd_of_K KX (c.hd x hx)
