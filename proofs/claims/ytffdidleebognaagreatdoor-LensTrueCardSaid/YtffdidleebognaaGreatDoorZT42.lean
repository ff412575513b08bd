/- Contracts of layer 1, as runs use them. -/
import Derived.Test.YtffdidleebognaaGreatDoorZT11
import Derived.Test.YtffdidleebognaaGreatDoorZT13
import Derived.Test.YtffdidleebognaaGreatDoorZT19
import Derived.Test.YtffdidleebognaaGreatDoorZT21
import Derived.Test.YtffdidleebognaaGreatDoorZT27
import Derived.Test.YtffdidleebognaaGreatDoorZT28
import Derived.Test.YtffdidleebognaaGreatDoorZT32
import Derived.Test.YtffdidleebognaaGreatDoorZT41
import Derived.Test.YtffdidleebognaaGreatDoorZT07
namespace Go.Proofs.YtffdidleebognaaGreatDoor
open Go Go.CE Go.RowKit Lens
theorem atN_of_or {α : Type} {sz : Nat} {enc : α → Nat → Value} {μ : Mu} {w : World} {im : Img} {f : Nat → α} {e : Nat → List Value} {n : Nat} {t : TypeId} {fz : Nat × Nat} (h : OR μ w im (.cells (rowA e n) t fz)) (hlt : im.blk < w.heap.size)
    (hlen : ∀ k, (e k).length = sz) (he : ∀ k j, j < sz → (e k)[j]? = some (enc (f k) j) ∧ af (enc (f k) j) = true) : AtN sz enc w w.heap.size (some ⟨im.blk, im.off, none⟩) n f := by
  intro _
  refine ⟨im.blk, im.off, rfl, hlt, fun k hk j hj => ?_⟩
  have hv := (rowA_get hlen hj n k hk).trans (he k j hj).1
  obtain ⟨v', h1, h2⟩ := h.cell hv
  rw [Nat.add_assoc, h1, af_eq (he k j hj).2 h2]
section
variable {i : Isl} {wa : Option Addr} {wc : Nat} {ma : Option Addr} {mc : Nat} {tanks : Int} {t : Tru} {da : Option Addr} {dc : Nat} {ra : Option Addr} {rc : Nat} {na : Option Addr} {nc : Nat} {w : World} {n : Nat}
abbrev islR (i : Isl) (wa : Option Addr) (wc : Nat) (ma : Option Addr) (mc : Nat) : Value := .agg (islC i (rawS wa i.nw wc) (rawS ma i.nm mc))
abbrev truR (t : Tru) (da : Option Addr) (dc : Nat) (ra : Option Addr) (rc : Nat) (na : Option Addr) (nc : Nat) : Value := .agg (truC t (rawS da t.nd dc) (rawS ra t.nr rc) (rawS na t.nn nc))
theorem ex_it : ExL [islR i wa wc ma mc, .int .i64 tanks, truR t da dc ra rc na nc] [islV i wa wc ma mc, .int .i64 tanks, truV t da dc ra rc na nc] := .cons (exact_isl _ _ _ _ _) (.cons (exact_af rfl) (.cons (exact_tru _ _ _ _ _ _ _) .nil))
theorem con_short : CJ Tryz.prog (worldLo w) 18 #[islR i wa wc ma mc] [] n (.bool (shortB i)) [] n [] :=
  con_of (.cons (exact_isl _ _ _ _ _) .nil) (exact_af rfl) fun w' _ => short_any i wa wc ma mc w'
theorem con_sized : CJ Tryz.prog (worldLo w) 19 #[truR t da dc ra rc na nc] [] n (.bool (sizedB t)) [] n [] :=
  con_of (.cons (exact_tru _ _ _ _ _ _ _) .nil) (exact_af rfl) fun w' _ => sized_any t da dc ra rc na nc w'
theorem con_asked (hi : IslAt w w.heap.size i wa ma) : CJ Tryz.prog (worldLo w) 15 #[islR i wa wc ma mc, .int .i64 tanks] [] n (.bool (islB i && tanksB tanks)) [] n [] :=
  con_of (.cons (exact_isl _ _ _ _ _) (.cons (exact_af rfl) .nil)) (exact_af rfl) fun w' hw => asked_any i wa wc ma mc tanks w' (islAt_lo hi hw)
theorem con_truth (hi : IslAt w w.heap.size i wa ma) (ht : TruAt w w.heap.size t da ra na) (h1 : 0 ≤ i.most) (h2 : 0 ≤ i.row) : CJ Tryz.prog (worldLo w) 21 #[islR i wa wc ma mc, truR t da dc ra rc na nc] [] n (.bool (truB i t)) [] n [] :=
  con_of (.cons (exact_isl _ _ _ _ _) (.cons (exact_tru _ _ _ _ _ _ _) .nil)) (exact_af rfl) fun w' hw => rTruth_any i wa wc ma mc t da dc ra rc na nc w' (islAt_lo hi hw) (truAt_lo ht hw) h1 h2
def seenE (i : Isl) (tanks : Int) (t : Tru) (k : Nat) : List Value := [.int .i64 (runTo i tanks t (k + 1)).tanks, .int .i64 (runTo i tanks t (k + 1)).lens, .int .i64 (runTo i tanks t (k + 1)).lack]
theorem seenE_af : ∀ v ∈ rowA (seenE i tanks t) n, af v = true := rowA_mem n fun j _ v hv => by
  simp only [seenE, List.mem_cons, List.not_mem_nil, or_false] at hv
  rcases hv with rfl | rfl | rfl <;> rfl
theorem seenE_get (k j : Nat) (hj : j < 3) : (seenE i tanks t k)[j]? = some (encSeen (seenOf (runTo i tanks t (k + 1))) j) ∧ af (encSeen (seenOf (runTo i tanks t (k + 1))) j) = true := by
  match j, hj with
  | 0, _ => exact ⟨rfl, rfl⟩
  | 1, _ => exact ⟨rfl, rfl⟩
  | 2, _ => exact ⟨rfl, rfl⟩
theorem seens_cells {w' : World} {g : Nat} (h : SeensAt w' w'.heap.size (some ⟨g, 0, none⟩) n (fun k => seenOf (runTo i tanks t (k + 1)))) : ∀ (j : Nat) v, (rowA (seenE i tanks t) n)[j]? = some v → w'.cell? ⟨g, j, none⟩ = some v := by
  intro j v hv
  have hs := rowA_size (e := seenE i tanks t) (z := 3) (fun _ => rfl) n
  have hlt : j < n * 3 := by rw [← hs]; exact (Array.getElem?_eq_some_iff.1 hv).1
  obtain ⟨b, off, he, _, hc⟩ := h (by omega)
  cases he
  have hj := hc (j / 3) (by omega) (j % 3) (by omega)
  have hd : j / 3 * 3 + j % 3 = j := by omega
  have hg := rowA_get (e := seenE i tanks t) (z := 3) (fun _ => rfl) (show j % 3 < 3 by omega) n (j / 3) (by omega)
  rw [hd, hv] at hg
  rw [Nat.zero_add, hd] at hj
  rw [hj, hg, (seenE_get (j / 3) (j % 3) (by omega)).1]
theorem con_play (hi : IslAt w w.heap.size i wa ma) (ht : TruAt w w.heap.size t da ra na) (h1 : islB i = true) (h2 : tanksB tanks = true) (h3 : truB i t = true) :
    CJ Tryz.prog (worldLo w) 20 #[islR i wa wc ma mc, .int .i64 tanks, truR t da dc ra rc na nc] [] n (.tuple #[.slice (some ⟨n, 0, none⟩) i.nm 0, .agg #[.int .i64 (i.size * tanks + t.start), .int .i64 (runTo i tanks t i.nm).rain, .int .i64 (runTo i tanks t i.nm).used, .int .i64 (runTo i tanks t i.nm).leak, .int .i64 (runTo i tanks t i.nm).sea, .int .i64 ((runTo i tanks t i.nm).tanks + (runTo i tanks t i.nm).lens)], .int .i64 0])
      [(n, .cells (rowA (seenE i tanks t) i.nm) 53 (1, 1))] (n + 1) [] :=
  con_row (u' := [.agg #[.int .i64 (i.size * tanks + t.start), .int .i64 (runTo i tanks t i.nm).rain, .int .i64 (runTo i tanks t i.nm).used, .int .i64 (runTo i tanks t i.nm).leak, .int .i64 (runTo i tanks t i.nm).sea, .int .i64 ((runTo i tanks t i.nm).tanks + (runTo i tanks t i.nm).lens)], .int .i64 0]) ex_it
    (.cons (exact_af (by kernel_rfl)) (.cons (exact_af rfl) .nil)) seenE_af fun w' hw => by
    have h1' := islAt_lo hi hw
    refine (play_at i wa wc ma mc tanks t da dc ra rc na nc w' h1' (truAt_lo ht hw) h1 h2 h3).mono fun e w'' ⟨⟨g, he, hs, hg⟩, hb⟩ => ⟨⟨g, i.nm, hg, ?_, Nat.le_refl _, hi.nm, he, seens_cells hs⟩, hb⟩
    have hnm : 1 ≤ i.nm := by
      simp only [islB, monthsB, Bool.and_eq_true, isInB_iff] at h1
      omega
    obtain ⟨b, off, he, hlt, _⟩ := hs (by omega)
    cases he
    exact hlt
theorem con_known (hp : CE.pow10Is w) : CJ Tryz.prog (worldLo w) 11 #[] [] n (.bool true) [] n [] :=
  con_of (l := []) (l' := []) .nil (exact_af rfl) fun _ hw => CE.known_true (CE.pow10_still (hw.inv 0 (CE.pow10_pos hp)) hp)
end
end Go.Proofs.YtffdidleebognaaGreatDoor

namespace Go.Proofs.YtffdidleebognaaGreatDoor
open Go Go.CE Go.Proofs Go.RowKit Lens
theorem row_piece {e : Nat → List Value} {z n m off c : Nat} {x : List Value} (h : ∀ k, (e k).length = z) (hm : m < n) (hc : off + c ≤ z) (hx : x.length = c) (hg : ∀ j, j < c → (e m)[off + j]? = x[j]?) : 0 + m * z + off + c ≤ (rowA e n).size ∧ (rowA e n).extract (0 + m * z + off) (0 + m * z + off + c) = x.toArray := by
  have hs := rowA_size h n
  have hle : m * z + z ≤ n * z := by
    rw [← Nat.succ_mul]; exact Nat.mul_le_mul_right _ hm
  have h0 : 0 + m * z + off + c ≤ (rowA e n).size := by rw [hs]; omega
  refine ⟨h0, Array.ext (by simp [hx]; omega) fun j q1 q2 => ?_⟩
  have hj : j < c := by simpa [hx] using q2
  have h3 : 0 + m * z + off + j < (rowA e n).size := by omega
  rw [Array.getElem_extract]
  have a := rowA_get h (show off + j < z by omega) n m hm
  have b := hg j hj
  have e1 : (rowA e n)[0 + m * z + off + j]? = some (rowA e n)[0 + m * z + off + j] := by simp
  rw [show m * z + (off + j) = 0 + m * z + off + j by omega, e1, b] at a
  have hj' : j < x.length := by omega
  have e2 : x[j]? = some x[j] := by simp [hj']
  rw [e2] at a
  simpa using a
theorem con_inside {w : World} {n : Nat} {x lo hi : Int} (h : lo ≤ x) (k : x ≤ hi) : CJ Tryz.prog (worldLo w) 24 #[.int .i64 x, .agg #[.int .i64 lo, .int .i64 hi]] [] n (.bool true) [] n [] :=
  con_of (l := [.int .i64 x, .agg #[.int .i64 lo, .int .i64 hi]]) (l' := [.int .i64 x, .agg #[.int .i64 lo, .int .i64 hi]]) (.cons (exact_af rfl) (.cons (exact_agg (.cons (exact_af rfl) (.cons (exact_af rfl) .nil))) .nil)) (exact_af rfl) fun w' _ => by
    have := rInside_any x lo hi w'
    rw [isInB_iff.2 ⟨h, k⟩] at this
    exact this
theorem lt_ret {B : Lo} {f : FuncId} {len : Nat} {w : World} {i : Isl} {wa : Option Addr} {wc : Nat} {ma : Option Addr} {mc : Nat} {tanks : Int} {t : Tru} {da : Option Addr} {dc : Nat} {ra : Option Addr} {rc : Nat} {na : Option Addr} {nc : Nat} {c : CF} {H : Heap} {n fuel n' : Nat} {sc : Script} {L : List Prop} {W : List Nat}
    (hc : enterC Tryz.prog f #[islR i wa wc ma mc, .int .i64 tanks, truR t da dc ra rc na nc] = some (entryC Tryz.prog f len [islR i wa wc ma mc, .int .i64 tanks, truR t da dc ra rc na nc]))
    (hg : GoE Tryz.prog B (entryC Tryz.prog f len [islR i wa wc ma mc, .int .i64 tanks, truR t da dc ra rc na nc]) [] 0 c H n W)
    (e : ended (srun Tryz.prog goFns B fuel 0 c H n sc 0 [] []) [] = some ⟨.ret (.bool true), [], n', L⟩) (hL : AllP L) (hB : B.has w) :
    Calls Tryz.prog f #[islV i wa wc ma mc, .int .i64 tanks, truV t da dc ra rc na nc] w fun e' w' => e' = .returned (.bool true) ∧ Below w.heap.size w w' :=
  (hg.calls goFns_ok mixed_ok hc e hL hB (VRl.vrs' ex_it.vrl)).mono fun _ _ ⟨v', _, he, hv, hb, _⟩ => ⟨by rw [he, af_eq (v := .bool true) rfl hv], hb⟩
end Go.Proofs.YtffdidleebognaaGreatDoor

namespace Lens
def lohi (much : Bool) (lo hi : Int) : Int := if much then hi else lo
/-- The truth of a drought in which water is scarcest, or in which there is most. -/
def endTru (i : Isl) (much : Bool) (nd : Nat) (d : Nat → Bool) : Tru :=
  { start := lohi much i.sl i.sh, soak := lohi much i.kl i.kh, leak := lohi (!much) i.ll i.lh, nd := nd, dry := d,
    nr := i.nm, rains := fun k => lohi much (rlo (i.months k) (d k)) (rhi (i.months k) (d k)), nn := i.nm, needs := fun k => lohi (!much) (i.months k).nl (i.months k).nh }
/-- The drought that a number's bits tell, the first month being the highest. -/
def bitsDry (n bits k : Nat) : Bool := bits.testBit (n - 1 - k)
end Lens

namespace Lens
theorem leak_mono {b b' l l' : Int} (h0 : 0 ≤ b) (hb : b ≤ b') (_hl0 : 0 ≤ l') (hl : l' ≤ l) (h1 : l ≤ 1000) : b - b * l / 1000 ≤ b' - b' * l' / 1000 := by
  have p1 : b' * l' ≤ b' * l := Int.mul_le_mul_of_nonneg_left hl (by omega)
  have p2 : (b' - b) * l ≤ (b' - b) * 1000 := Int.mul_le_mul_of_nonneg_left h1 (by omega)
  have p3 : (b' - b) * l = b' * l - b * l := Int.sub_mul _ _ _
  generalize b' * l' = x at *
  generalize b' * l = y at *
  generalize b * l = z at *
  omega
theorem min_mono {x x' f a a' : Int} (h : x ≤ x') (e : (if x < f then x else f) = a) (e' : (if x' < f then x' else f) = a') : a ≤ a' := by
  split at e <;> split at e' <;> omega
/-- What is left of tanks, and what is still wanted. -/
theorem take_mono {a a' n n' T T' : Int} (ha : a ≤ a') (hn : n' ≤ n) (e : (if n < a then n else a) = T) (e' : (if n' < a' then n' else a') = T') : a - T ≤ a' - T' ∧ n' - T' ≤ n - T := by
  split at e <;> split at e' <;> omega
theorem pump_mono {c c' r r' p k M M' U U' : Int} (hc : c ≤ c') (hr : r' ≤ r) (hr0 : 0 ≤ r') (hp : 0 ≤ p) (eM : (if k < c then c - k else 0) = M) (eM' : (if k < c' then c' - k else 0) = M')
    (e : (if M < (if p < r then p else r) then M else (if p < r then p else r)) = U) (e' : (if M' < (if p < r' then p else r') then M' else (if p < r' then p else r')) = U') : c - U ≤ c' - U' ∧ r' - U' ≤ r - U := by
  obtain ⟨q, hq⟩ : ∃ x, (if p < r then p else r) = x := ⟨_, rfl⟩
  obtain ⟨q', hq'⟩ : ∃ x, (if p < r' then p else r') = x := ⟨_, rfl⟩
  rw [hq] at e
  rw [hq'] at e'
  have h1 : q ≤ p ∧ q ≤ r ∧ (q = p ∨ q = r) := by split at hq <;> omega
  have h2 : q' ≤ p ∧ q' ≤ r' ∧ (q' = p ∨ q' = r') := by split at hq' <;> omega
  have h3 : 0 ≤ M ∧ c - k ≤ M ∧ (M = 0 ∨ M = c - k) := by split at eM <;> omega
  have h4 : 0 ≤ M' ∧ c' - k ≤ M' ∧ (M' = 0 ∨ M' = c' - k) := by split at eM' <;> omega
  have h5 : U ≤ M ∧ U ≤ q ∧ (U = M ∨ U = q) := by split at e <;> omega
  have h6 : U' ≤ M' ∧ U' ≤ q' ∧ (U' = M' ∨ U' = q') := by split at e' <;> omega
  clear hq hq' eM eM' e e'
  omega
/-- A state with less water than another one. -/
structure Less (s s' : St) : Prop where
  tanks : s.tanks ≤ s'.tanks
  lens : s.lens ≤ s'.lens
  lack : s'.lack ≤ s.lack
/-- A truth with less water than another one, in the first n months. -/
structure LessT (n : Nat) (t t' : Tru) : Prop where
  start : t.start ≤ t'.start
  soak : t.soak ≤ t'.soak
  leak : t'.leak ≤ t.leak
  rains : ∀ k, k < n → t.rains k ≤ t'.rains k
  needs : ∀ k, k < n → t'.needs k ≤ t.needs k
theorem step_mono {i : Isl} {tanks : Int} {t t' : Tru} (h : Fit i tanks t) (h' : Fit i tanks t') (hl : LessT i.nm t t') {k : Nat} (hk : k < i.nm) {s s' : St} (hs : StOk i (i.size * tanks) k s) (hs' : StOk i (i.size * tanks) k s') (ht : s.tanks ≤ s'.tanks) (hle : s.lens ≤ s'.lens) :
    Less (stepSt i (i.size * tanks) t k s) (stepSt i (i.size * tanks) t' k s') := by
  obtain ⟨r1, r2, a, b, g, T, M, U, p⟩ := parts h hk hs
  obtain ⟨r1', r2', a', b', g', T', M', U', p'⟩ := parts h' hk hs'
  have hr := hl.rains k hk
  have hn := hl.needs k hk
  have q0 := (h.rain k hk).1
  have q1 := (h'.rain k hk).1
  have x1 : r1 ≤ r1' := by
    rw [← p.e1, ← p'.e1]
    exact Int.ediv_le_ediv (by decide) (Int.mul_le_mul_of_nonneg_left hr h.roof0)
  have x2 : r2 ≤ r2' := by
    rw [← p.e2, ← p'.e2]
    exact Int.ediv_le_ediv (by decide) (Int.mul_le_mul (Int.mul_le_mul_of_nonneg_left hr h.sand0) hl.soak h.soak0 (Int.mul_nonneg h.sand0 q1))
  have ha : a ≤ a' := min_mono (by omega) p.ea p'.ea
  have hb : b ≤ b' := min_mono (by omega) p.eb p'.eb
  have hc : b - g ≤ b' - g' := by
    rw [← p.eg, ← p'.eg]
    exact leak_mono p.b0 hb h'.leak0 hl.leak h.leak1
  obtain ⟨y1, y2⟩ := take_mono ha hn p.eT p'.eT
  obtain ⟨z1, z2⟩ := pump_mono hc y2 (by have := p'.T1; omega) h.pump0 p.eM' p'.eM' p.eU p'.eU
  rw [p.out, p'.out]
  exact ⟨y1, z1, z2⟩
theorem run_mono {i : Isl} {tanks : Int} {t t' : Tru} (h : Fit i tanks t) (h' : Fit i tanks t') (hl : LessT i.nm t t') : ∀ k, k ≤ i.nm → Less (runTo i tanks t k) (runTo i tanks t' k)
  | 0, _ => ⟨Int.le_refl _, hl.start, Int.le_refl _⟩
  | k + 1, hk => by
    have ih := run_mono h h' hl k (by omega)
    exact step_mono h h' hl (by omega) (runTo_ok h (by omega)) (runTo_ok h' (by omega)) ih.tanks ih.lens
end Lens
