/- CE: what single operations do. Fifth part: append, literals. -/
import Derived.Deep.AppendSrc
import Derived.Test.YtiaaikkmipmhnaaGreatDoorZCS01
set_option linter.all false
namespace Go.CE
open Go Go.RowKit

def killo (H : Heap) : Option Nat → Heap
  | none => H
  | some k => hset H k (.pending #[] 0)
theorem hget_killo (H : Heap) (ko : Option Nat) (i : Nat) : hget (killo H ko) i = if (∃ k, ko = some k ∧ i = k) ∧ (hget H i).isSome then some (.pending #[] 0) else hget H i := by
  cases ko with
  | none => simp [killo]
  | some k =>
    simp only [killo, hget_hset]
    by_cases e : i = k
    · subst e; simp
    · simp [e]
theorem killo_live {H : Heap} {ko : Option Nat} {i : Nat} {o : Obj} (h : hget (killo H ko) i = some o) (hl : live o) : hget H i = some o ∧ ∀ k, ko = some k → i ≠ k := by
  rw [hget_killo] at h
  split at h
  · cases h; exact hl.elim
  · rename_i hn
    refine ⟨h, fun k hk e => hn ⟨⟨k, hk, e⟩, by rw [h]; rfl⟩⟩
theorem post_growO {B : Nat} {S : Nat → Prop} {n : Nat} {μ : Mu} {H : Heap} {w w' : World} (hok : Ok B S μ (hget H) w) (hS : ∀ i, S i → i < n) (hf : μ n = none) (ko : Option Nat)
    (hk : ∀ k, ko = some k → S k ∧ (∃ o, hget H k = some o ∧ live o) ∧ ∃ im, μ k = some im ∧ im.rw = true) (g off cap : Nat) (o2 : Obj) (hB : B ≤ g) (hlt : g < w'.heap.size)
    (hg : w.heap.size ≤ g ∨ ∃ k im, ko = some k ∧ μ k = some im ∧ im.blk = g) (hgrow : w.heap.size ≤ w'.heap.size)
    (hother : ∀ b, b < w.heap.size → (∀ k im, ko = some k → μ k = some im → im.blk ≠ b) → w'.heap[b]? = w.heap[b]?) (hor : OR (upd μ n ⟨g, off, cap, true, nofm⟩) w' ⟨g, off, cap, true, nofm⟩ o2)
    (hstr : w'.os = w.os ∧ w'.tape = w.tape ∧ w'.output = w.output) : Post B S n (n + 1) ko.toList μ (upd μ n ⟨g, off, cap, true, nofm⟩) H ((n, o2) :: killo H ko) w w' := by
  have hne : ∀ i, S i → i ≠ n := fun i hi => by have := hS i hi; omega
  have hmu : ∀ i, S i → upd μ n ⟨g, off, cap, true, nofm⟩ i = μ i := fun i hi => by simp [upd, hne i hi]
  have hgt : ∀ i, S i → hget ((n, o2) :: killo H ko) i = hget (killo H ko) i := fun i hi => by rw [hget_cons, if_neg (hne i hi)]
  have hgn : hget ((n, o2) :: killo H ko) n = some o2 := by rw [hget_cons, if_pos rfl]
  have apart : ∀ i x a, S i → hget H i = some x → live x → μ i = some a → (∀ k, ko = some k → i ≠ k) → a.blk ≠ g ∧ ∀ k im, ko = some k → μ k = some im → im.blk ≠ a.blk := by
    intro i x a hi hx hl ha hik
    have hlow := hok.low i x a hi hx hl ha
    have hko : ∀ k im, ko = some k → μ k = some im → im.blk ≠ a.blk := by
      intro k im e him
      obtain ⟨hSk, ⟨ok, hok', hlk⟩, im', him', hr⟩ := hk k e
      rw [him] at him'; cases him'
      by_cases hra : a.rw = true
      · exact hok.inj k i ok x im a hSk hi (Ne.symm (hik k e)) hok' hx hlk hl him ha hr hra
      · have h1 := hlow.2.2 (by simpa using hra)
        have h2 := (hok.low k ok im hSk hok' hlk him).2.1 hr
        omega
    refine ⟨?_, hko⟩
    rcases hg with hg | ⟨k, im, e, him, hb⟩
    · have := hlow.1; omega
    · have := hko k im e him; omega
  refine ⟨⟨fun i x hi hx hl => ?_, fun i x im hi hx hl hm => ?_, fun i j x y a b hi hj hij hx hy hlx hly ha hb hra hrb => ?_, fun i x hi hx hr => ?_, fun i j x y a b u hi hj hx hy hrx hly ha hb hrb hu => ?_⟩, by omega, fun i hi => ?_, fun i hi hw => ?_, hgrow, fun b hb hw => ?_, fun i hi hn => ?_,
    fun i im x h1 h2 hx hl hm => ?_, fun i im x hi hx hr => ?_, hstr.1, hstr.2.1, hstr.2.2⟩
  · rcases hi with hi | hi
    · rw [hgt i hi] at hx
      obtain ⟨hx, hik⟩ := killo_live hx hl
      obtain ⟨im, him, hr⟩ := hok.rel i x hi hx hl
      exact ⟨im, by rw [hmu i hi]; exact him, hr.keep (upd_ext hf) (hother _ (hok.low i x im hi hx hl him).1 (apart i x im hi hx hl him hik).2)⟩
    · obtain rfl : i = n := by omega
      rw [hgn] at hx; cases hx
      exact ⟨_, upd_self, hor⟩
  · rcases hi with hi | hi
    · rw [hgt i hi] at hx
      obtain ⟨hx, hik⟩ := killo_live hx hl
      rw [hmu i hi] at hm
      have := hok.low i x im hi hx hl hm
      exact ⟨by omega, this.2⟩
    · obtain rfl : i = n := by omega
      rw [upd_self] at hm; cases hm
      exact ⟨hlt, fun _ => hB, fun h => by cases h⟩
  · rcases hi with hi | hi <;> rcases hj with hj | hj
    · rw [hgt i hi] at hx
      rw [hgt j hj] at hy
      rw [hmu i hi] at ha
      rw [hmu j hj] at hb
      exact hok.inj i j x y a b hi hj hij (killo_live hx hlx).1 (killo_live hy hly).1 hlx hly ha hb hra hrb
    · obtain rfl : j = n := by omega
      rw [hgt i hi] at hx
      obtain ⟨hx, hik⟩ := killo_live hx hlx
      rw [hmu i hi] at ha
      rw [upd_self] at hb; cases hb
      exact (apart i x a hi hx hlx ha hik).1
    · obtain rfl : i = n := by omega
      rw [hgt j hj] at hy
      obtain ⟨hy, hjk⟩ := killo_live hy hly
      rw [hmu j hj] at hb
      rw [upd_self] at ha; cases ha
      exact Ne.symm (apart j y b hj hy hly hb hjk).1
    · omega
  · rcases hi with hi | hi
    · rw [hgt i hi, hget_killo] at hx
      split at hx
      · cases hx; exact hr.elim
      · obtain ⟨im, him, h⟩ := hok.reg i x hi hx hr
        refine ⟨im, by rw [hmu i hi]; exact him, fun b u hu => ?_⟩
        rw [hother b (reg_lt hok hi hx hr him hu) fun k im' e him' hb => ?_]
        · exact h b u hu
        · obtain ⟨hSk, ⟨ok, hok', hlk⟩, im'', him'', hrk⟩ := hk k e
          rw [him'] at him''; cases him''
          exact hok.sep i k x ok im im' u hi hSk hx hok' hr hlk him him' hrk (by rw [hb]; exact hu)
    · obtain rfl : i = n := by omega
      rw [hgn] at hx; cases hx
      exact (or_noreg hor hr).elim
  · rcases hi with hi | hi
    · rw [hgt i hi, hget_killo] at hx
      rw [hmu i hi] at ha
      split at hx
      · cases hx; exact hrx.elim
      · rcases hj with hj | hj
        · rw [hgt j hj] at hy
          obtain ⟨hy, _⟩ := killo_live hy hly
          rw [hmu j hj] at hb
          exact hok.sep i j x y a b u hi hj hx hy hrx hly ha hb hrb hu
        · obtain rfl : j = n := by omega
          rw [upd_self] at hb; cases hb
          simp only at hu
          rcases hg with hg | ⟨k, im', e, him', hb'⟩
          · have := reg_lt hok hi hx hrx ha hu
            omega
          · obtain ⟨hSk, ⟨ok, hok', hlk⟩, im'', him'', hrk⟩ := hk k e
            rw [him'] at him''; cases him''
            exact hok.sep i k x ok a im' u hi hSk hx hok' hrx hlk ha him' hrk (by rw [hb']; exact hu)
    · obtain rfl : i = n := by omega
      rw [hgn] at hx; cases hx
      exact or_noreg hor hrx
  · simp only [upd]; rw [if_neg (by omega)]
  · rw [hget_cons, if_neg (by omega), hget_killo, if_neg]
    rintro ⟨⟨k, rfl, rfl⟩, _⟩
    exact hw (by simp)
  · refine hother b hb fun k im e him => ?_
    have := hk k e
    exact hw k (by simp [e]) (hS k this.1) im him
  · have e : ko = some i := by cases ko <;> simp_all
    exact hk i e
  · obtain rfl : i = n := by omega
    rw [upd_self] at hm; cases hm
    refine ⟨rfl, ?_⟩
    rcases hg with hg | ⟨k, im', e, him, hb⟩
    · exact .inl hg
    · refine .inr ⟨k, by simp [e], hS k (hk k e).1, ⟨im', him, hb⟩, fun o ho hlo => ?_⟩
      rw [hget_cons, if_neg (hne k (hk k e).1)] at ho
      exact (killo_live ho hlo).2 k e rfl
  · rcases hi with hi | hi
    · obtain rfl : i = n := by omega
      rw [hgn] at hx; cases hx
      exact (or_noreg hor hr).elim
    · have e : ko = some i := by cases ko <;> simp_all
      rw [hget_cons, if_neg (by omega), hget_killo] at hx
      split at hx
      · cases hx; exact hr.elim
      · rename_i hn
        exact absurd ⟨⟨i, e, rfl⟩, by rw [hx]; rfl⟩ hn

theorem post_grow {B : Nat} {S : Nat → Prop} {n : Nat} {μ : Mu} {H : Heap} {w w' : World} (hok : Ok B S μ (hget H) w) (hS : ∀ i, S i → i < n) (hf : μ n = none) (ko : Option Nat)
    (hk : ∀ k, ko = some k → S k ∧ (∃ o, hget H k = some o ∧ live o) ∧ ∃ im, μ k = some im ∧ im.rw = true) (g cap : Nat) (o2 : Obj) (hB : B ≤ g) (hlt : g < w'.heap.size)
    (hg : w.heap.size ≤ g ∨ ∃ k im, ko = some k ∧ μ k = some im ∧ im.blk = g) (hgrow : w.heap.size ≤ w'.heap.size)
    (hother : ∀ b, b < w.heap.size → (∀ k im, ko = some k → μ k = some im → im.blk ≠ b) → w'.heap[b]? = w.heap[b]?) (hor : OR (upd μ n ⟨g, 0, cap, true, nofm⟩) w' ⟨g, 0, cap, true, nofm⟩ o2)
    (hstr : w'.os = w.os ∧ w'.tape = w.tape ∧ w'.output = w.output) : Post B S n (n + 1) ko.toList μ (upd μ n ⟨g, 0, cap, true, nofm⟩) H ((n, o2) :: killo H ko) w w' :=
  post_growO hok hS hf ko hk g 0 cap o2 hB hlt hg hgrow hother hor hstr
def headOf (H : Heap) (e : TypeId) (z : Nat) : Value → Option (Array Value × Nat × Option Nat)
  | .slice none 0 0 => some (#[], 0, none)
  | .slice (some ⟨b, 0, none⟩) n s => match hget H b with
    | some (.cells cs te (0, 0)) => bif Nat.beq te e && Nat.beq s z && Nat.beq cs.size (n * z) then some (cs, n, some b) else
        bif Nat.beq te e && Nat.beq s z && Nat.ble (n * z) cs.size then some (cs.extract 0 (n * z), n, some b) else none
    | _ => none
  | _ => none
def newsOf (H : Heap) (z : Nat) : Value → Option (Array Value × Nat × Nat)
  | .slice (some ⟨b, off, none⟩) m _ => match hget H b with
    | some (.cells cs _ _) => bif Nat.ble (off + m * z) cs.size then some (cs.extract off (off + m * z), m, b) else none
    | _ => none
  | _ => none
def cAppend (P : Program) (t : TypeId) (H : Heap) (n : Nat) (s x : Value) : Option CR :=
  match und P t with
  | some (.slice e) => match inf P e with
    | some i => match i.zero, i.size with
      | some zv, z + 1 => match headOf H e (z + 1) s, newsOf H (z + 1) x with
        | some (cs, k, ko), some (ns, m, b) =>
          bif ones ns && Nat.beq zv.cells.size (z + 1) && Nat.ble (k + m) maxLen && Nat.ble ((k + m) * i.bytes) 140737488355328 && Nat.blt 0 m then
            some ⟨.val (.slice (some ⟨n, 0, none⟩) (k + m) (z + 1)), (n, .cells (cs ++ ns) e (0, 0)) :: killo H ko, n + 1, b :: ko.toList, ko.toList⟩ else none
        | _, _ => none
      | _, _ => none
    | none => none
  | _ => none
theorem OR.cellsAt {μ : Mu} {w : World} {im : Img} {cs : Array Value} {t : TypeId} {fz : Nat × Nat} (h : OR μ w im (.cells cs t fz)) {off s : Nat} (hle : off + s ≤ cs.size) :
    ∃ xs : List Value, xs.length = s ∧ (∀ (j : Nat) u, xs[j]? = some u → w.cell? ((⟨im.blk, im.off + off, none⟩ : Addr).add j) = some u) ∧ VRs μ (cs.extract off (off + s)) xs.toArray := by
  let f : Nat → Value := fun j => (w.cell? ⟨im.blk, im.off + (off + j), none⟩).getD undef
  have hf : ∀ j, j < s → ∃ v, cs[off + j]? = some v ∧ w.cell? ⟨im.blk, im.off + (off + j), none⟩ = some (f j) ∧ VR μ v (f j) := by
    intro j hj
    have hlt : off + j < cs.size := by omega
    obtain ⟨v', a, b⟩ := h.cell (i := off + j) (v := cs[off + j]) (by simp [hlt])
    exact ⟨cs[off + j], by simp [hlt], by simp [f, a], by simpa [f, a] using b⟩
  refine ⟨(List.range s).map f, by simp, fun j u hu => ?_, by simp; omega, fun i v v' hv hv' => ?_⟩
  · rw [List.getElem?_map] at hu
    by_cases hj : j < s
    · obtain ⟨_, _, hc, _⟩ := hf j hj
      rw [List.getElem?_range hj] at hu
      simp only [Option.map_some, Option.some.injEq] at hu
      rw [add_none, Nat.add_assoc, hc, hu]
    · rw [List.getElem?_eq_none (by simp; omega)] at hu
      cases hu
  · rw [Array.getElem?_extract] at hv
    split at hv
    · rename_i hlt
      obtain ⟨u, hu, _, hvr⟩ := hf i (by omega)
      rw [hu] at hv; cases hv
      have hi : i < s := by omega
      simp [hi] at hv'
      rw [← hv']
      exact hvr
    · cases hv
theorem headOf_inv {H : Heap} {e : TypeId} {z b n s0 : Nat} {cs0 : Array Value} {te : TypeId} {cs : Array Value} {k : Nat} {ko : Option Nat} (hg : hget H b = some (.cells cs0 te (0, 0))) (h : headOf H e z (.slice (some ⟨b, 0, none⟩) n s0) = some (cs, k, ko)) :
    te = e ∧ s0 = z ∧ n * z ≤ cs0.size ∧ cs = cs0.extract 0 (n * z) ∧ k = n ∧ ko = some b := by
  simp only [headOf, hg] at h
  cases h1 : (Nat.beq te e && Nat.beq s0 z && Nat.beq cs0.size (n * z)) with
  | true =>
    rw [h1] at h
    simp only [cond_true, Option.some.injEq, Prod.mk.injEq] at h
    simp only [Bool.and_eq_true] at h1
    have e3 := Nat.eq_of_beq_eq_true h1.2
    exact ⟨Nat.eq_of_beq_eq_true h1.1.1, Nat.eq_of_beq_eq_true h1.1.2, by omega, by rw [← h.1, ← e3]; simp, h.2.1.symm, h.2.2.symm⟩
  | false =>
    rw [h1] at h
    simp only [cond_false] at h
    cases h2 : (Nat.beq te e && Nat.beq s0 z && Nat.ble (n * z) cs0.size) with
    | false => rw [h2] at h; cases h
    | true =>
      rw [h2] at h
      simp only [cond_true, Option.some.injEq, Prod.mk.injEq] at h
      simp only [Bool.and_eq_true] at h2
      exact ⟨Nat.eq_of_beq_eq_true h2.1.1, Nat.eq_of_beq_eq_true h2.1.2, Nat.le_of_ble_eq_true h2.2, h.1.symm, h.2.1.symm, h.2.2.symm⟩
theorem headOf_run {B : Nat} {S : Nat → Prop} {μ : Mu} {H : Heap} {w : World} {e : TypeId} {z : Nat} {s s' : Value} {cs : Array Value} {k : Nat} {ko : Option Nat} (h : headOf H e (z + 1) s = some (cs, k, ko)) (hok : Ok B S μ (hget H) w) (hs : VR μ s s') (hko : ∀ b ∈ ko.toList, S b) :
    ∃ xs : List Value, w.ownsRow B e (z + 1) s' k xs ∧ VRs μ cs xs.toArray ∧ (∀ b, ko = some b → S b ∧ (∃ o, hget H b = some o ∧ live o) ∧ ∃ im, μ b = some im ∧ im.rw = true ∧ s'.ownBlock = some im.blk) ∧ (ko = none → s'.ownBlock = none) := by
  have h' := h
  unfold headOf at h'
  split at h'
  · simp only [Option.some.injEq, Prod.mk.injEq] at h'
    obtain ⟨rfl, rfl, rfl⟩ := h'
    cases hs
    exact ⟨[], ⟨by simp, .inl ⟨rfl, rfl⟩⟩, ⟨rfl, fun i v v' hv _ => by simp at hv⟩, fun b hb => by simp at hb, fun _ => rfl⟩
  · rename_i b n s0
    split at h'
    · rename_i cs0 te hg
      obtain ⟨rfl, rfl, e3, rfl, rfl, rfl⟩ := headOf_inv hg h
      have hb : S b := hko b (by simp)
      obtain ⟨im, him, hor⟩ := hok.rel b _ hb hg trivial
      cases hs with
      | slice har h1 h2 h3 =>
        rename_i c'
        obtain ⟨im', him', _, rfl⟩ := har
        simp only at him'
        rw [him] at him'; cases him'
        rcases hor with ⟨_, hr, ho, arr, ha, hle, hcap, hcc⟩ | ⟨hz, _⟩
        · have hce := h3 (by omega) im him hr rfl
          refine ⟨arr.toList.take (k * (z + 1)), ⟨by simp; omega, .inr ⟨im.blk, c', arr, by simp [ho], (hok.low b _ im hb hg trivial him).2.1 hr, ha, h1, h2, by omega, rfl⟩⟩, ⟨by simp; omega, fun i v v' hv hv' => ?_⟩, fun b' hb' => ?_, fun h => by cases h⟩
          · rw [Array.getElem?_extract] at hv
            split at hv
            · rename_i hi
              rw [Nat.zero_add] at hv
              obtain ⟨u, hu, hvr⟩ := hcc i v hv
              simp only [List.getElem?_toArray] at hv'
              rw [List.getElem?_take_of_lt (by omega)] at hv'
              simp only [Array.getElem?_toList] at hv'
              rw [hu] at hv'; cases hv'
              exact hvr
            · cases hv
          · cases hb'
            exact ⟨hb, ⟨_, hg, trivial⟩, im, him, hr, rfl⟩
        · exact absurd rfl hz
    · cases h'
  · cases h'
theorem cAppend_run {P : Program} {B n : Nat} {S : Nat → Prop} {μ : Mu} {H : Heap} {w : World} {t ty : TypeId} {s x s' x' : Value} {r : CR} (h : cAppend P t H n s x = some r) (hok : Ok B S μ (hget H) w) (hB : B ≤ w.heap.size) (hS : ∀ i, S i → i < n)
    (hf : μ n = none) (hs : VR μ s s') (hx : VR μ x x') (hR : ∀ i ∈ r.R, S i) :
    ∃ v v' w' μ', (Builtin.append_ #[t, t] ty #[s', x']).run P w = .ok v' w' ∧ Post B S n r.n r.W μ μ' H r.H w w' ∧ r.nx = .val v ∧ VR μ' v v' ∧ r.n = n + 1 := by
  unfold cAppend at h
  simp only [und_eq, inf_eq] at h
  split at h
  · rename_i e hu
    split at h
    · rename_i i hi
      split at h
      · rename_i zv z hz hsz
        split at h
        · rename_i cs k ko ns m b hh hn
          cases hc : (ones ns && Nat.beq zv.cells.size (z + 1) && Nat.ble (k + m) maxLen && Nat.ble ((k + m) * i.bytes) 140737488355328 && Nat.blt 0 m) with
          | false => rw [hc] at h; cases h
          | true =>
            rw [hc] at h
            simp only [cond_true, Option.some.injEq] at h
            subst h
            simp only [Bool.and_eq_true] at hc
            obtain ⟨⟨⟨⟨c1, c2⟩, c3⟩, c4⟩, c5⟩ := hc
            have c2 := Nat.eq_of_beq_eq_true c2
            have c3 := Nat.le_of_ble_eq_true c3
            have c4 := Nat.le_of_ble_eq_true c4
            have c5 : 0 < m := Nat.le_of_ble_eq_true c5
            obtain ⟨xs, hown, hxs, hk1, hk2⟩ := headOf_run hh hok hs (fun b hb => hR b (by simp [hb]))
            unfold newsOf at hn
            split at hn
            · rename_i b2 off m0 s2
              split at hn
              · rename_i cs2 te2 fz2 hg2
                cases hle : Nat.ble (off + m0 * (z + 1)) cs2.size with
                | false => rw [hle] at hn; cases hn
                | true =>
                  rw [hle] at hn
                  simp only [cond_true, Option.some.injEq, Prod.mk.injEq] at hn
                  obtain ⟨rfl, rfl, rfl⟩ := hn
                  have hle := Nat.le_of_ble_eq_true hle
                  have hb2 : S b2 := hR b2 (by simp)
                  obtain ⟨im2, him2, hor2⟩ := hok.rel b2 _ hb2 hg2 trivial
                  cases hx with
                  | slice har h1 h2 h3 =>
                    obtain ⟨im', him', _, rfl⟩ := har
                    simp only at him'
                    rw [him2] at him'; cases him'
                    obtain ⟨news, hnl, hnc, hnv⟩ := hor2.cellsAt hle
                    obtain ⟨v', w', hrun, hown', hgr, _, hob⟩ := run_append_own_at (P := P) w B t ty e i zv (z + 1) i.bytes hu hi hz hsz rfl c2 (by omega) s' k xs hown _ m0 _ news hnl hnc (hnv.ones c1) c3 c4 hB
                    have hxl : xs.length = k * (z + 1) := hown.1
                    rcases hown'.2 with ⟨_, hh0⟩ | ⟨g, cap, cur, rfl, hBg, hgc, hcap1, hcap2, hcs, htk⟩
                    · omega
                    · have hgl : g < w'.heap.size := (Array.getElem?_eq_some_iff.1 hgc).1
                      have hob : some g = s'.ownBlock ∨ some g = some w.heap.size := hob
                      have hcsz : cs.size = xs.length := by have := hxs.1; simpa using this
                      have hnsz : (cs2.extract off (off + m0 * (z + 1))).size = news.length := by have := hnv.1; simpa using this
                      refine ⟨_, _, _, _, hrun, post_grow hok hS hf ko (fun b hb => let ⟨a, c, im, d, f, _⟩ := hk1 b hb; ⟨a, c, im, d, f⟩) g cur.size _ hBg hgl ?_ hgr.size ?_ (.ofCells hgc ?_ rfl fun j v hv => ?_) ⟨hgr.os, hgr.tape, hgr.output⟩, rfl, ?_, rfl⟩
                      · cases ko with
                        | none =>
                          rw [hk2 rfl] at hob
                          rcases hob with hob | hob
                          · cases hob
                          · simp only [Option.some.injEq] at hob; exact .inl (by omega)
                        | some b =>
                          obtain ⟨_, _, im, d, _, f⟩ := hk1 b rfl
                          rw [f] at hob
                          rcases hob with hob | hob
                          · simp only [Option.some.injEq] at hob; exact .inr ⟨b, im, rfl, d, hob.symm⟩
                          · simp only [Option.some.injEq] at hob; exact .inl (by omega)
                      · intro q hq hne
                        refine hgr.block q hq fun e0 => ?_
                        cases ko with
                        | none => rw [hk2 rfl] at e0; cases e0
                        | some b =>
                          obtain ⟨_, _, im, d, _, f⟩ := hk1 b rfl
                          rw [f] at e0
                          simp only [Option.some.injEq] at e0
                          exact hne b im rfl d e0.symm
                      · rw [Array.size_append, hcsz, hnsz, hxl, hnl, ← Nat.add_mul, hcs]
                        exact Nat.mul_le_mul_right _ hcap1
                      · have hj : j < (k + m0) * (z + 1) := by
                          have := (Array.getElem?_eq_some_iff.1 hv).1
                          rw [Array.size_append, hcsz, hnsz, hxl, hnl, ← Nat.add_mul] at this
                          exact this
                        have hcur : cur[j]? = (xs ++ news)[j]? := by
                          rw [← htk, List.getElem?_take_of_lt hj]
                          simp
                        rw [hcur]
                        rw [Array.getElem?_append] at hv
                        split at hv
                        · rename_i hlt
                          obtain ⟨u, hu', hvr⟩ := hxs.get hv
                          rw [List.getElem?_append_left (by omega)]
                          exact ⟨u, by simpa using hu', hvr.mono (upd_ext hf)⟩
                        · rename_i hlt
                          obtain ⟨u, hu', hvr⟩ := hnv.get hv
                          rw [List.getElem?_append_right (by omega)]
                          exact ⟨u, by rw [← hcsz]; simpa using hu', hvr.mono (upd_ext hf)⟩
                      · refine .slice ⟨_, upd_self, rfl, rfl⟩ hcap1 hcap2 (fun _ im him _ _ => ?_)
                        rw [show upd μ n ⟨g, 0, cur.size, true, nofm⟩ n = some _ from upd_self] at him
                        cases him
                        exact hcs.symm
              · cases hn
            · cases hn
        · cases h
      · cases h
    · cases h
  · cases h

def bare : Value → Value
  | .chan (some 0) => .slice none 0 0
  | v => v
theorem append_bare {P : Program} {t e ty : TypeId} {i : TypeInfo} {z : Value} (hu : P.underlying t = some (.slice e)) (hi : P.info? e = some i) (hz : i.zero = some z) (w : World) (b a : Addr) (m c : Nat) (news : List Value) (hl : news.length = m * i.size) (hn : ∀ j u, news[j]? = some u → w.cell? (a.add j) = some u)
    (h0 : 0 < m) (h1 : m ≤ maxLen) (h2 : m * i.bytes ≤ 140737488355328) :
    (Builtin.append_ #[t, t] ty #[.slice (some b) 0 0, .slice (some a) m c]).run P w = (Builtin.append_ #[t, t] ty #[.slice none 0 0, .slice (some a) m c]).run P w := by
  have hsm : (m : Int) ≤ 9223372036854775807 := by simp only [maxLen] at h1; omega
  rw [run_append_nil (P := P) w t ty e i z hu hi hz a m c news hl hn h0 hsm (by omega),
    run_append_grow (P := P) w t ty e i z hu hi hz b 0 0 [] (by simp) (fun j v h => by simp at h) a m c news hl hn (by omega) (by omega) (growslice_fits (by omega) (by rw [Nat.zero_add]; exact h2))]
  simp
theorem cAppend_runB {P : Program} {B n : Nat} {S : Nat → Prop} {μ : Mu} {H : Heap} {w : World} {t ty : TypeId} {s x s' x' : Value} {r : CR} (h : cAppend P t H n (bare s) x = some r) (hok : Ok B S μ (hget H) w) (hB : B ≤ w.heap.size) (hS : ∀ i, S i → i < n)
    (hf : μ n = none) (hs : VR μ s s') (hx : VR μ x x') (hR : ∀ i ∈ r.R, S i) :
    ∃ v v' w' μ', (Builtin.append_ #[t, t] ty #[s', x']).run P w = .ok v' w' ∧ Post B S n r.n r.W μ μ' H r.H w w' ∧ r.nx = .val v ∧ VR μ' v v' ∧ r.n = n + 1 := by
  by_cases hb : s = noCapV
  · subst hb
    cases hs
    rename_i a
    have hh : cAppend P t H n (.slice none 0 0) x = some r := h
    obtain ⟨v, v', w', μ', hr, k⟩ := cAppend_run (ty := ty) hh hok hB hS hf (.nilSlice 0 0) hx hR
    refine ⟨v, v', w', μ', ?_, k⟩
    cases a with
    | none => exact hr
    | some a =>
      rw [← hr]
      unfold cAppend at hh
      simp only [und_eq, inf_eq] at hh
      split at hh
      · rename_i e hu
        split at hh
        · rename_i i hi
          split at hh
          · rename_i zv z hz hsz
            split at hh
            · rename_i cs k0 ko ns m b hhd hn
              simp only [headOf, Option.some.injEq, Prod.mk.injEq] at hhd
              obtain ⟨rfl, rfl, rfl⟩ := hhd
              cases hc : (ones ns && Nat.beq zv.cells.size (z + 1) && Nat.ble (0 + m) maxLen && Nat.ble ((0 + m) * i.bytes) 140737488355328 && Nat.blt 0 m) with
              | false => rw [hc] at hh; cases hh
              | true =>
                rw [hc] at hh
                simp only [cond_true, Option.some.injEq] at hh
                subst hh
                simp only [Bool.and_eq_true] at hc
                obtain ⟨⟨⟨⟨c1, c2⟩, c3⟩, c4⟩, c5⟩ := hc
                have c3 := Nat.le_of_ble_eq_true c3
                have c4 := Nat.le_of_ble_eq_true c4
                have c5 : 0 < m := Nat.le_of_ble_eq_true c5
                rw [Nat.zero_add] at c3 c4
                unfold newsOf at hn
                split at hn
                · rename_i b2 off m0 s2
                  split at hn
                  · rename_i cs2 te2 fz2 hg2
                    cases hle : Nat.ble (off + m0 * (z + 1)) cs2.size with
                    | false => rw [hle] at hn; cases hn
                    | true =>
                      rw [hle] at hn
                      simp only [cond_true, Option.some.injEq, Prod.mk.injEq] at hn
                      obtain ⟨rfl, rfl, rfl⟩ := hn
                      have hle := Nat.le_of_ble_eq_true hle
                      have hb2 : S b2 := hR b2 (by simp)
                      obtain ⟨im2, him2, hor2⟩ := hok.rel b2 _ hb2 hg2 trivial
                      cases hx with
                      | slice har h1 h2 h3 =>
                        obtain ⟨im', him', _, rfl⟩ := har
                        simp only at him'
                        rw [him2] at him'; cases him'
                        obtain ⟨news, hnl, hnc, hnv⟩ := hor2.cellsAt hle
                        exact append_bare hu hi hz w a _ m0 _ news (by rw [hnl, hsz]) hnc c5 c3 c4
                  · cases hn
                · cases hn
            · cases hh
          · cases hh
        · cases hh
      · cases hh
  · have e : bare s = s := by
      unfold bare
      split
      · exact absurd rfl hb
      · rfl
    rw [e] at h
    exact cAppend_run h hok hB hS hf hs hx hR
def isNo : Value → Bool
  | .slice none 0 0 | .slice (some ⟨_, _, none⟩) 0 _ | .chan (some 0) => true
  | _ => false
def isSl : Value → Bool
  | .slice none 0 0 | .slice (some ⟨_, _, none⟩) _ _ | .chan (some 0) => true
  | _ => false
def cApp0 (P : Program) (t : TypeId) (H : Heap) (n : Nat) (s x : Value) : Option CR := match und P t with
  | some (.slice e) => match szOf P e with
    | some _ => bif isNo x && isSl s then some ⟨.val s, H, n, [], []⟩ else none
    | none => none
  | _ => none
theorem isNo_run {μ : Mu} {x x' : Value} (h : isNo x = true) (hx : VR μ x x') : ∃ a c, x' = .slice a 0 c := by
  unfold isNo at h
  split at h
  · cases hx; exact ⟨_, _, rfl⟩
  · cases hx; exact ⟨_, _, rfl⟩
  · cases hx; exact ⟨_, _, rfl⟩
  · cases h
theorem isSl_run {μ : Mu} {x x' : Value} (h : isSl x = true) (hx : VR μ x x') : ∃ a k c, x' = .slice a k c ∧ k ≤ c := by
  unfold isSl at h
  split at h
  · cases hx; exact ⟨_, _, _, rfl, Nat.le_refl _⟩
  · cases hx with | slice _ h1 => exact ⟨_, _, _, rfl, h1⟩
  · cases hx; exact ⟨_, _, _, rfl, Nat.le_refl _⟩
  · cases h
theorem app_nothing {P : Program} {t e ty : TypeId} {z : Nat} (hu : P.underlying t = some (.slice e)) (hz : szOf P e = some z) (w : World) (a b : Option Addr) (k c d : Nat) (hk : k ≤ c) :
    (Builtin.append_ #[t, t] ty #[.slice a k c, .slice b 0 d]).run P w = .ok (.slice a k c) w := by
  cases a <;> cases b <;> simp [Builtin.append_, Sem.run_bind, run_underlying hu, Result.andThen_ok, szOf_run hz, Builtin.lenOf, Builtin.firstCells, Sem.run_pure, hk, storeCells, loadCells, loadCellsFrom]
theorem cApp0_run {P : Program} {μ : Mu} {H : Heap} {n : Nat} {w : World} {t ty : TypeId} {s x s' x' : Value} {r : CR} (h : cApp0 P t H n s x = some r) (hs : VR μ s s') (hx : VR μ x x') :
    (Builtin.append_ #[t, t] ty #[s', x']).run P w = .ok s' w ∧ r = ⟨.val s, H, n, [], []⟩ := by
  unfold cApp0 at h
  simp only [und_eq] at h
  split at h
  · rename_i e hu
    split at h
    · rename_i z hz
      cases hc : (isNo x && isSl s) with
      | false => rw [hc] at h; cases h
      | true =>
        rw [hc] at h
        simp only [cond_true, Option.some.injEq] at h
        simp only [Bool.and_eq_true] at hc
        obtain ⟨b, d, rfl⟩ := isNo_run hc.1 hx
        obtain ⟨a, k, c, rfl, hk⟩ := isSl_run hc.2 hs
        exact ⟨app_nothing hu hz w a b k c d hk, h.symm⟩
    · cases h
  · cases h
def cAppZ (P : Program) (t t' : TypeId) (H : Heap) (n : Nat) (s x : Value) : Option CR := match und P t, und P t', s, x with
  | some (.slice e), some (.int _), .slice none 0 0, .int _ l => match inf P e with
    | some i => match i.zero, i.size with
      | some zv, z + 1 => bif decide (0 < l) && decide (l ≤ 9223372036854775807) && Nat.ble (l.toNat * i.bytes) 140737488355328 && Nat.beq zv.cells.size (z + 1) && (Builtin.zeroCells zv.cells l.toNat).all simple then
          some ⟨.val (.slice (some ⟨n, 0, none⟩) l.toNat (z + 1)), (n, .cells (Builtin.zeroCells zv.cells l.toNat) e (0, 0)) :: H, n + 1, [], []⟩ else none
      | _, _ => none
    | none => none
  | _, _, _, _ => none
theorem cAppZ_run {P : Program} {B n : Nat} {S : Nat → Prop} {μ : Mu} {H : Heap} {w : World} {t t' ty : TypeId} {s x s' x' : Value} {r : CR} (h : cAppZ P t t' H n s x = some r) (hok : Ok B S μ (hget H) w) (hB : B ≤ w.heap.size) (hS : ∀ i, S i → i < n)
    (hf : μ n = none) (hs : VR μ s s') (hx : VR μ x x') :
    ∃ v v' w' μ', (Builtin.append_ #[t, t'] ty #[s', x']).run P w = .ok v' w' ∧ Post B S n r.n r.W μ μ' H r.H w w' ∧ r.nx = .val v ∧ VR μ' v v' ∧ r.n = n + 1 := by
  unfold cAppZ at h
  simp only [und_eq, inf_eq] at h
  split at h
  · rename_i e kn k l hu hu'
    split at h
    · rename_i i hi
      split at h
      · rename_i zv z hz hsz
        cases hc : (decide (0 < l) && decide (l ≤ 9223372036854775807) && Nat.ble (l.toNat * i.bytes) 140737488355328 && Nat.beq zv.cells.size (z + 1) && (Builtin.zeroCells zv.cells l.toNat).all simple) with
        | false => rw [hc] at h; cases h
        | true =>
          rw [hc] at h
          simp only [cond_true, Option.some.injEq] at h
          subst h
          simp only [Bool.and_eq_true, decide_eq_true_eq] at hc
          obtain ⟨⟨⟨⟨c1, c2⟩, c3⟩, c4⟩, c5⟩ := hc
          have c3 := Nat.le_of_ble_eq_true c3
          have c4 := Nat.eq_of_beq_eq_true c4
          cases hs
          cases hx
          obtain ⟨m, rfl⟩ : ∃ m : Nat, l = m := ⟨l.toNat, by omega⟩
          rw [Int.toNat_natCast] at c3 c5 ⊢
          have hr := Lib.run_append_nil_zeros (P := P) w t t' ty e i zv k kn hu hu' hi hz m (by omega) (by omega) c2 (by omega)
          have hge := grownCap_ge w m 0 e
          have hcm := grownCap_le_maxLen w m 0 e (by unfold maxLen; omega)
          have hsz0 : (Builtin.zeroCells zv.cells m).size = m * (z + 1) := by rw [size_zeroCells, c4]
          have harr : (Builtin.zeroCells zv.cells m ++ Builtin.zeroCells zv.cells (grownCap w m 0 e - m)).size = grownCap w m 0 e * (z + 1) := by
            rw [Array.size_append, size_zeroCells, size_zeroCells, c4, ← Nat.add_mul]; congr 1; omega
          refine ⟨_, _, _, _, hr, post_grow hok hS hf none (fun _ h => by cases h) w.heap.size (Builtin.zeroCells zv.cells m ++ Builtin.zeroCells zv.cells (grownCap w m 0 e - m)).size _ hB (by simp) (.inl (Nat.le_refl _)) (by simp) (fun b hb _ => heap_alloc_old w.drew _ b hb) (.ofCells (heap_alloc_new w.drew _) ?_ rfl fun j v hv => ?_) ⟨rfl, rfl, rfl⟩, rfl, ?_, rfl⟩
          · rw [Array.size_append]; omega
          · have hj := (Array.getElem?_eq_some_iff.1 hv).1
            refine ⟨v, by rw [Array.getElem?_append_left hj]; exact hv, vr_simple ?_⟩
            obtain ⟨hlt, rfl⟩ := Array.getElem?_eq_some_iff.1 hv
            exact Array.all_eq_true.1 c5 j hlt
          · refine .slice ⟨_, upd_self, rfl, rfl⟩ hge hcm (fun _ im him _ _ => ?_)
            rw [upd_self] at him
            cases him
            exact harr.symm
      · cases h
    · cases h
  · cases h
def isZ : Nat × Nat → Bool
  | (0, 0) => true
  | _ => false
def isT : Nat × Nat → Bool
  | (9, 9) => true
  | _ => false
theorem isZ_eq {fz : Nat × Nat} (h : isZ fz = true) : fz = (0, 0) := by
  unfold isZ at h
  split at h
  · rfl
  · cases h
theorem isT_eq {fz : Nat × Nat} (h : isT fz = true) : fz = (9, 9) := by
  unfold isT at h
  split at h
  · rfl
  · cases h
theorem OR.row {μ : Mu} {w : World} {im : Img} {cs : Array Value} {t : TypeId} {fz : Nat × Nat} (h : OR μ w im (.cells cs t fz)) (hf : isZ fz = true ∨ isT fz = true) :
    im.rw = true ∧ ∃ arr, w.heap[im.blk]? = some (.cells arr t (0, 0)) ∧ im.off + cs.size ≤ arr.size ∧ im.off + im.cap ≤ arr.size ∧ ∀ (i : Nat) v, cs[i]? = some v → ∃ v', arr[im.off + i]? = some v' ∧ VR μ v v' := by
  rcases h with ⟨hz, hr, ho, arr, ha, h1, h2, h3⟩ | ⟨hz, h3, h4⟩
  · exact ⟨hr, arr, ha, by omega, by omega, fun i v hv => by rw [ho, Nat.zero_add]; exact h3 i v hv⟩
  · rcases hf with hf | hf
    · exact absurd (isZ_eq hf) hz
    · obtain ⟨a, arr, b, c, d⟩ := h4 (isT_eq hf)
      refine ⟨a, arr, b, c, d, fun i v hv => ?_⟩
      obtain ⟨v', e1, e2⟩ := h3 i v hv
      refine ⟨v', ?_, e2⟩
      simpa [World.cell?, b] using e1
theorem OR.ofT {μ : Mu} {w : World} {im : Img} {cs arr : Array Value} {t : TypeId} (hr : im.rw = true) (ha : w.heap[im.blk]? = some (.cells arr t (0, 0))) (h1 : im.off + cs.size ≤ arr.size) (h2 : im.off + im.cap ≤ arr.size)
    (hc : ∀ (i : Nat) v, cs[i]? = some v → ∃ v', arr[im.off + i]? = some v' ∧ VR μ v v') : OR μ w im (.cells cs t (9, 9)) :=
  .inr ⟨by decide, fun i v hv => let ⟨v', a, b⟩ := hc i v hv; ⟨v', by simp [World.cell?, ha, a], b⟩, fun _ => ⟨hr, arr, ha, h1, h2⟩⟩
def cTail (P : Program) (t : TypeId) (H : Heap) (n : Nat) (x : Value) (lo hi : Option Value) : Option CR :=
  match x, und P t, hi with
  | .slice (some ⟨b, 0, none⟩) m s, some (.slice e), none => match szOf P e, bnds m lo none, hget H b with
    | some (z + 1), some (l, hh), some (.cells cs te fz) => bif (isT fz || (isZ fz && Nat.beq l m)) && (Nat.blt 0 l && (Nat.beq hh m && (Nat.beq s (z + 1) && Nat.beq cs.size (m * (z + 1))))) then
        some ⟨.val (.slice (some ⟨n, 0, none⟩) (hh - l) (z + 1)), (n, .cells (cs.extract (l * (z + 1)) (hh * (z + 1))) te (9, 9)) :: killo H (some b), n + 1, [b], [b]⟩ else none
    | _, _, _ => none
  | _, _, _ => none
theorem cTail_run {P : Program} {B n : Nat} {S : Nat → Prop} {μ : Mu} {H : Heap} {w : World} {t : TypeId} {x x' : Value} {lo hi lo' hi' : Option Value} {r : CR} (h : cTail P t H n x lo hi = some r) (hok : Ok B S μ (hget H) w) (hS : ∀ i, S i → i < n)
    (hf : μ n = none) (hx : VR μ x x') (hlo : OVR μ lo lo') (hhi : OVR μ hi hi') (hR : ∀ i ∈ r.R, S i) :
    ∃ v v' μ', (Instr.sliceAt t x' lo' hi' none).run P w = .ok v' w ∧ Post B S n r.n r.W μ μ' H r.H w w ∧ r.nx = .val v ∧ VR μ' v v' ∧ r.n = n + 1 := by
  unfold cTail at h
  simp only [und_eq] at h
  split at h
  · rename_i b m s e hu
    split at h
    · rename_i z l hh cs te fz hz hb hg
      cases hc : ((isT fz || (isZ fz && Nat.beq l m)) && (Nat.blt 0 l && (Nat.beq hh m && (Nat.beq s (z + 1) && Nat.beq cs.size (m * (z + 1)))))) with
      | false => rw [hc] at h; cases h
      | true =>
        rw [hc] at h
        simp only [cond_true, Option.some.injEq] at h
        subst h
        simp only [Bool.and_eq_true, Bool.or_eq_true] at hc
        obtain ⟨c1, c2, c3, c4, c5⟩ := hc
        have c2 : 0 < l := Nat.le_of_ble_eq_true c2
        have c3 := Nat.eq_of_beq_eq_true c3
        have c4 := Nat.eq_of_beq_eq_true c4
        have c5 := Nat.eq_of_beq_eq_true c5
        subst c3 c4
        have hbS : S b := hR b (by simp)
        obtain ⟨im, him, hor⟩ := hok.rel b _ hbS hg trivial
        obtain ⟨hrw, arr, ha, hle, hcap, hcc⟩ := hor.row (c1.elim .inr fun q => .inl q.1)
        have hlow := hok.low b _ im hbS hg trivial him
        cases hx with
        | slice har h1 h2 h3 =>
          rename_i a' c'
          obtain ⟨im', him', _, rfl⟩ := har
          simp only at him'
          rw [him] at him'; cases him'
          have hce : c' * (z + 1) = im.cap := h3 (by omega) im him hrw rfl
          obtain ⟨hr, hl1, hl2⟩ := bnds_run (P := P) (sl := true) hb hlo hhi h1 w
          have hrun : (Instr.sliceAt t (.slice (some ⟨im.blk, im.off + 0, none⟩) hh c') lo' hi' none).run P w = .ok (.slice (if c' = l then some ⟨im.blk, im.off + 0, none⟩ else some ⟨im.blk, im.off + 0 + l * (z + 1), none⟩) (hh - l) (c' - l)) w := by
            simp only [Instr.sliceAt, Instr.slice, Sem.run_bind, run_underlying hu, Result.andThen_ok, hr, szOf_run hz, Sem.run_pure, Option.map_some, add_none]
          obtain ⟨off2, ho2⟩ : ∃ o, o = if c' = l then im.off else im.off + l * (z + 1) := ⟨_, rfl⟩
          have hadr : (if c' = l then some (⟨im.blk, im.off + 0, none⟩ : Addr) else some ⟨im.blk, im.off + 0 + l * (z + 1), none⟩) = some ⟨im.blk, off2 + 0, none⟩ := by
            rw [ho2]; split <;> simp
          rw [hadr] at hrun
          have hsub : (c' - l) * (z + 1) = c' * (z + 1) - l * (z + 1) := Nat.sub_mul _ _ _
          have hsub2 : (hh - l) * (z + 1) = hh * (z + 1) - l * (z + 1) := Nat.sub_mul _ _ _
          have hlh : l * (z + 1) ≤ hh * (z + 1) := Nat.mul_le_mul_right _ hl1
          have hlc : hh * (z + 1) ≤ c' * (z + 1) := Nat.mul_le_mul_right _ h1
          have hesz : (cs.extract (l * (z + 1)) (hh * (z + 1))).size = (hh - l) * (z + 1) := by simp; omega
          have hcap2 : off2 + (c' - l) * (z + 1) ≤ arr.size := by
            rw [ho2]; split
            · rename_i e0; subst e0; simp; omega
            · omega
          have hcs2 : off2 + (cs.extract (l * (z + 1)) (hh * (z + 1))).size ≤ arr.size := by rw [hesz]; omega
          refine ⟨_, _, _, hrun, post_growO hok hS hf (some b) (fun k e => by cases e; exact ⟨hbS, ⟨_, hg, trivial⟩, im, him, hrw⟩) im.blk off2 ((c' - l) * (z + 1)) _ (hlow.2.1 hrw) hlow.1 (.inr ⟨b, im, rfl, him, rfl⟩) (Nat.le_refl _) (fun _ _ _ => rfl)
            (OR.ofT rfl ha hcs2 hcap2 fun i v hv => ?_) ⟨rfl, rfl, rfl⟩, rfl, .slice ⟨_, upd_self, rfl, rfl⟩ (by omega) (by omega) (fun _ im2 him2 _ _ => ?_), rfl⟩
          · have hi : i < (hh - l) * (z + 1) := by rw [← hesz]; exact (Array.getElem?_eq_some_iff.1 hv).1
            rw [Array.getElem?_extract] at hv
            split at hv
            · obtain ⟨u, hu', hvr⟩ := hcc _ v hv
              refine ⟨u, ?_, hvr.mono (upd_ext hf)⟩
              have hne : ¬ c' = l := fun e0 => by
                subst e0
                have : hh * (z + 1) ≤ c' * (z + 1) := hlc
                omega
              simp only [ho2, if_neg hne]
              rw [Nat.add_assoc]; exact hu'
            · cases hv
          · rw [upd_self] at him2
            cases him2
            rfl
    · cases h
  · cases h
def cAppT (P : Program) (t : TypeId) (H : Heap) (n : Nat) (s x : Value) : Option CR := match und P t with
  | some (.slice e) => match inf P e with
    | some i => match i.zero, i.size with
      | some zv, z + 1 => match s, newsOf H (z + 1) x with
        | .slice (some ⟨b, 0, none⟩) k sz, some (ns, m, b2) => match hget H b with
          | some (.cells cs te fz) => bif isT fz && (Nat.beq te e && (Nat.beq sz (z + 1) && (Nat.beq cs.size (k * (z + 1)) && (ones ns && (Nat.beq zv.cells.size (z + 1) && (Nat.ble (k + m) maxLen && (Nat.ble ((k + m) * i.bytes) 140737488355328 && Nat.blt 0 m))))))) then
              some ⟨.val (.slice (some ⟨n, 0, none⟩) (k + m) (z + 1)), (n, .cells (cs ++ ns) e (9, 9)) :: killo H (some b), n + 1, [b2, b], [b]⟩ else none
          | _ => none
        | _, _ => none
      | _, _ => none
    | none => none
  | _ => none
theorem cAppT_run {P : Program} {B n : Nat} {S : Nat → Prop} {μ : Mu} {H : Heap} {w : World} {t ty : TypeId} {s x s' x' : Value} {r : CR} (h : cAppT P t H n s x = some r) (hok : Ok B S μ (hget H) w) (hB : B ≤ w.heap.size) (hS : ∀ i, S i → i < n)
    (hf : μ n = none) (hs : VR μ s s') (hx : VR μ x x') (hR : ∀ i ∈ r.R, S i) :
    ∃ v v' w' μ', (Builtin.append_ #[t, t] ty #[s', x']).run P w = .ok v' w' ∧ Post B S n r.n r.W μ μ' H r.H w w' ∧ r.nx = .val v ∧ VR μ' v v' ∧ r.n = n + 1 := by
  unfold cAppT at h
  simp only [und_eq, inf_eq] at h
  split at h
  · rename_i e hu
    split at h
    · rename_i i hi
      split at h
      · rename_i zv z hz hsz
        split at h
        · rename_i b k sz ns m b2 hn
          split at h
          · rename_i cs te fz hg
            cases hc : (isT fz && (Nat.beq te e && (Nat.beq sz (z + 1) && (Nat.beq cs.size (k * (z + 1)) && (ones ns && (Nat.beq zv.cells.size (z + 1) && (Nat.ble (k + m) maxLen && (Nat.ble ((k + m) * i.bytes) 140737488355328 && Nat.blt 0 m)))))))) with
            | false => rw [hc] at h; cases h
            | true =>
              rw [hc] at h
              simp only [cond_true, Option.some.injEq] at h
              subst h
              simp only [Bool.and_eq_true] at hc
              obtain ⟨c1, c2, c3, c4, c5, c6, c7, c8, c9⟩ := hc
              have c2 := Nat.eq_of_beq_eq_true c2
              have c3 := Nat.eq_of_beq_eq_true c3
              have c4 := Nat.eq_of_beq_eq_true c4
              have c6 := Nat.eq_of_beq_eq_true c6
              have c7 := Nat.le_of_ble_eq_true c7
              have c8 := Nat.le_of_ble_eq_true c8
              have c9 : 0 < m := Nat.le_of_ble_eq_true c9
              subst c2 c3
              have hbS : S b := hR b (by simp)
              obtain ⟨im, him, hor⟩ := hok.rel b _ hbS hg trivial
              obtain ⟨hrw, arr, ha, hle, hcap, hcc⟩ := hor.row (.inr c1)
              have hlow := hok.low b _ im hbS hg trivial him
              cases hs with
              | slice hars q1 q2 q3 =>
                rename_i as' c'
                obtain ⟨im', him', _, rfl⟩ := hars
                simp only at him'
                rw [him] at him'; cases him'
                have hce : c' * (z + 1) = im.cap := q3 (by omega) im him hrw rfl
                unfold newsOf at hn
                split at hn
                · rename_i b3 off m0 s2
                  split at hn
                  · rename_i cs2 te2 fz2 hg2
                    cases hle2 : Nat.ble (off + m0 * (z + 1)) cs2.size with
                    | false => rw [hle2] at hn; cases hn
                    | true =>
                      rw [hle2] at hn
                      simp only [cond_true, Option.some.injEq, Prod.mk.injEq] at hn
                      obtain ⟨rfl, rfl, rfl⟩ := hn
                      have hle2 := Nat.le_of_ble_eq_true hle2
                      have hb2 : S b3 := hR b3 (by simp)
                      obtain ⟨im2, him2, hor2⟩ := hok.rel b3 _ hb2 hg2 trivial
                      cases hx with
                      | slice har h1 h2 h3 =>
                        rename_i ax cx
                        obtain ⟨im2', him2', _, rfl⟩ := har
                        simp only at him2'
                        rw [him2] at him2'; cases him2'
                        obtain ⟨news, hnl, hnc, hnv⟩ := hor2.cellsAt hle2
                        have hone : ∀ u ∈ news, u.oneCell' = true := hnv.ones c5
                        have hnsz : (cs2.extract off (off + m0 * (z + 1))).size = m0 * (z + 1) := by have := hnv.1; simp only [List.size_toArray, hnl] at this; exact this
                        have hkm : (k + m0) * (z + 1) = k * (z + 1) + m0 * (z + 1) := Nat.add_mul _ _ _
                        have hasz : (cs ++ cs2.extract off (off + m0 * (z + 1))).size = (k + m0) * (z + 1) := by rw [Array.size_append, hnsz, c4]; exact hkm.symm
                        by_cases hroom : k + m0 ≤ c'
                        · have hfit : (k + m0) * (z + 1) ≤ c' * (z + 1) := Nat.mul_le_mul_right _ hroom
                          have hst := run_storeCells_at (P := P) im.blk (im.off + k * (z + 1)) te news 0 arr w ha (by rw [hnl]; omega) hone
                          simp only [Nat.add_zero] at hst
                          have hsp : (arr.toList.take (im.off + k * (z + 1)) ++ news ++ arr.toList.drop (im.off + k * (z + 1) + news.length)).toArray = CE.splice arr (im.off + k * (z + 1)) news.toArray := by simp [CE.splice]
                          rw [hsp] at hst
                          have hrun : (Builtin.append_ #[t, t] ty #[.slice (some ⟨im.blk, im.off + 0, none⟩) k c', .slice (some ⟨im2.blk, im2.off + off, none⟩) m0 cx]).run P w = .ok (.slice (some ⟨im.blk, im.off + 0, none⟩) (k + m0) c') (w.setRow im.blk (CE.splice arr (im.off + k * (z + 1)) news.toArray)) := by
                            have hfc := run_firstCells_some w (P := P) (z + 1) m0 _ m0 cx news hnl hnc
                            simp [Builtin.append_, run_underlying hu, sizeOf, typeInfo, hi, hsz, Builtin.lenOf, hroom, hfc, Addr.add_lit, hst]
                          have hssz : (CE.splice arr (im.off + k * (z + 1)) news.toArray).size = arr.size := splice_size (by simp [hnl]; omega)
                          refine ⟨_, _, _, _, hrun, post_growO hok hS hf (some b) (fun q e => by cases e; exact ⟨hbS, ⟨_, hg, trivial⟩, im, him, hrw⟩) im.blk im.off im.cap _ (hlow.2.1 hrw) (by simpa [World.setRow] using hlow.1) (.inr ⟨b, im, rfl, him, rfl⟩) (by simp [World.setRow]) (fun q _ hq => setRow_other w im.blk q _ (fun e => hq b im rfl him e.symm))
                            (OR.ofT rfl (setRow_heap w im.blk arr _ te _ ha) (by rw [hasz, hssz]; simp only; omega) (by rw [hssz]; exact hcap) fun j v hv => ?_) ⟨rfl, rfl, rfl⟩, rfl, .slice ⟨_, upd_self, rfl, rfl⟩ hroom q2 (fun _ im3 him3 _ _ => ?_), rfl⟩
                          · have hj : j < (k + m0) * (z + 1) := by rw [← hasz]; exact (Array.getElem?_eq_some_iff.1 hv).1
                            simp only
                            rw [splice_get (by simp [hnl]; omega)]
                            rw [Array.getElem?_append] at hv
                            split at hv
                            · rename_i hlt
                              obtain ⟨u, hu', hvr⟩ := hcc j v hv
                              rw [if_neg (by omega)]
                              exact ⟨u, hu', hvr.mono (upd_ext hf)⟩
                            · rename_i hlt
                              obtain ⟨u, hu', hvr⟩ := hnv.get hv
                              rw [if_pos ⟨by omega, by simp [hnl]; omega⟩]
                              refine ⟨u, ?_, hvr.mono (upd_ext hf)⟩
                              rw [show im.off + j - (im.off + k * (z + 1)) = j - cs.size by omega]
                              exact hu'
                          · rw [upd_self] at him3
                            cases him3
                            exact hce
                        · obtain ⟨olds, hol, hoc, hov⟩ := hor.cellsAt (off := 0) (s := k * (z + 1)) (by omega)
                          have hsm : ((k + m0 : Nat) : Int) ≤ 9223372036854775807 := by simp only [maxLen] at c7; omega
                          have hr := run_append_grow (P := P) w t ty te i zv hu hi hz ⟨im.blk, im.off + 0, none⟩ k c' olds (by rw [hol, hsz]) hoc ⟨im2.blk, im2.off + off, none⟩ m0 cx news (by rw [hnl, hsz]) hnc (by omega) hsm (growslice_fits (by omega) c8)
                          have hge := grownCap_ge w (k + m0) c' te
                          have hcm := grownCap_le_maxLen w (k + m0) c' te c7
                          obtain ⟨G, hG⟩ : ∃ G, G = grownCap w (k + m0) c' te := ⟨_, rfl⟩
                          rw [← hG] at hr hge hcm
                          have harr : (olds.toArray ++ news.toArray ++ Builtin.zeroCells zv.cells (G - (k + m0))).size = G * (z + 1) := by
                            rw [Array.size_append, Array.size_append, size_zeroCells, c6]
                            simp only [List.size_toArray, hol, hnl]
                            rw [← Nat.add_mul, ← Nat.add_mul]; congr 1; omega
                          have hGk : (k + m0) * (z + 1) ≤ G * (z + 1) := Nat.mul_le_mul_right _ hge
                          refine ⟨_, _, _, _, hr, post_growO hok hS hf (some b) (fun q e => by cases e; exact ⟨hbS, ⟨_, hg, trivial⟩, im, him, hrw⟩) w.heap.size 0 (G * (z + 1)) _ hB (by simp) (.inl (Nat.le_refl _)) (by simp) (fun q hq _ => heap_alloc_old w.drew _ q hq)
                            (OR.ofT rfl (heap_alloc_new w.drew _) (by rw [hasz, harr]; simp only; omega) (by rw [harr]; simp only; omega) fun j v hv => ?_) ⟨rfl, rfl, rfl⟩, rfl, .slice ⟨_, upd_self, rfl, rfl⟩ hge hcm (fun _ im3 him3 _ _ => ?_), rfl⟩
                          · have hj : j < (k + m0) * (z + 1) := by rw [← hasz]; exact (Array.getElem?_eq_some_iff.1 hv).1
                            simp only [Nat.zero_add]
                            rw [Array.getElem?_append_left (by simp [hol, hnl]; omega)]
                            rw [Array.getElem?_append] at hv ⊢
                            have hcex : cs.extract 0 (0 + k * (z + 1)) = cs := by rw [Nat.zero_add, ← c4]; simp
                            rw [hcex] at hov
                            split at hv
                            · rename_i hlt
                              obtain ⟨u, hu', hvr⟩ := hov.get hv
                              rw [if_pos (by simp [hol]; omega)]
                              exact ⟨u, hu', hvr.mono (upd_ext hf)⟩
                            · rename_i hlt
                              obtain ⟨u, hu', hvr⟩ := hnv.get hv
                              rw [if_neg (by simp [hol]; omega)]
                              refine ⟨u, ?_, hvr.mono (upd_ext hf)⟩
                              rw [show j - olds.toArray.size = j - cs.size by simp [hol]; omega]
                              exact hu'
                          · rw [upd_self] at him3
                            cases him3
                            rfl
                  · cases hn
                · cases hn
          · cases h
        · cases h
      · cases h
    · cases h
  · cases h
def cApp (P : Program) (t t' : TypeId) (H : Heap) (n : Nat) (s x : Value) : Option CR :=
  bif Nat.beq t t' then
    match cAppend P t H n (bare s) x with
    | some r => some r
    | none => match cAppT P t H n s x with
      | some r => some r
      | none => cApp0 P t H n s x
  else cAppZ P t t' H n s x

def partsOf (ev : Operand → Option Value) : List (Nat × Operand) → Option (List (Nat × Value))
  | [] => some []
  | (i, x) :: l => match ev x with
    | some v => match partsOf ev l with
      | some r => some ((i, v) :: r)
      | none => none
    | none => none
theorem partsOf_vr {μ : Mu} {ev : Operand → Option Value} {ρ : Operand → Value} : ∀ (l : List (Nat × Operand)) (ps : List (Nat × Value)), partsOf ev l = some ps → (∀ p ∈ l, ∀ v, ev p.2 = some v → VR μ v (ρ p.2)) →
    ps.length = (l.map fun p => (p.1, ρ p.2)).length ∧ ∀ (i : Nat) p p', ps[i]? = some p → (l.map fun p => (p.1, ρ p.2))[i]? = some p' → p'.1 = p.1 ∧ VR μ p.2 p'.2
  | [], ps, h, _ => by
    simp only [partsOf, Option.some.injEq] at h
    subst h
    exact ⟨rfl, fun i p p' hp _ => by simp at hp⟩
  | (i, x) :: l, ps, h, hv => by
    simp only [partsOf] at h
    cases hx : ev x with
    | none => rw [hx] at h; cases h
    | some v =>
      rw [hx] at h
      cases hr : partsOf ev l with
      | none => rw [hr] at h; cases h
      | some r =>
        rw [hr] at h
        simp only [Option.some.injEq] at h
        subst h
        obtain ⟨h1, h2⟩ := partsOf_vr l r hr (fun p hp => hv p (List.mem_cons_of_mem _ hp))
        refine ⟨by simpa using h1, fun j p p' hp hp' => ?_⟩
        cases j with
        | zero =>
          simp only [List.getElem?_cons_zero, List.map_cons, Option.some.injEq] at hp hp'
          subst hp hp'
          exact ⟨rfl, hv (i, x) (by simp) v hx⟩
        | succ j => exact h2 j p p' (by simpa using hp) (by simpa using hp')
def built (P : Program) (t : TypeId) (parts : List (Nat × Value)) : Option (Array Value) :=
  match inf P t, und P t with
  | some it, some (.array _ e) =>
    match it.zero, inf P e with
    | some z, some ie => Instr.fill (fun i => some (i * ie.size, ie.size)) z.cells parts
    | _, _ => none
  | some it, some (.struct fields) =>
    match it.zero, fields.toList.mapM (fun f => (inf P f.type).map fun i => (f.offset, i.size)) with
    | some z, some places => Instr.fill (nth places) z.cells parts
    | _, _ => none
  | _, _ => none
theorem built_eq (P : Program) (t : TypeId) (ps : List (Nat × Value)) : built P t ps = P.built t ps := by
  have e : ∀ l : List (Nat × Nat), nth l = (l.toArray[·]?) := fun l => funext fun i => by rw [nth_eq]; simp
  unfold built Program.built
  simp only [inf_eq, und_eq, e]
  rfl
def cBuild (P : Program) (t : TypeId) (ps : List (Nat × Value)) : Option Value :=
  match built P t ps with
  | some cs => bif (match zeroOf P t with | some z => af z | none => false) then some (.agg cs) else none
  | none => none
theorem cBuild_run {P : Program} {μ : Mu} {t : TypeId} {ps : List (Nat × Value)} {ps' : Array (Nat × Value)} {v : Value} (h : cBuild P t ps = some v) (hl : ps.length = ps'.toList.length) (hp : ∀ (i : Nat) p p', ps[i]? = some p → ps'.toList[i]? = some p' → p'.1 = p.1 ∧ VR μ p.2 p'.2) (w : World) :
    ∃ v', (Instr.build t ps').run P w = .ok v' w ∧ VR μ v v' := by
  unfold cBuild at h
  rw [built_eq] at h
  cases hb : P.built t ps with
  | none => rw [hb] at h; cases h
  | some cs =>
    rw [hb] at h
    dsimp only at h
    cases hz : zeroOf P t with
    | none => rw [hz] at h; cases h
    | some z =>
      rw [hz] at h
      dsimp only at h
      cases ha : af z with
      | false => rw [ha] at h; cases h
      | true =>
        rw [ha] at h
        simp only [cond_true, Option.some.injEq] at h
        subst h
        have hzz : VRs μ z.cells z.cells := (vr_af (μ := μ) ha).cells
        have key : ∃ cs', P.built t ps'.toList = some cs' ∧ VRs μ cs cs' := by
          unfold zeroOf at hz
          rw [inf_eq] at hz
          unfold Program.built at hb ⊢
          cases hi : P.info? t with
          | none => rw [hi] at hz; cases hz
          | some it =>
            rw [hi] at hz hb
            dsimp only at hz
            cases hu : P.underlying t with
            | none => rw [hu] at hb; cases hb
            | some d =>
              rw [hu] at hb
              cases d <;> simp only [hz] at hb ⊢ <;> first | (cases hb; done) | skip
              case array n e =>
                cases he : P.info? e with
                | none => rw [he] at hb; cases hb
                | some ie =>
                  rw [he] at hb
                  exact fill_vr ps ps'.toList _ _ cs hl hp hzz hb
              case struct fields =>
                cases he : fields.toList.mapM (fun f => (P.info? f.type).map fun i => (f.offset, i.size)) with
                | none => rw [he] at hb; cases hb
                | some places =>
                  rw [he] at hb
                  exact fill_vr ps ps'.toList _ _ cs hl hp hzz hb
        obtain ⟨cs', h1, h2⟩ := key
        exact ⟨.agg cs', run_build w t ps' cs' h1, .agg h2.1 h2.2⟩
end Go.CE

namespace Go.CE
open Go Go.RowKit

def cBuildSlice (P : Program) (t : TypeId) (len : Nat) (ps : List (Nat × Value)) : Option (TypeId × Array Value × Nat) :=
  match und P t with
  | some (.slice e) => match inf P e with
    | some i => match i.zero with
      | some z => bif decide (len * i.size ≤ 2 ^ 24) && Nat.blt 0 (len * i.size) && ((Array.range (len * i.size)).map (z.cells[· % z.cells.size]!)).all simple && Nat.ble len maxLen then
          match Instr.fill (fun j => some (j * i.size, i.size)) ((Array.range (len * i.size)).map (z.cells[· % z.cells.size]!)) ps with
          | some cs => bif Nat.beq cs.size (len * i.size) then some (e, cs, i.size) else none
          | none => none
        else none
      | none => none
    | none => none
  | _ => none
theorem cBuildSlice_run {P : Program} {B n : Nat} {S : Nat → Prop} {μ : Mu} {H : Heap} {w : World} {t e : TypeId} {len s : Nat} {ps : List (Nat × Value)} {ps' : Array (Nat × Value)} {cs : Array Value} (h : cBuildSlice P t len ps = some (e, cs, s)) (hok : Ok B S μ (hget H) w) (hB : B ≤ w.heap.size)
    (hS : ∀ i, S i → i < n) (hf : μ n = none) (hl : ps.length = ps'.toList.length) (hp : ∀ (i : Nat) p p', ps[i]? = some p → ps'.toList[i]? = some p' → p'.1 = p.1 ∧ VR μ p.2 p'.2) :
    ∃ v' w' μ', (Instr.buildSlice t len ps').run P w = .ok v' w' ∧ Post B S n (n + 1) [] μ μ' H ((n, .cells cs e (0, 0)) :: H) w w' ∧ VR μ' (.slice (some ⟨n, 0, none⟩) len s) v' := by
  unfold cBuildSlice at h
  simp only [und_eq, inf_eq] at h
  split at h
  · rename_i e0 hu
    split at h
    · rename_i i hi
      split at h
      · rename_i z hz
        cases hc : (decide (len * i.size ≤ 2 ^ 24) && Nat.blt 0 (len * i.size) && ((Array.range (len * i.size)).map (z.cells[· % z.cells.size]!)).all simple && Nat.ble len maxLen) with
        | false => rw [hc] at h; cases h
        | true =>
          rw [hc] at h
          simp only [cond_true] at h
          simp only [Bool.and_eq_true, decide_eq_true_eq] at hc
          obtain ⟨⟨⟨c1, c2⟩, c3⟩, c4⟩ := hc
          have c2 : 0 < len * i.size := Nat.le_of_ble_eq_true c2
          have c4 := Nat.le_of_ble_eq_true c4
          split at h
          · rename_i cs0 hfill
            cases hcs : Nat.beq cs0.size (len * i.size) with
            | false => rw [hcs] at h; cases h
            | true =>
              rw [hcs] at h
              simp only [cond_true, Option.some.injEq, Prod.mk.injEq] at h
              obtain ⟨rfl, rfl, rfl⟩ := h
              have hcs := Nat.eq_of_beq_eq_true hcs
              have hbase : VRs μ ((Array.range (len * i.size)).map (z.cells[· % z.cells.size]!)) ((Array.range (len * i.size)).map (z.cells[· % z.cells.size]!)) := ⟨rfl, fun j v v' hv hv' => by
                rw [hv] at hv'; cases hv'
                obtain ⟨hlt, rfl⟩ := Array.getElem?_eq_some_iff.1 hv
                exact vr_simple (Array.all_eq_true.1 c3 j hlt)⟩
              obtain ⟨cs', h1, h2⟩ := fill_vr ps ps'.toList _ _ cs0 hl hp hbase hfill
              refine ⟨_, _, _, run_buildSlice (P := P) w t e0 len ps' cs' i z hu hi hz (by omega) (by omega) h1, new_run hok hB hS hf cs0 cs' e0 (by rw [h2.1]; exact Nat.le_refl _) h2.all, ?_⟩
              refine .slice ⟨_, upd_self, rfl, rfl⟩ (Nat.le_refl _) c4 (fun _ im him _ _ => ?_)
              rw [show upd μ n ⟨w.heap.size, 0, cs'.size, true, nofm⟩ n = some _ from upd_self] at him
              cases him
              simp only
              rw [← h2.1, hcs]
          · cases h
      · cases h
    · cases h
  · cases h

def argsOf (ev : Operand → Option Value) : List Operand → Option (List Value)
  | [] => some []
  | x :: l => match ev x with
    | some v => match argsOf ev l with
      | some r => some (v :: r)
      | none => none
    | none => none
theorem argsOf_vr {μ : Mu} {ev : Operand → Option Value} {ρ : Operand → Value} : ∀ (l : List Operand) (vs : List Value), argsOf ev l = some vs → (∀ x ∈ l, ∀ v, ev x = some v → VR μ v (ρ x)) → VRs μ vs.toArray (l.map ρ).toArray
  | [], vs, h, _ => by
    simp only [argsOf, Option.some.injEq] at h
    subst h
    exact ⟨rfl, fun i p p' hp _ => by simp at hp⟩
  | x :: l, vs, h, hv => by
    simp only [argsOf] at h
    cases hx : ev x with
    | none => rw [hx] at h; cases h
    | some v =>
      rw [hx] at h
      cases hr : argsOf ev l with
      | none => rw [hr] at h; cases h
      | some r =>
        rw [hr] at h
        simp only [Option.some.injEq] at h
        subst h
        obtain ⟨h1, h2⟩ := argsOf_vr l r hr (fun p hp => hv p (List.mem_cons_of_mem _ hp))
        refine ⟨by simpa using h1, fun j p p' hp hp' => ?_⟩
        cases j with
        | zero =>
          simp only [List.getElem?_toArray, List.getElem?_cons_zero, List.map_cons, Option.some.injEq] at hp hp'
          subst hp hp'
          exact hv x (by simp) v hx
        | succ j => exact h2 j p p' (by simpa using hp) (by simpa using hp')
theorem VRs.append {μ : Mu} {xs xs' ys ys' : Array Value} (h : VRs μ xs xs') (k : VRs μ ys ys') : VRs μ (xs ++ ys) (xs' ++ ys') := by
  refine ⟨by simp [h.1, k.1], fun i v v' hv hv' => ?_⟩
  rw [Array.getElem?_append] at hv hv'
  rw [← h.1] at hv'
  split at hv
  · rename_i hlt
    rw [if_pos hlt] at hv'
    exact h.2 i v v' hv hv'
  · rename_i hlt
    rw [if_neg hlt] at hv'
    exact k.2 _ v v' hv hv'

def okFn (P : Program) (f : FuncId) : Bool :=
  match P.funcs[f]? with
  | some fn => fn.body.isSome && !(fn.name == "runtime.NumGoroutine")
  | none => false
theorem callFunc_run {P : Program} {f : FuncId} (h : okFn P f = true) (args : Array Value) (w : World) : (callFunc f args).run P w = .ok (.enter f args) w := by
  unfold okFn at h
  cases hf : P.funcs[f]? with
  | none => rw [hf] at h; cases h
  | some fn =>
    rw [hf] at h
    simp only [Bool.and_eq_true, Bool.not_eq_true'] at h
    have hn : ¬ fn.name = "runtime.NumGoroutine" := by simpa using h.2
    have hb : ¬ fn.body = none := fun e => by rw [e] at h; simp at h
    simp [callFunc, hf, hn, hb]
theorem VRs.fold {μ : Mu} : ∀ (l : List (Nat × Value)) (l' : List (Nat × Value)) (xs xs' : Array Value), l.length = l'.length → (∀ (i : Nat) p p', l[i]? = some p → l'[i]? = some p' → p'.1 = p.1 ∧ VR μ p.2 p'.2) → VRs μ xs xs' →
    VRs μ (l.foldl (fun tm (x : Nat × Value) => tm.setIfInBounds x.1 x.2) xs) (l'.foldl (fun tm (x : Nat × Value) => tm.setIfInBounds x.1 x.2) xs')
  | [], [], _, _, _, _, h => h
  | (i, v) :: l, (i', v') :: l', xs, xs', hl, hp, h => by
    obtain ⟨h1, h2⟩ := hp 0 (i, v) (i', v') rfl rfl
    simp only at h1 h2
    subst h1
    simp only [List.foldl_cons]
    exact VRs.fold l l' _ _ (by simpa using hl) (fun j a b x y => hp (j + 1) a b (by simpa using x) (by simpa using y)) (h.set h2 _)
  | [], _ :: _, _, _, hl, _, _ => by simp at hl
  | _ :: _, [], _, _, hl, _, _ => by simp at hl
def cCall (F : FuncId → Bool) (H : Heap) (f : Value) (args : Array Value) : Option (CN × List Nat) :=
  match f with
  | .func (.func g) xs ys => bif F g then some (.enter g (xs ++ args ++ ys), []) else none
  | .func (.yield l) xs ys => match hget H l with
    | some (.loop r) => bif Nat.beq args.size r.params.size && Nat.beq xs.size 0 && Nat.beq ys.size 0 then some (.round l r.fn ((r.params.zip args).toList.foldl (fun tm (x : Nat × Value) => tm.setIfInBounds x.1 x.2) r.tmps) r.assign r.body, [l]) else none
    | _ => none
  | _ => none
theorem cCall_run {P : Program} {F : FuncId → Bool} (hF : ∀ g, F g = true → okFn P g = true) {B : Nat} {S : Nat → Prop} {μ : Mu} {H : Heap} {w : World} {f f' : Value} {args args' : Array Value} {nx : CN} {R : List Nat} (h : cCall F H f args = some (nx, R)) (hok : Ok B S μ (hget H) w) (hf : VR μ f f')
    (ha : VRs μ args args') (hR : ∀ i ∈ R, S i) : ∃ nx', (do let d ← Deferred.ofValue f' args'; invoke d.target d.args : Sem Next).run P w = .ok nx' w ∧ NR μ nx nx' := by
  unfold cCall at h
  split at h
  · rename_i g xs ys
    cases hg : F g with
    | false => rw [hg] at h; cases h
    | true =>
      rw [hg] at h
      simp only [cond_true, Option.some.injEq, Prod.mk.injEq] at h
      obtain ⟨rfl, _⟩ := h
      cases hf with
      | func h1 h2 h3 h4 =>
        refine ⟨_, ?_, .enter ((VRs.append (VRs.append ⟨h1, h3⟩ ha) ⟨h2, h4⟩))⟩
        simp only [Deferred.ofValue, Sem.run_bind, Sem.run_pure, Result.andThen_ok, invoke, callFunc_run (hF g hg)]
  · rename_i l xs ys
    split at h
    · rename_i r hl
      cases hs : (Nat.beq args.size r.params.size && Nat.beq xs.size 0 && Nat.beq ys.size 0) with
      | false => rw [hs] at h; cases h
      | true =>
        rw [hs] at h
        simp only [cond_true, Option.some.injEq, Prod.mk.injEq] at h
        obtain ⟨rfl, rfl⟩ := h
        simp only [Bool.and_eq_true] at hs
        have hsz := Nat.eq_of_beq_eq_true hs.1.1
        obtain ⟨im, him, hor⟩ := hok.rel l _ (hR l (by simp)) hl trivial
        obtain ⟨_, tm, df, hw, htm⟩ := hor
        cases hf with
        | yield hy =>
          rw [him] at hy; cases hy
          refine ⟨_, ?_, .round him (xs' := (r.params.zip args').toList.foldl (fun tm (x : Nat × Value) => tm.setIfInBounds x.1 x.2) tm) ?_⟩
          · have hgo : (getObj im.blk).run P w = .ok (.loop { r with tmps := tm, defers := df }) w := by simp [getObj, Sem.run, hw]
            have hne : ¬ args'.size ≠ r.params.size := by rw [← ha.1]; simp [hsz]
            simp only [Deferred.ofValue, Sem.run_bind, Sem.run_pure, Result.andThen_ok, invoke, Instr.yield, Instr.getLoop, hgo, Array.empty_append, hne, if_false, ← Array.foldl_toList]
          · refine VRs.fold _ _ _ _ (by simp [ha.1]) (fun i p p' hp hp' => ?_) htm
            simp only [Array.toList_zip, List.getElem?_zip_eq_some, Array.getElem?_toList] at hp hp'
            have := hp.1
            rw [hp'.1] at this
            exact ⟨by simpa using this, ha.2 i _ _ hp.2 hp'.2⟩
    · cases h
  · cases h
end Go.CE

namespace Go.CE
open Go Go.RowKit

def lim63 : Nat := 9223372036854775808
def wq (n : Int) : Int := match n with
  | .ofNat m => bif Nat.blt m lim63 then .ofNat m else IntKind.i64.wrap (.ofNat m)
  | .negSucc m => bif Nat.blt m lim63 then .negSucc m else IntKind.i64.wrap (.negSucc m)
theorem blt_eq (m k : Nat) : Nat.blt m k = decide (m < k) := by
  by_cases h : m < k
  · rw [decide_eq_true h]; exact Nat.ble_eq_true_of_le h
  · rw [decide_eq_false h]
    cases e : Nat.blt m k with
    | false => rfl
    | true => exact absurd (Nat.le_of_ble_eq_true e) h
theorem beq_nat (m k : Nat) : Nat.beq m k = decide (m = k) := by
  by_cases h : m = k
  · subst h; simp
  · rw [beq_no h, decide_eq_false h]
theorem wq_pos (m : Nat) : wq (.ofNat m) = IntKind.i64.wrap (.ofNat m) := by
  show (bif Nat.blt m lim63 then Int.ofNat m else IntKind.i64.wrap (.ofNat m)) = _
  rw [blt_eq]
  by_cases h : m < lim63
  · rw [decide_eq_true h, cond_true, IntKind.wrap_i64, Int.ofNat_eq_natCast]
    unfold lim63 at h
    omega
  · rw [decide_eq_false h, cond_false]
theorem wq_neg (m : Nat) : wq (.negSucc m) = IntKind.i64.wrap (.negSucc m) := by
  show (bif Nat.blt m lim63 then Int.negSucc m else IntKind.i64.wrap (.negSucc m)) = _
  rw [blt_eq]
  by_cases h : m < lim63
  · rw [decide_eq_true h, cond_true, IntKind.wrap_i64, Int.negSucc_eq]
    unfold lim63 at h
    omega
  · rw [decide_eq_false h, cond_false]
theorem wq_eq (n : Int) : wq n = IntKind.i64.wrap n := by
  cases n with
  | ofNat m => exact wq_pos m
  | negSucc m => exact wq_neg m
def ltq : Int → Int → Bool
  | .ofNat a, .ofNat b => Nat.blt a b
  | .ofNat _, .negSucc _ => false
  | .negSucc _, .ofNat _ => true
  | .negSucc a, .negSucc b => Nat.blt b a
theorem ltq_eq (a b : Int) : ltq a b = decide (a < b) := by
  rw [Bool.eq_iff_iff]
  cases a <;> cases b <;> simp only [ltq, blt_eq, Int.ofNat_eq_natCast, Int.negSucc_eq, decide_eq_true_eq, Bool.false_eq_true, false_iff, true_iff] <;> omega
def eqq : Int → Int → Bool
  | .ofNat a, .ofNat b => Nat.beq a b
  | .negSucc a, .negSucc b => Nat.beq a b
  | _, _ => false
theorem eqq_eq (a b : Int) : eqq a b = (a == b) := by
  rw [Bool.eq_iff_iff]
  cases a <;> cases b <;> simp only [eqq, beq_nat, beq_iff_eq, decide_eq_true_eq, Int.ofNat_eq_natCast, Int.negSucc_eq, Bool.false_eq_true, false_iff] <;> omega
def cBin : BinOp → Value → Value → Option Value
  | .add, .int .i64 a, .int .i64 b => some (.int .i64 (wq (a + b)))
  | .sub, .int .i64 a, .int .i64 b => some (.int .i64 (wq (a - b)))
  | .mul, .int .i64 a, .int .i64 b => some (.int .i64 (wq (a * b)))
  | .eql, .int .i64 a, .int .i64 b => some (.bool (eqq a b))
  | .neq, .int .i64 a, .int .i64 b => some (.bool (!(eqq a b)))
  | .lss, .int .i64 a, .int .i64 b => some (.bool (ltq a b))
  | .gtr, .int .i64 a, .int .i64 b => some (.bool (ltq b a))
  | .leq, .int .i64 a, .int .i64 b => some (.bool (!(ltq b a)))
  | .geq, .int .i64 a, .int .i64 b => some (.bool (!(ltq a b)))
  | _, _, _ => none
theorem cBin_run {P : Program} {op : BinOp} {t : TypeId} {x y : Operand} {a b v : Value} (h : cBin op a b = some v) (w : World) : (do eqGuard op t x y a b; binOp op t a b : Sem Value).run P w = .ok v w ∧ (∀ μ, VR μ v v) ∧ (∀ μ a', VR μ a a' → a' = a) ∧ (∀ μ b', VR μ b b' → b' = b) := by
  have hle : ∀ a b : Int, (!(ltq b a)) = decide (a ≤ b) := fun a b => by
    rw [ltq_eq, Bool.eq_iff_iff]
    simp only [Bool.not_eq_true', decide_eq_false_iff_not, decide_eq_true_eq]
    omega
  unfold cBin at h
  split at h <;> first
    | (cases h; done)
    | (simp only [Option.some.injEq] at h
       subst h
       refine ⟨?_, fun μ => by first | exact .int _ _ | exact .bool _, fun μ a' ha => by cases ha; rfl, fun μ b' hb => by cases hb; rfl⟩
       first
         | (simp [eqGuard, binOp, Op.intArith, wq_eq]; done)
         | (simp [eqGuard, binOp, Op.intCmp, eqq_eq]; done)
         | (simp [eqGuard, binOp, Op.intCmp, eqq_eq, bne]; done)
         | (simp [eqGuard, binOp, Op.intCmp, ltq_eq]; done)
         | (simp [eqGuard, binOp, Op.intCmp, hle]; done))

theorem pureRun_bind {α β : Type} {P : Program} (s : Sem α) (f : α → Sem β) : pureRun P (s >>= f) = match pureRun P s with | some a => pureRun P (f a) | none => none := by
  show pureRun P (s.bind f) = _
  induction s with
  | pure a => rfl
  | program k ih => exact ih P
  | _ => rfl
theorem pureRun_pure {α : Type} {P : Program} (a : α) : pureRun P (pure a : Sem α) = some a := rfl

def ER (μ : Mu) (es es' : List MapEntry) : Prop := es.length = es'.length ∧ ∀ (i : Nat) e e', es[i]? = some e → es'[i]? = some e' → e'.key = e.key ∧ e'.born = e.born ∧ af e.key = true ∧ VR μ e.val e'.val
theorem ER.tail {μ : Mu} {e e' : MapEntry} {es es' : List MapEntry} (h : ER μ (e :: es) (e' :: es')) : ER μ es es' := ⟨by simpa using h.1, fun i a b x y => h.2 (i + 1) a b (by simpa using x) (by simpa using y)⟩
def FR (μ : Mu) : Option (Nat × Value) → Option (Nat × Value) → Prop
  | none, none => True
  | some (i, v), some (i', v') => i' = i ∧ VR μ v v'
  | _, _ => False
theorem findNow_vr {μ : Mu} {kind : TypeDesc} {k : Value} : ∀ (es es' : List MapEntry) (i : Nat), ER μ es es' → (∀ r, Instr.findNow kind k es i = some r → ∃ r', Instr.findNow kind k es' i = some r' ∧ FR μ r r') ∧ (Instr.findNow kind k es i = none → Instr.findNow kind k es' i = none)
  | [], [], i, _ => by
    refine ⟨fun r h => ?_, fun h => by simp [Instr.findNow] at h⟩
    simp only [Instr.findNow, Option.some.injEq] at h
    subst h
    exact ⟨none, rfl, trivial⟩
  | e :: es, e' :: es', i, h => by
    obtain ⟨h1, _, _, h4⟩ := h.2 0 e e' rfl rfl
    simp only [Instr.findNow, h1]
    cases Instr.sameNow kind k e.key with
    | none => exact ⟨fun r h => (by cases h), fun _ => rfl⟩
    | some b =>
      cases b with
      | true => exact ⟨fun r h => by simp only [Option.some.injEq] at h; subst h; exact ⟨_, rfl, rfl, h4⟩, fun h => by cases h⟩
      | false => exact findNow_vr es es' (i + 1) h.tail
  | [], _ :: _, _, h => by have := h.1; simp at this
  | _ :: _, [], _, h => by have := h.1; simp at this
theorem findAsking_vr {P : Program} {μ : Mu} {kt : TypeId} {k : Value} : ∀ (es es' : List MapEntry) (i : Nat) r, ER μ es es' → pureRun P (Instr.findAsking kt k es i) = some r → ∃ r', pureRun P (Instr.findAsking kt k es' i) = some r' ∧ FR μ r r'
  | [], [], i, r, _, h => by
    simp only [Instr.findAsking, pureRun_pure, Option.some.injEq] at h
    subst h
    exact ⟨none, rfl, trivial⟩
  | e :: es, e' :: es', i, r, h, hr => by
    obtain ⟨h1, _, _, h4⟩ := h.2 0 e e' rfl rfl
    simp only [Instr.findAsking, h1, pureRun_bind] at hr ⊢
    cases hq : pureRun P (Op.equal kt k e.key) with
    | none => rw [hq] at hr; cases hr
    | some b =>
      rw [hq] at hr
      cases b with
      | true =>
        simp only [if_true, pureRun_pure, Option.some.injEq] at hr ⊢
        subst hr
        exact ⟨_, rfl, rfl, h4⟩
      | false =>
        simp only [Bool.false_eq_true, if_false] at hr ⊢
        exact findAsking_vr es es' (i + 1) r h.tail hr
  | [], _ :: _, _, _, h, _ => by have := h.1; simp at this
  | _ :: _, [], _, _, h, _ => by have := h.1; simp at this
theorem findKey_vr {P : Program} {μ : Mu} {kt : TypeId} {k : Value} {es es' : List MapEntry} {r : Option (Nat × Value)} (h : ER μ es es') (hr : pureRun P (Instr.findKey kt k es) = some r) : ∃ r', pureRun P (Instr.findKey kt k es') = some r' ∧ FR μ r r' := by
  simp only [Instr.findKey, pureRun_bind] at hr ⊢
  cases hu : pureRun P (underlying kt) with
  | none => rw [hu] at hr; cases hr
  | some d =>
    rw [hu] at hr
    dsimp only at hr ⊢
    obtain ⟨h1, h2⟩ := findNow_vr (kind := d) (k := k) es es' 0 h
    cases hf : Instr.findNow d k es 0 with
    | some r0 =>
      rw [hf] at hr
      obtain ⟨r', hr', hv⟩ := h1 r0 hf
      simp only [pureRun_pure, Option.some.injEq] at hr
      subst hr
      rw [hr']
      exact ⟨r', rfl, hv⟩
    | none =>
      rw [hf] at hr
      rw [h2 hf]
      exact findAsking_vr es es' 0 r h hr
theorem ER.of {μ : Mu} {es es' : Array MapEntry} (h1 : es.size = es'.size) (h2 : ∀ (i : Nat) e e', es[i]? = some e → es'[i]? = some e' → e'.key = e.key ∧ e'.born = e.born ∧ af e.key = true ∧ VR μ e.val e'.val) : ER μ es.toList es'.toList :=
  ⟨by simpa using h1, fun i a b x y => h2 i a b (by simpa using x) (by simpa using y)⟩
theorem getObj_run {P : Program} {w : World} {b : Nat} {es : Array MapEntry} {clk : Nat} (h : w.heap[b]? = some (.map es clk)) : (getObj b).run P w = .ok (.map es clk) w := by simp [getObj, Sem.run, h]
def cLookup (P : Program) (t : TypeId) (H : Heap) (ok : Bool) (x k : Value) : Option (Value × List Nat) :=
  match und P t with
  | some (.map kt e) =>
    match (match x with
      | .map none => some (#[], [])
      | .map (some r) => match hget H r with
        | some (.map es _) => some (es, [r])
        | _ => none
      | _ => none : Option (Array MapEntry × List Nat)) with
    | some (es, R) => bif af k then
        match pureRun P (Instr.checkKey es.isEmpty 10000 kt k), pureRun P (Instr.findKey kt k es.toList), zeroOf P e with
        | some (), some (some (_, v)), _ => some (bif ok then .tuple #[v, .bool true] else v, R)
        | some (), some none, some z => bif af z then some (bif ok then .tuple #[z, .bool false] else z, R) else none
        | _, _, _ => none
      else none
    | none => none
  | _ => none
theorem vr_pair {μ : Mu} {a a' b b' : Value} (h : VR μ a a') (k : VR μ b b') : VR μ (.tuple #[a, b]) (.tuple #[a', b']) := by
  refine .tuple rfl fun i v v' hv hv' => ?_
  rcases i with _ | _ | i
  · simp at hv hv'; subst hv hv'; exact h
  · simp at hv hv'; subst hv hv'; exact k
  · simp at hv
theorem cLookup_run {P : Program} {B : Nat} {S : Nat → Prop} {μ : Mu} {H : Heap} {w : World} {t : TypeId} {ok : Bool} {x k x' k' v : Value} {R : List Nat} (h : cLookup P t H ok x k = some (v, R)) (hok : Ok B S μ (hget H) w) (hx : VR μ x x') (hk : VR μ k k') (hR : ∀ i ∈ R, S i) :
    ∃ v', (Instr.lookup t x' k' ok).run P w = .ok v' w ∧ VR μ v v' := by
  unfold cLookup at h
  simp only [und_eq] at h
  split at h
  · rename_i kt e hu
    split at h
    · rename_i es R0 hes
      cases hak : af k with
      | false => rw [hak] at h; cases h
      | true =>
        rw [hak] at h
        simp only [cond_true] at h
        have hkk : k' = k := af_eq hak hk
        subst hkk
        have hRR : R0 = R := by
          split at h
          · simp only [Option.some.injEq, Prod.mk.injEq] at h; exact h.2
          · rename_i z _ _ _
            cases hz : af z with
            | false => rw [hz] at h; cases h
            | true => rw [hz] at h; simp only [cond_true, Option.some.injEq, Prod.mk.injEq] at h; exact h.2
          · cases h
        subst hRR
        -- the entries in the world
        have hent : ∃ es', ER μ es.toList es'.toList ∧ (x' = .map none ∧ es' = #[] ∨ ∃ b clk, x' = .map (some b) ∧ w.heap[b]? = some (.map es' clk)) := by
          split at hes
          · simp only [Option.some.injEq, Prod.mk.injEq] at hes
            obtain ⟨rfl, _⟩ := hes
            cases hx
            exact ⟨#[], ⟨rfl, fun i a b x _ => by simp at x⟩, .inl ⟨rfl, rfl⟩⟩
          · rename_i r
            split at hes
            · rename_i es0 clk hg
              simp only [Option.some.injEq, Prod.mk.injEq] at hes
              obtain ⟨rfl, rfl⟩ := hes
              obtain ⟨im, him, _, es', hw, h1, h2⟩ := hok.rel r _ (hR r (by simp)) hg trivial
              cases hx with
              | map hm =>
                rw [him] at hm; cases hm
                exact ⟨es', .of h1 h2, .inr ⟨im.blk, clk, rfl, hw⟩⟩
            · cases hes
          · cases hes
        obtain ⟨es', hER, hrun⟩ := hent
        have hemp : es'.isEmpty = es.isEmpty := by
          have h1 := hER.1
          simp only [Array.length_toList] at h1
          rw [Bool.eq_iff_iff]; simp only [Array.isEmpty_iff_size_eq_zero]; omega
        have run2 : ∀ r v0, pureRun P (Instr.checkKey es.isEmpty 10000 kt k') = some () → pureRun P (Instr.findKey kt k' es.toList) = some r →
            (∀ r', FR μ r r' → ∃ v', (do let (v, ok') ← (match r' with | some (_, v) => pure (v, true) | none => do pure (← zeroValue e, false) : Sem (Value × Bool)); pure (if ok then .tuple #[v, .bool ok'] else v) : Sem Value).run P w = .ok v' w ∧ VR μ v0 v') →
            ∃ v', (Instr.lookup t x' k' ok).run P w = .ok v' w ∧ VR μ v0 v' := by
          intro r v0 hc hf hfin
          obtain ⟨r', hr', hfr⟩ := findKey_vr hER hf
          obtain ⟨v', hv', hvr⟩ := hfin r' hfr
          refine ⟨v', ?_, hvr⟩
          have hc' := pureRun_run hc w
          have hr'' := pureRun_run hr' w
          rw [← hemp] at hc'
          simp only [Sem.run_bind] at hv'
          rcases hrun with ⟨rfl, rfl⟩ | ⟨b, clk, rfl, hw⟩
          · simp only [Instr.lookup, Sem.run_bind, run_underlying hu, Result.andThen_ok, Sem.run_pure, hc', hr'']
            cases r' <;> first | simpa using hv' | (simp only [Sem.run_bind] at hv'; cases hzr : Sem.run P (zeroValue e) w <;> rw [hzr] at hv' <;> first | (cases hv'; done) | simpa [hzr] using hv')
          · simp only [Instr.lookup, Sem.run_bind, run_underlying hu, Result.andThen_ok, Sem.run_pure, getObj_run hw, hc', hr'']
            cases r' <;> first | simpa using hv' | (simp only [Sem.run_bind] at hv'; cases hzr : Sem.run P (zeroValue e) w <;> rw [hzr] at hv' <;> first | (cases hv'; done) | simpa [hzr] using hv')
        split at h
        · rename_i i0 v0 hc hf
          simp only [Option.some.injEq, Prod.mk.injEq] at h
          obtain ⟨rfl, _⟩ := h
          refine run2 _ _ hc hf fun r' hfr => ?_
          cases r' with
          | none => exact hfr.elim
          | some p =>
            obtain ⟨i', v'⟩ := p
            cases ok with
            | true => exact ⟨_, rfl, vr_pair hfr.2 (.bool true)⟩
            | false => exact ⟨_, rfl, hfr.2⟩
        · rename_i z hc hf hz
          cases haz : af z with
          | false => rw [haz] at h; cases h
          | true =>
            rw [haz] at h
            simp only [cond_true, Option.some.injEq, Prod.mk.injEq] at h
            obtain ⟨rfl, _⟩ := h
            refine run2 _ _ hc hf fun r' hfr => ?_
            cases r' with
            | some p => exact hfr.elim
            | none =>
              cases ok with
              | true => exact ⟨.tuple #[z, .bool false], by simp [zeroOf_run hz], vr_pair (vr_af haz) (.bool false)⟩
              | false => exact ⟨z, by simp [zeroOf_run hz], vr_af haz⟩
        · cases h
    · cases h
  · cases h
def cMapUpdate (P : Program) (t : TypeId) (H : Heap) (x k v : Value) : Option (Heap × Nat) :=
  match und P t, x with
  | some (.map kt _), .map (some r) => match hget H r with
    | some (.map es clk) => bif af k then
        match pureRun P (Instr.checkKey false 10000 kt k), pureRun P (Instr.findKey kt k es.toList) with
        | some (), some (some (i, _)) => match es[i]? with
          | some e => bif Instr.sameBits 10000 e.key k then some (hset H r (.map (es.setIfInBounds i { e with key := k, val := v }) clk), r) else none
          | none => none
        | some (), some none => some (hset H r (.map (es.push { key := k, val := v, born := clk }) (clk + 1)), r)
        | _, _ => none
      else none
    | _ => none
  | _, _ => none
theorem setObj_run {P : Program} {w : World} {b : Nat} {es : Array MapEntry} {clk : Nat} (o : Obj) (h : w.heap[b]? = some (.map es clk)) : (setObj b o).run P w = .ok () { w with heap := w.heap.setIfInBounds b o } := by simp [setObj, Sem.run, h]
theorem cMapUpdate_run {P : Program} {B n : Nat} {S : Nat → Prop} {μ : Mu} {H H' : Heap} {w : World} {t : TypeId} {x k v x' k' v' : Value} {b : Nat} (h : cMapUpdate P t H x k v = some (H', b)) (hok : Ok B S μ (hget H) w) (hS : ∀ i, S i → i < n) (hx : VR μ x x') (hk : VR μ k k') (hv : VR μ v v') (hb : S b) :
    ∃ w', (Instr.mapUpdate t x' k' v').run P w = .ok () w' ∧ Post B S n n [b] μ μ H H' w w' := by
  unfold cMapUpdate at h
  simp only [und_eq] at h
  split at h
  · rename_i kt e0 r hu
    split at h
    · rename_i es clk hg
      cases hak : af k with
      | false => rw [hak] at h; cases h
      | true =>
        rw [hak] at h
        simp only [cond_true] at h
        have hkk : k' = k := af_eq hak hk
        subst hkk
        have hbr : r = b := by
          split at h
          · split at h
            · rename_i e _
              cases hs : Instr.sameBits 10000 e.key k' with
              | false => rw [hs] at h; cases h
              | true => rw [hs] at h; simp only [cond_true, Option.some.injEq, Prod.mk.injEq] at h; exact h.2
            · cases h
          · simp only [Option.some.injEq, Prod.mk.injEq] at h; exact h.2
          · cases h
        subst hbr
        obtain ⟨im, him, hr, es', hw, h1, h2⟩ := hok.rel r _ hb hg trivial
        have hER := ER.of h1 h2
        have hlt : im.blk < w.heap.size := (Array.getElem?_eq_some_iff.1 hw).1
        cases hx with
        | map hm =>
          rw [him] at hm; cases hm
          have fin : ∀ (es2 es2' : Array MapEntry) (clk2 : Nat), ER μ es2.toList es2'.toList →
              Post B S n n [r] μ μ H (hset H r (.map es2 clk2)) w { w with heap := w.heap.setIfInBounds im.blk (.map es2' clk2) } := by
            intro es2 es2' clk2 hE
            refine Post.write hok hS r _ _ im hb hg trivial him hr (by simp) (fun q hq => ?_) ⟨hr, es2', ?_, by simpa using hE.1, fun i a c ha hc => hE.2 i a c (by simpa using ha) (by simpa using hc)⟩ ⟨rfl, rfl, rfl⟩
            · simp [Array.getElem?_setIfInBounds_ne (Ne.symm hq)]
            · simp [hlt]
          split at h
          · rename_i i v0 hc hf
            split at h
            · rename_i e he
              cases hs : Instr.sameBits 10000 e.key k' with
              | false => rw [hs] at h; cases h
              | true =>
                rw [hs] at h
                simp only [cond_true, Option.some.injEq, Prod.mk.injEq] at h
                obtain ⟨rfl, _⟩ := h
                obtain ⟨r', hr', hfr⟩ := findKey_vr hER hf
                cases r' with
                | none => exact hfr.elim
                | some p =>
                  obtain ⟨i', v0'⟩ := p
                  obtain ⟨rfl, _⟩ := hfr
                  have hi : i' < es'.size := h1 ▸ (Array.getElem?_eq_some_iff.1 he).1
                  obtain ⟨e', he'⟩ : ∃ e', es'[i']? = some e' := ⟨es'[i'], by simp [hi]⟩
                  obtain ⟨q1, q2, q3, q4⟩ := h2 i' e e' he he'
                  have hmod : es'.modify i' (fun e => { e with key := k', val := v' }) = es'.setIfInBounds i' { e' with key := k', val := v' } := by
                    apply Array.ext (by simp)
                    intro j hj hj'
                    simp only [Array.size_modify] at hj
                    have hee : es'[i'] = e' := by simpa [hi] using he'
                    rw [Array.getElem_modify]
                    by_cases e1 : i' = j
                    · subst e1; simp [hee]
                    · simp [e1, hj]
                  refine ⟨_, ?_, fin _ (es'.setIfInBounds i' { e' with key := k', val := v' }) clk ?_⟩
                  · simp only [Instr.mapUpdate, Sem.run_bind, run_underlying hu, Result.andThen_ok, getObj_run hw, pureRun_run hc, pureRun_run hr', he', Option.map_some, Option.getD_some, q1, Instr.keyThatStays, hs, if_true, Sem.run_pure]
                    rw [setObj_run _ hw, hmod]
                  · refine ⟨by simpa using h1, fun j a c ha hc => ?_⟩
                    simp only [Array.getElem?_toList] at ha hc
                    rw [Array.getElem?_setIfInBounds] at ha hc
                    by_cases e1 : i' = j
                    · subst e1
                      rw [if_pos rfl] at ha hc
                      rw [if_pos (by rw [h1]; exact hi)] at ha
                      rw [if_pos hi] at hc
                      cases ha; cases hc
                      exact ⟨rfl, q2, hak, hv⟩
                    · rw [if_neg e1] at ha hc
                      exact h2 j a c ha hc
            · cases h
          · rename_i hc hf
            simp only [Option.some.injEq, Prod.mk.injEq] at h
            obtain ⟨rfl, _⟩ := h
            obtain ⟨r', hr', hfr⟩ := findKey_vr hER hf
            cases r' with
            | some p => exact hfr.elim
            | none =>
              refine ⟨_, ?_, fin _ (es'.push { key := k', val := v', born := clk }) (clk + 1) ?_⟩
              · simp only [Instr.mapUpdate, Sem.run_bind, run_underlying hu, Result.andThen_ok, getObj_run hw, pureRun_run hc, pureRun_run hr']
                rw [setObj_run _ hw]
              · refine ⟨by simpa using h1, fun j a c ha hc => ?_⟩
                simp only [Array.getElem?_toList] at ha hc
                rw [Array.getElem?_push] at ha hc
                rw [← h1] at hc
                split at ha
                · rename_i e1
                  rw [if_pos e1] at hc
                  cases ha; cases hc
                  exact ⟨rfl, rfl, hak, hv⟩
                · rename_i e1
                  rw [if_neg e1] at hc
                  exact h2 j a c ha hc
          · cases h
    · cases h
  · cases h
def cCopy (P : Program) (t : TypeId) (H : Heap) (n : Nat) (s x : Value) : Option CR :=
  match und P t with
  | some (.slice e) => match szOf P e with
    | some z => match s, x with
      | .slice (some ⟨b, off, none⟩) k _, .slice (some ⟨b2, off2, none⟩) m _ => match hget H b, hget H b2 with
        | some (.cells cs te (0, 0)), some (.cells cs2 _ _) =>
          bif Nat.ble (off + Nat.min m k * z) cs.size && Nat.ble (off2 + Nat.min m k * z) cs2.size && ones (cs2.extract off2 (off2 + Nat.min m k * z)) then
            some ⟨.val (.int .i64 (Nat.min m k)), hset H b (.cells (splice cs off (cs2.extract off2 (off2 + Nat.min m k * z))) te (0, 0)), n, [b, b2], [b]⟩ else none
        | _, _ => none
      | _, _ => none
    | none => none
  | _ => none
theorem cCopy_run {P : Program} {B n : Nat} {S : Nat → Prop} {μ : Mu} {H : Heap} {w : World} {t t2 ty : TypeId} {s x s' x' : Value} {r : CR} (h : cCopy P t H n s x = some r) (hok : Ok B S μ (hget H) w) (hS : ∀ i, S i → i < n)
    (hs : VR μ s s') (hx : VR μ x x') (hR : ∀ i ∈ r.R, S i) :
    ∃ v w', (Builtin.copy_ #[t, t2] ty #[s', x']).run P w = .ok v w' ∧ Post B S n r.n r.W μ μ H r.H w w' ∧ r.nx = .val v ∧ VR μ v v ∧ r.n = n := by
  unfold cCopy at h
  simp only [und_eq] at h
  split at h
  · rename_i e hu
    split at h
    · rename_i z hz
      split at h
      · rename_i b off k cap b2 off2 m cap2
        split at h
        · rename_i cs te cs2 te2 fz2 hg hg2
          cases hcond : (Nat.ble (off + Nat.min m k * z) cs.size && Nat.ble (off2 + Nat.min m k * z) cs2.size && ones (cs2.extract off2 (off2 + Nat.min m k * z))) with
          | false => rw [hcond] at h; cases h
          | true =>
            rw [hcond] at h
            simp only [cond_true, Option.some.injEq] at h
            subst h
            simp only [Bool.and_eq_true] at hcond
            obtain ⟨⟨h1, h2⟩, h3⟩ := hcond
            have h1 := Nat.le_of_ble_eq_true h1
            have h2 := Nat.le_of_ble_eq_true h2
            have hb : S b := hR b (by simp)
            have hb2 : S b2 := hR b2 (by simp)
            obtain ⟨im, him, hor⟩ := hok.rel b _ hb hg trivial
            obtain ⟨im2, him2, hor2⟩ := hok.rel b2 _ hb2 hg2 trivial
            cases hs with
            | slice har q1 q2 q3 =>
              obtain ⟨im', him', _, rfl⟩ := har
              simp only at him'
              rw [him] at him'; cases him'
              cases hx with
              | slice har2 p1 p2 p3 =>
                obtain ⟨im2', him2', _, rfl⟩ := har2
                simp only at him2'
                rw [him2] at him2'; cases him2'
                obtain ⟨xs, hload, hxs⟩ := hor2.cells (P := P) (off := off2) (s := Nat.min m k * z) h2
                have hxsz : xs.size = Nat.min m k * z := by rw [← hxs.1]; simp; omega
                have hexsz : (cs2.extract off2 (off2 + Nat.min m k * z)).size = Nat.min m k * z := by simp; omega
                rcases hor with ⟨_, hr, ho, arr, ha, hle, hcap, hc⟩ | ⟨hz0, _⟩
                · have hst := run_storeCells_at (P := P) im.blk off te xs.toList 0 arr w ha (by simp [hxsz]; omega) (hxs.ones h3)
                  simp only [Nat.add_zero] at hst
                  refine ⟨.int .i64 (Nat.min m k), w.setRow im.blk (CE.splice arr off xs), ?_, Post.write hok hS b _ (.cells (CE.splice cs off (cs2.extract off2 (off2 + Nat.min m k * z))) te (0, 0)) im hb hg trivial him hr (w' := w.setRow im.blk (CE.splice arr off xs)) ?_ ?_ ?_ ⟨rfl, rfl, rfl⟩, rfl, .int _ _, rfl⟩
                  · simp [Builtin.copy_, Builtin.lenOf, Builtin.firstCells, Sem.run_bind, Sem.run_pure, Result.andThen_ok, run_underlying hu, szOf_run hz, hload, ho, hst, CE.splice, goInt]
                  · simp [World.setRow]
                  · intro y hy
                    exact setRow_other w im.blk y _ hy
                  · refine .inl ⟨rfl, hr, ho, CE.splice arr off xs, setRow_heap w im.blk arr _ te _ ha, ?_, ?_, ?_⟩
                    · rw [splice_size (by rw [hexsz]; omega), splice_size (by rw [hxsz]; omega)]; exact hle
                    · rw [splice_size (by rw [hxsz]; omega)]; exact hcap
                    · exact VRs.splice (by rw [hexsz]; omega) hle hc hxs
                · exact absurd rfl hz0
        · cases h
      · cases h
    · cases h
  · cases h
end Go.CE

namespace Go.CE
open Go Go.RowKit

def evo (ev : Operand → Option Value) : Option Operand → Option (Option Value)
  | none => some none
  | some x => match ev x with
    | some v => some (some v)
    | none => none
def mkPure (o : Option Value) (H : Heap) (n : Nat) : Option CR := match o with | some v => some ⟨.val v, H, n, [], []⟩ | none => none
def emptySl (P : Program) (t : TypeId) (len : Nat) (l : List (Nat × Value)) : Bool := Nat.beq len 0 && l.isEmpty && (match und P t with
  | some (.slice e) => (szOf P e).isSome
  | _ => false)
theorem Post.ofBelow {B n : Nat} {S : Nat → Prop} {μ : Mu} {H : Heap} {w w' : World} (hok : Ok B S μ (hget H) w) (h : Below w.heap.size w w') : Post B S n n [] μ μ H H w w' := by
  refine ⟨⟨fun i o hi ho hl => ?_, fun i o im hi ho hl him => ?_, fun i j oi oj a b hi hj => ?_, fun i o hi ho hr => ?_, fun i j oi oj a b x hi hj => ?_⟩, Nat.le_refl _, fun _ _ => rfl, fun _ _ _ => rfl, h.size, fun b hb _ => h.block b hb, fun _ h => by simp at h, fun i im o h1 h2 => absurd h1 (by omega), fun i im o h1 => h1.elim (fun h1 => absurd h1.1 (by omega)) (fun h => by simp at h), h.os, h.tape, h.output⟩
  · have hi := hi.elim id fun h => absurd h.1 (by omega)
    obtain ⟨im, him, hr⟩ := hok.rel i o hi ho hl
    exact ⟨im, him, hr.keep (Ext.refl _) (h.block _ (hok.low i o im hi ho hl him).1)⟩
  · have hi := hi.elim id fun h => absurd h.1 (by omega)
    have := hok.low i o im hi ho hl him
    exact ⟨Nat.lt_of_lt_of_le this.1 h.size, this.2⟩
  · exact hok.inj i j oi oj a b (hi.elim id fun h => absurd h.1 (by omega)) (hj.elim id fun h => absurd h.1 (by omega))
  · have hi := hi.elim id fun h => absurd h.1 (by omega)
    obtain ⟨im, him, hf⟩ := hok.reg i o hi ho hr
    exact ⟨im, him, fun b x hx => by rw [h.block b (reg_lt hok hi ho hr him hx)]; exact hf b x hx⟩
  · exact hok.sep i j oi oj a b x (hi.elim id fun h => absurd h.1 (by omega)) (hj.elim id fun h => absurd h.1 (by omega))
def cop (P : Program) (F : FuncId → Bool) (ev : Operand → Option Value) (o : Oper) (H : Heap) (n : Nat) : Option CR :=
  match o.op with
  | .move x | .assign x => mkPure (ev x) H n
  | .pick c a b => match ev c with
    | some (.bool t) => mkPure (ev (bif t then a else b)) H n
    | _ => none
  | .alloc t => match zeroOf P t with
    | some z => bif af z then some ⟨.val (nptr n), (n, .cells z.cells t (0, 0)) :: H, n + 1, [], []⟩ else none
    | none => none
  | .box t x => match ev x with
    | some v => some ⟨.val (nptr n), (n, .cells v.cells t (0, 0)) :: H, n + 1, [], []⟩
    | none => none
  | .build t ps => match partsOf ev ps.toList with
    | some l => mkPure (cBuild P t l) H n
    | none => none
  | .buildSlice t len ps => match partsOf ev ps.toList with
    | some l => match cBuildSlice P t len l with
      | some (e, cs, s) => some ⟨.val (.slice (some ⟨n, 0, none⟩) len s), (n, .cells cs e (0, 0)) :: H, n + 1, [], []⟩
      | none => bif emptySl P t len l then some ⟨.val noCapV, H, n, [], []⟩ else none
    | none => none
  | .load t a => match ev a with
    | some p => match cLoad P t H p with
      | some (v, b) => some ⟨.val v, H, n, [b], []⟩
      | none => none
    | none => none
  | .store t a x => match ev a, ev x with
    | some p, some v => match cStore P t H v p with
      | some (H', b) => some ⟨.val undef, H', n, [b], [b]⟩
      | none => none
    | _, _ => none
  | .fieldAddr s x f => match ev x with
    | some p => mkPure (cFieldAddr P s f p) H n
    | none => none
  | .field t x f => match ev x with
    | some p => mkPure (cField P t f p) H n
    | none => none
  | .indexAddr t x i => match ev x, ev i with
    | some v, some k => mkPure (cIndexAddr P t v k) H n
    | _, _ => none
  | .index t x i => match ev x, ev i with
    | some (.agg cs), some k => mkPure (cIndex P t (.agg cs) k) H n
    | _, _ => mkPure (cPure P ev o) H n
  | .extract x i => match ev x with
    | some v => mkPure (cExtract i v) H n
    | none => none
  | .makeSlice t l c => match ev l, ev c with
    | some x, some y => match cMake P t x y with
      | some (e, cs, l, s) => some ⟨.val (.slice (some ⟨n, 0, none⟩) l s), (n, .cells cs e (0, 0)) :: H, n + 1, [], []⟩
      | none => none
    | _, _ => none
  | .slice t x lo hi none => match ev x, evo ev lo, evo ev hi with
    | some (.slice (some a) m s), some l, some h => match cTail P t H n (.slice (some a) m s) l h with
      | some r => some r
      | none => mkPure (cSlice P t (.slice (some a) m s) l h) H n
    | some (.pointer p), some l, some h => mkPure (cSlice P t (.pointer p) l h) H n
    | _, _, _ => mkPure (cPure P ev o) H n
  | .slice t x lo (some hi) (some mx) => bif cSlice3 P t (ev x) (evo ev lo) (ev hi) (ev mx) then some ⟨.val noCapV, H, n, [], []⟩ else mkPure (cPure P ev o) H n
  | .makeFunc (.func f) first captured => match argsOf ev first.toList, argsOf ev captured.toList with
    | some xs, some ys => some ⟨.val (.func (.func f) xs.toArray ys.toArray), H, n, [], []⟩
    | _, _ => none
  | .makeMap _ none => some ⟨.val (.map (some n)), (n, .map #[] 0) :: H, n + 1, [], []⟩
  | .lookup t x k ok => match ev x, ev k with
    | some m, some kv => match cLookup P t H ok m kv with
      | some (v, R) => some ⟨.val v, H, n, R, []⟩
      | none => none
    | _, _ => none
  | .mapUpdate t m k x => match ev m, ev k, ev x with
    | some mv, some kv, some v => match cMapUpdate P t H mv kv v with
      | some (H', b) => some ⟨.val undef, H', n, [b], [b]⟩
      | none => none
    | _, _, _ => none
  | .insert t m k x => match ev m, ev k, ev x with
    | some mv, some kv, some v => match cMapUpdate P t H mv kv v with
      | some (H', b) => some ⟨.val undef, H', n, [b], [b]⟩
      | none => none
    | _, _, _ => none
  | .binOp op _ x y _ => match ev x, ev y with
    | some a, some b => match cBin op a b with
      | some v => some ⟨.val v, H, n, [], []⟩
      | none => mkPure (cPure P ev o) H n
    | _, _ => none
  | .nilCheck x => match ev x with
    | some (.pointer (some a)) => some ⟨.val (.pointer (some a)), H, n, [], []⟩
    | some (.func (.func f) xs ys) => some ⟨.val (.func (.func f) xs ys), H, n, [], []⟩
    | some (.func (.yield f) xs ys) => some ⟨.val (.func (.yield f) xs ys), H, n, [], []⟩
    | _ => none
  | .call c => match c.callee with
    | .builtin .append => match c.args.toList, c.argTypes.toList with
      | [s, x], [t, t'] => match ev s, ev x with
        | some sv, some xv => cApp P t t' H n sv xv
        | _, _ => none
      | _, _ => none
    | .builtin .len => match c.args.toList, c.argTypes.toList with
      | [x], [t] => match ev x, und P t with
        | some (.slice (some _) m _), some (.slice _) => some ⟨.val (.int .i64 m), H, n, [], []⟩
        | some (.chan (some 0)), some (.slice _) => some ⟨.val (.int .i64 0), H, n, [], []⟩
        | _, _ => mkPure (cPure P ev o) H n
      | _, _ => none
    | .builtin .copy => match c.args.toList, c.argTypes.toList with
      | [s, x], [t, _] => match ev s, ev x with
        | some sv, some xv => cCopy P t H n sv xv
        | _, _ => none
      | _, _ => none
    | .builtin _ => mkPure (cPure P ev o) H n
    | .value f => match ev f, argsOf ev c.args.toList with
      | some fv, some args => match cCall F H fv args.toArray with
        | some (nx, R) => some ⟨nx, H, n, R, []⟩
        | none => none
      | _, _ => none
    | _ => none
  | _ => mkPure (cPure P ev o) H n

theorem snd_val {P : Program} {B : Nat} {o : Oper} {ev : Operand → Option Value} {H : Heap} {n : Nat} {v : Value} (h : ∀ (μ : Mu) (ρ : Operand → Value) (w : World), (∀ x ∈ o.op.operands, ∀ v, ev x = some v → VR μ v (ρ x)) → ∃ v', (execOp ρ o).run P w = .ok (.value v') w ∧ VR μ v v') :
    Snd P B o ev H n ⟨.val v, H, n, [], []⟩ := fun _ μ ρ w hok _ _ _ hev _ =>
  let ⟨_, h1, h2⟩ := h μ ρ w hev
  ⟨_, w, μ, h1, Post.refl hok, .val h2⟩
theorem mkPure_some {o : Option Value} {H : Heap} {n : Nat} {r : CR} (h : mkPure o H n = some r) : ∃ v, o = some v ∧ r = ⟨.val v, H, n, [], []⟩ := by
  cases o with
  | none => cases h
  | some v => simp only [mkPure, Option.some.injEq] at h; exact ⟨v, rfl, h.symm⟩
theorem evo_ovr {μ : Mu} {ev : Operand → Option Value} {ρ : Operand → Value} {x : Option Operand} {v : Option Value} (h : evo ev x = some v) (hv : ∀ y, x = some y → ∀ v, ev y = some v → VR μ v (ρ y)) : OVR μ v (x.map ρ) := by
  cases x with
  | none => simp only [evo, Option.some.injEq] at h; subst h; trivial
  | some y =>
    simp only [evo] at h
    cases he : ev y with
    | none => rw [he] at h; cases h
    | some u =>
      rw [he] at h
      simp only [Option.some.injEq] at h
      subst h
      exact hv y rfl u he
theorem bif_some {α : Type} {q : Bool} {x r : α} (h : (bif q then some x else none) = some r) : x = r := by
  cases q with
  | false => cases h
  | true => simpa using h
theorem bif_some' {α : Type} {q : Bool} {x : Option α} {r : α} (h : (bif q then x else none) = some r) : x = some r := by
  cases q with
  | false => cases h
  | true => simpa using h
theorem cAppZ_n {P : Program} {t t' : TypeId} {H : Heap} {n : Nat} {s x : Value} {r : CR} (h : cAppZ P t t' H n s x = some r) : r.n = n + 1 := by
  unfold cAppZ at h
  split at h
  · split at h
    · split at h
      · rw [← bif_some h]
      · cases h
    · cases h
  · cases h
theorem cTail_n {P : Program} {t : TypeId} {H : Heap} {n : Nat} {x : Value} {lo hi : Option Value} {r : CR} (h : cTail P t H n x lo hi = some r) : r.n = n + 1 := by
  unfold cTail at h
  split at h
  · split at h
    · rw [← bif_some h]
    · cases h
  · cases h
theorem cAppT_n {P : Program} {t : TypeId} {H : Heap} {n : Nat} {s x : Value} {r : CR} (h : cAppT P t H n s x = some r) : r.n = n + 1 := by
  unfold cAppT at h
  split at h
  · split at h
    · split at h
      · split at h
        · split at h
          · rw [← bif_some h]
          · cases h
        · cases h
      · cases h
    · cases h
  · cases h
theorem cAppend_n {P : Program} {t : TypeId} {H : Heap} {n : Nat} {s x : Value} {r : CR} (h : cAppend P t H n s x = some r) : r.n = n + 1 := by
  unfold cAppend at h
  split at h
  · split at h
    · split at h
      · split at h
        · rename_i cs k ko ns m b _ _
          rw [← bif_some h]
        · cases h
      · cases h
    · cases h
  · cases h
theorem cop_snd {P : Program} {F : FuncId → Bool} (hF : ∀ g, F g = true → okFn P g = true) {B : Nat} {o : Oper} {ev : Operand → Option Value} {H : Heap} {n : Nat} {r : CR} (h : cop P F ev o H n = some r) : Snd P B o ev H n r := by
  have pureCase : mkPure (cPure P ev o) H n = some r → Snd P B o ev H n r := by
    intro h
    obtain ⟨v, h1, rfl⟩ := mkPure_some h
    exact cPure_snd h1
  unfold cop at h
  split at h
  · -- move
    rename_i x ho
    obtain ⟨v, h1, rfl⟩ := mkPure_some h
    exact snd_val fun μ ρ w hev => ⟨ρ x, by simp [execOp, ho], hev x (by simp [ho, Op.operands]) v h1⟩
  · rename_i x ho
    obtain ⟨v, h1, rfl⟩ := mkPure_some h
    exact snd_val fun μ ρ w hev => ⟨ρ x, by simp [execOp, ho], hev x (by simp [ho, Op.operands]) v h1⟩
  · -- pick
    rename_i c a b ho
    split at h
    · rename_i t hc
      obtain ⟨v, h1, rfl⟩ := mkPure_some h
      refine snd_val fun μ ρ w hev => ?_
      have hct := hev c (by simp [ho, Op.operands]) _ hc
      have hct : ρ c = .bool t := by generalize ρ c = u at hct; cases hct; rfl
      cases t with
      | true => exact ⟨ρ a, by simp [execOp, ho, hct, asBool], hev a (by simp [ho, Op.operands]) v h1⟩
      | false => exact ⟨ρ b, by simp [execOp, ho, hct, asBool], hev b (by simp [ho, Op.operands]) v h1⟩
    · cases h
  · -- alloc
    rename_i t ho
    split at h
    · rename_i z hz
      cases ha : af z with
      | false => rw [ha] at h; cases h
      | true =>
        rw [ha] at h
        simp only [cond_true, Option.some.injEq] at h
        subst h
        exact cAlloc_snd ho hz ha
    · cases h
  · -- box
    rename_i t x ho
    split at h
    · rename_i v hv
      simp only [Option.some.injEq] at h
      subst h
      exact cBox_snd ho hv
    · cases h
  · -- build
    rename_i t ps ho
    split at h
    · rename_i l hl
      obtain ⟨v, h1, rfl⟩ := mkPure_some h
      refine snd_val fun μ ρ w hev => ?_
      obtain ⟨q1, q2⟩ := partsOf_vr (μ := μ) (ρ := ρ) ps.toList l hl (fun p hp v hv => hev p.2 (by simp only [ho, Op.operands, List.mem_toArray]; exact List.mem_map.2 ⟨p, hp, rfl⟩) v hv)
      obtain ⟨v', hr, hvr⟩ := cBuild_run (ps' := ps.map fun (i, x) => (i, ρ x)) h1 (by simpa using q1) (by simpa using q2) w
      exact ⟨v', by simp [execOp, ho, hr], hvr⟩
    · cases h
  · -- buildSlice
    rename_i t len ps ho
    split at h
    · rename_i l hl
      split at h
      · rename_i e cs s hb
        simp only [Option.some.injEq] at h
        subst h
        intro S μ ρ w hok hB hS hf hev hR
        obtain ⟨q1, q2⟩ := partsOf_vr (μ := μ) (ρ := ρ) ps.toList l hl (fun p hp v hv => hev p.2 (by simp only [ho, Op.operands, List.mem_toArray]; exact List.mem_map.2 ⟨p, hp, rfl⟩) v hv)
        obtain ⟨v', w', μ', hr, hp, hvr⟩ := cBuildSlice_run (ps' := ps.map fun (i, x) => (i, ρ x)) hb hok hB hS (hf n (Nat.le_refl _) (by simp)) (by simpa using q1) (by simpa using q2)
        exact ⟨_, w', μ', by simp [execOp, ho, hr], hp, .val hvr⟩
      · cases he : emptySl P t len l with
        | false => rw [he] at h; cases h
        | true =>
          rw [he] at h
          simp only [cond_true, Option.some.injEq] at h
          subst h
          intro S μ ρ w hok hB hS hf hev hR
          obtain ⟨q1, _⟩ := partsOf_vr (μ := μ) (ρ := ρ) ps.toList l hl (fun p hp v hv => hev p.2 (by simp only [ho, Op.operands, List.mem_toArray]; exact List.mem_map.2 ⟨p, hp, rfl⟩) v hv)
          unfold emptySl at he
          simp only [Bool.and_eq_true, List.isEmpty_iff] at he
          obtain ⟨⟨e1, rfl⟩, e3⟩ := he
          have e1 := Nat.eq_of_beq_eq_true e1
          subst e1
          have eps : ps = #[] := by
            have : ps.toList = [] := List.eq_nil_of_length_eq_zero (by simpa using q1.symm)
            exact Array.ext' (by simpa using this)
          subst eps
          split at e3
          · rename_i e hu
            rw [und_eq] at hu
            cases hz : szOf P e with
            | none => rw [hz] at e3; cases e3
            | some z =>
              have hr : (Instr.buildSlice t 0 ((#[] : Array (Nat × Operand)).map fun (i, x) => (i, ρ x))).run P w = .ok (.slice (some ⟨w.heap.size, 0, none⟩) 0 0) (w.alloc (.cells #[] e)) := by
                simp [Instr.buildSlice, run_underlying hu, szOf_run hz, Instr.fill, newRow, Sem.run_bind, Sem.run_pure]
                congr 2
                exact Array.eq_empty_of_size_eq_zero (by simp)
              exact ⟨.value (.slice (some ⟨w.heap.size, 0, none⟩) 0 0), w.alloc (.cells #[] e), μ, by simp [execOp, ho]; simp at hr; simp [hr], Post.ofBelow hok ((Below.refl _ _).alloc (Nat.le_refl _) _), .val .noCap⟩
          · cases e3
    · cases h
  · -- load
    rename_i t a ho
    split at h
    · rename_i p hp
      split at h
      · rename_i v b hb
        simp only [Option.some.injEq] at h
        subst h
        intro S μ ρ w hok hB hS hf hev hR
        obtain ⟨v', hr, hvr⟩ := cLoad_run hb hok (hev a (by simp [ho, Op.operands]) p hp) (hR b (by simp))
        exact ⟨_, w, μ, by simp [execOp, ho, hr], Post.refl hok, .val hvr⟩
      · cases h
    · cases h
  · -- store
    rename_i t a x ho
    split at h
    · rename_i p v hp hv
      split at h
      · rename_i H' b hb
        simp only [Option.some.injEq] at h
        subst h
        intro S μ ρ w hok hB hS hf hev hR
        obtain ⟨w', hr, hpost⟩ := cStore_run hb hok hS (hev a (by simp [ho, Op.operands]) p hp) (hev x (by simp [ho, Op.operands]) v hv) (hR b (by simp))
        exact ⟨_, w', μ, by simp [execOp, ho, hr], hpost, .skip⟩
      · cases h
    · cases h
  · -- fieldAddr
    rename_i s x f ho
    split at h
    · rename_i p hp
      obtain ⟨v, h1, rfl⟩ := mkPure_some h
      refine snd_val fun μ ρ w hev => ?_
      obtain ⟨v', hr, hvr⟩ := cFieldAddr_run h1 (hev x (by simp [ho, Op.operands]) p hp) w
      exact ⟨v', by simp [execOp, ho, hr], hvr⟩
    · cases h
  · -- field
    rename_i t x f ho
    split at h
    · rename_i p hp
      obtain ⟨v, h1, rfl⟩ := mkPure_some h
      refine snd_val fun μ ρ w hev => ?_
      obtain ⟨v', hr, hvr⟩ := cField_run h1 (hev x (by simp [ho, Op.operands]) p hp) w
      exact ⟨v', by simp [execOp, ho, hr], hvr⟩
    · cases h
  · -- indexAddr
    rename_i t x i ho
    split at h
    · rename_i u k hu hk
      obtain ⟨v, h1, rfl⟩ := mkPure_some h
      refine snd_val fun μ ρ w hev => ?_
      obtain ⟨v', hr, hvr⟩ := cIndexAddr_run h1 (hev x (by simp [ho, Op.operands]) u hu) (hev i (by simp [ho, Op.operands]) k hk) w
      exact ⟨v', by simp [execOp, ho, hr], hvr⟩
    · cases h
  · -- index
    rename_i t x i ho
    split at h
    · rename_i cs k hu hk
      obtain ⟨v, h1, rfl⟩ := mkPure_some h
      refine snd_val fun μ ρ w hev => ?_
      obtain ⟨v', hr, hvr⟩ := cIndex_run h1 (hev x (by simp [ho, Op.operands]) _ hu) (hev i (by simp [ho, Op.operands]) k hk) w
      exact ⟨v', by simp [execOp, ho, hr], hvr⟩
    · exact pureCase h
  · -- extract
    rename_i x i ho
    split at h
    · rename_i u hu
      obtain ⟨v, h1, rfl⟩ := mkPure_some h
      refine snd_val fun μ ρ w hev => ?_
      obtain ⟨v', hr, hvr⟩ := cExtract_run (P := P) h1 (hev x (by simp [ho, Op.operands]) u hu) w
      exact ⟨v', by simp [execOp, ho, hr], hvr⟩
    · cases h
  · -- makeSlice
    rename_i t l c ho
    split at h
    · rename_i x y hx hy
      split at h
      · rename_i e cs l0 s hm
        simp only [Option.some.injEq] at h
        subst h
        intro S μ ρ w hok hB hS hf hev hR
        obtain ⟨v', w', μ', hr, hp, hvr⟩ := cMake_run hm hok hB hS (hf n (Nat.le_refl _) (by simp)) (hev l (by simp [ho, Op.operands]) x hx) (hev c (by simp [ho, Op.operands]) y hy)
        exact ⟨_, w', μ', by simp [execOp, ho, hr], hp, .val hvr⟩
      · cases h
    · cases h
  · -- slice
    rename_i t x lo hi ho
    have hlo : ∀ y, lo = some y → y ∈ o.op.operands := fun y e => by simp [ho, Op.operands, e]
    have hhi : ∀ y, hi = some y → y ∈ o.op.operands := fun y e => by simp [ho, Op.operands, e]
    split at h
    · rename_i a m s l hh hu hl hhh
      split at h
      · rename_i r0 hct
        simp only [Option.some.injEq] at h
        subst h
        intro S μ ρ w hok hB hS hf hev hR
        have hn1 : r0.n = n + 1 := cTail_n hct
        obtain ⟨v, v', μ', hr, hp, hnx, hvr, _⟩ := cTail_run hct hok hS (hf n (Nat.le_refl _) (by omega)) (hev x (by simp [ho, Op.operands]) _ hu) (evo_ovr hl fun y e => hev y (hlo y e)) (evo_ovr hhh fun y e => hev y (hhi y e)) hR
        exact ⟨.value v', w, μ', by simp [execOp, ho, hr], hp, by rw [hnx]; exact .val hvr⟩
      · obtain ⟨v, h1, rfl⟩ := mkPure_some h
        refine snd_val fun μ ρ w hev => ?_
        obtain ⟨v', hr, hvr⟩ := cSlice_run h1 (hev x (by simp [ho, Op.operands]) _ hu) (evo_ovr hl fun y e => hev y (hlo y e)) (evo_ovr hhh fun y e => hev y (hhi y e)) w
        exact ⟨v', by simp [execOp, ho, hr], hvr⟩
    · rename_i p l hh hu hl hhh
      obtain ⟨v, h1, rfl⟩ := mkPure_some h
      refine snd_val fun μ ρ w hev => ?_
      obtain ⟨v', hr, hvr⟩ := cSlice_run h1 (hev x (by simp [ho, Op.operands]) _ hu) (evo_ovr hl fun y e => hev y (hlo y e)) (evo_ovr hhh fun y e => hev y (hhi y e)) w
      exact ⟨v', by simp [execOp, ho, hr], hvr⟩
    · exact pureCase h
  · -- slice with a bound
    rename_i t x lo hi mx ho
    have hlo : ∀ y, lo = some y → y ∈ o.op.operands := fun y e => by simp [ho, Op.operands, e]
    cases hc : cSlice3 P t (ev x) (evo ev lo) (ev hi) (ev mx) with
    | false => rw [hc] at h; exact pureCase h
    | true =>
      rw [hc] at h
      simp only [cond_true, Option.some.injEq] at h
      subst h
      obtain ⟨xv, l, hv, mv, e1, e2, e3, e4, hrun⟩ := cSlice3_run (μ := fun _ => none) hc
      clear hrun
      refine snd_val fun μ ρ w hev => ?_
      obtain ⟨xv', l', hv', mv', e1', e2', e3', e4', hrun⟩ := cSlice3_run (μ := μ) hc
      obtain ⟨v', hr, hvr⟩ := hrun (hev x (by simp [ho, Op.operands]) _ e1') (evo_ovr e2' fun y e => hev y (hlo y e)) (hev hi (by simp [ho, Op.operands]) _ e3') (hev mx (by simp [ho, Op.operands]) _ e4') w
      exact ⟨v', by simp [execOp, ho, hr], hvr⟩
  · -- makeFunc
    rename_i f first captured ho
    split at h
    · rename_i xs ys hx hy
      simp only [Option.some.injEq] at h
      subst h
      refine snd_val fun μ ρ w hev => ?_
      have hops : o.op.operands = first ++ captured := by rw [ho]; rfl
      rw [hops] at hev
      have q1 := argsOf_vr (μ := μ) (ρ := ρ) _ _ hx (fun x hx v hv => hev x (Array.mem_append.2 (.inl (Array.mem_toList_iff.1 hx))) v hv)
      have q2 := argsOf_vr (μ := μ) (ρ := ρ) _ _ hy (fun x hx v hv => hev x (Array.mem_append.2 (.inr (Array.mem_toList_iff.1 hx))) v hv)
      refine ⟨.func (.func f) (first.map ρ) (captured.map ρ), by simp [execOp, ho, Instr.makeFunc], ?_⟩
      have e1 : (first.toList.map ρ).toArray = first.map ρ := by apply Array.ext'; simp
      have e2 : (captured.toList.map ρ).toArray = captured.map ρ := by apply Array.ext'; simp
      rw [e1] at q1
      rw [e2] at q2
      exact .func q1.1 q2.1 q1.2 q2.2
    · cases h
  · -- makeMap
    rename_i t ho
    simp only [Option.some.injEq] at h
    subst h
    intro S μ ρ w hok hB hS hf hev hR
    have hfn := hf n (Nat.le_refl _) (by simp)
    refine ⟨_, _, _, ?_, Post.alloc hok hB hS hfn (.map #[] 0) (.map #[] 0) 0 ⟨rfl, #[], heap_alloc _ _, rfl, fun i e e' he _ => by simp at he⟩, .val (.map (im := ⟨w.heap.size, 0, 0, true, nofm⟩) upd_self)⟩
    simp only [execOp, ho, Instr.makeMap, Option.map_none, Sem.run_bind, Result.andThen_ok, run_newObj, Sem.run_pure]
    rfl
  · -- lookup
    rename_i t x k ok ho
    split at h
    · rename_i m kv hm hk
      split at h
      · rename_i v R hl
        simp only [Option.some.injEq] at h
        subst h
        intro S μ ρ w hok hB hS hf hev hR
        obtain ⟨v', hr, hvr⟩ := cLookup_run hl hok (hev x (by simp [ho, Op.operands]) m hm) (hev k (by simp [ho, Op.operands]) kv hk) hR
        exact ⟨_, w, μ, by simp [execOp, ho, hr], Post.refl hok, .val hvr⟩
      · cases h
    · cases h
  · -- mapUpdate
    rename_i t m k x ho
    split at h
    · rename_i mv kv v hm hk hv
      split at h
      · rename_i H' b hl
        simp only [Option.some.injEq] at h
        subst h
        intro S μ ρ w hok hB hS hf hev hR
        obtain ⟨w', hr, hpost⟩ := cMapUpdate_run hl hok hS (hev m (by simp [ho, Op.operands]) mv hm) (hev k (by simp [ho, Op.operands]) kv hk) (hev x (by simp [ho, Op.operands]) v hv) (hR b (by simp))
        exact ⟨_, w', μ, by simp [execOp, ho, hr], hpost, .skip⟩
      · cases h
    · cases h
  · -- insert
    rename_i t m k x ho
    split at h
    · rename_i mv kv v hm hk hv
      split at h
      · rename_i H' b hl
        simp only [Option.some.injEq] at h
        subst h
        intro S μ ρ w hok hB hS hf hev hR
        obtain ⟨w', hr, hpost⟩ := cMapUpdate_run hl hok hS (hev m (by simp [ho, Op.operands]) mv hm) (hev k (by simp [ho, Op.operands]) kv hk) (hev x (by simp [ho, Op.operands]) v hv) (hR b (by simp))
        exact ⟨_, w', μ, by simp [execOp, ho, hr], hpost, .skip⟩
      · cases h
    · cases h
  · -- binOp
    rename_i op t x y yt ho
    split at h
    · rename_i a b ha hb
      split at h
      · rename_i v hv
        simp only [Option.some.injEq] at h
        subst h
        refine snd_val fun μ ρ w hev => ?_
        obtain ⟨h1, h2, h3, h4⟩ := cBin_run (P := P) (t := t) (x := x) (y := y) hv w
        have e1 := h3 μ _ (hev x (by simp [ho, Op.operands]) a ha)
        have e2 := h4 μ _ (hev y (by simp [ho, Op.operands]) b hb)
        refine ⟨v, ?_, h2 μ⟩
        simp only [execOp, ho, e1, e2]
        rw [Sem.run_bind, h1]
        rfl
      · exact pureCase h
    · cases h
  · -- nilCheck
    rename_i x ho
    split at h
    · rename_i a hx
      simp only [Option.some.injEq] at h
      subst h
      refine snd_val fun μ ρ w hev => ?_
      have hv := hev x (by simp [ho, Op.operands]) _ hx
      refine ⟨ρ x, ?_, hv⟩
      generalize hg : ρ x = u at hv
      cases hv <;> simp [execOp, ho, hg]
    · rename_i f xs ys hx
      simp only [Option.some.injEq] at h
      subst h
      refine snd_val fun μ ρ w hev => ?_
      have hv := hev x (by simp [ho, Op.operands]) _ hx
      refine ⟨ρ x, ?_, hv⟩
      generalize hg : ρ x = u at hv
      cases hv
      simp [execOp, ho, hg]
    · rename_i f xs ys hx
      simp only [Option.some.injEq] at h
      subst h
      refine snd_val fun μ ρ w hev => ?_
      have hv := hev x (by simp [ho, Op.operands]) _ hx
      refine ⟨ρ x, ?_, hv⟩
      generalize hg : ρ x = u at hv
      cases hv
      simp [execOp, ho, hg]
    · cases h
  · -- call
    rename_i c ho
    split at h
    · -- append
      rename_i hc
      split at h
      · rename_i s x t t' ha ht
        split at h
        · rename_i sv xv hs hx
          intro S μ ρ w hok hB hS hf hev hR
          have ea : c.args = #[s, x] := by rw [← ha]
          have et : c.argTypes = #[t, t'] := by rw [← ht]
          have hvs := hev s (by simp [ho, Op.operands, Call.operands, hc, ea]) sv hs
          have hvx := hev x (by simp [ho, Op.operands, Call.operands, hc, ea]) xv hx
          unfold cApp at h
          cases htt : Nat.beq t t' with
          | false =>
            rw [htt] at h
            simp only [cond_false] at h
            have hn1 : r.n = n + 1 := cAppZ_n h
            obtain ⟨v, v', w', μ', hr, hp, hnx, hvr, _⟩ := cAppZ_run (ty := o.type) h hok hB hS (hf n (Nat.le_refl _) (by omega)) hvs hvx
            refine ⟨.value v', w', μ', ?_, hp, by rw [hnx]; exact .val hvr⟩
            simp [execOp, ho, resolve, hc, invoke, builtin, ea, et, hr]
          | true =>
            rw [htt] at h
            simp only [cond_true] at h
            have htt := Nat.eq_of_beq_eq_true htt
            subst htt
            cases hca : cAppend P t H n (bare sv) xv with
            | some r0 =>
              rw [hca] at h
              simp only [Option.some.injEq] at h
              subst h
              have hn1 : r0.n = n + 1 := cAppend_n hca
              obtain ⟨v, v', w', μ', hr, hp, hnx, hvr, _⟩ := cAppend_runB (ty := o.type) hca hok hB hS (hf n (Nat.le_refl _) (by omega)) hvs hvx hR
              refine ⟨.value v', w', μ', ?_, hp, by rw [hnx]; exact .val hvr⟩
              simp [execOp, ho, resolve, hc, invoke, builtin, ea, et, hr]
            | none =>
              rw [hca] at h
              simp only at h
              cases hct : cAppT P t H n sv xv with
              | some r0 =>
                rw [hct] at h
                simp only [Option.some.injEq] at h
                subst h
                have hn1 : r0.n = n + 1 := cAppT_n hct
                obtain ⟨v, v', w', μ', hr, hp, hnx, hvr, _⟩ := cAppT_run (ty := o.type) hct hok hB hS (hf n (Nat.le_refl _) (by omega)) hvs hvx hR
                refine ⟨.value v', w', μ', ?_, hp, by rw [hnx]; exact .val hvr⟩
                simp [execOp, ho, resolve, hc, invoke, builtin, ea, et, hr]
              | none =>
                rw [hct] at h
                simp only at h
                obtain ⟨hr, rfl⟩ := cApp0_run (ty := o.type) (w := w) h hvs hvx
                refine ⟨.value (ρ s), w, μ, ?_, Post.refl hok, .val hvs⟩
                simp [execOp, ho, resolve, hc, invoke, builtin, ea, et, hr]
        · cases h
      · cases h
    · -- len
      rename_i hc
      split at h
      · rename_i x t ha ht
        split at h
        · rename_i a m s e hx hu
          rw [und_eq] at hu
          simp only [Option.some.injEq] at h
          subst h
          refine snd_val fun μ ρ w hev => ?_
          have ea : c.args = #[x] := by rw [← ha]
          have et : c.argTypes = #[t] := by rw [← ht]
          have hv := hev x (by simp [ho, Op.operands, Call.operands, hc, ea]) _ hx
          refine ⟨.int .i64 m, ?_, .int _ _⟩
          generalize hg : ρ x = u at hv
          cases hv <;> simp [execOp, ho, resolve, hc, invoke, builtin, ea, et, hg, Builtin.len_, run_underlying hu, goInt]
        · rename_i e hx hu
          rw [und_eq] at hu
          simp only [Option.some.injEq] at h
          subst h
          refine snd_val fun μ ρ w hev => ?_
          have ea : c.args = #[x] := by rw [← ha]
          have et : c.argTypes = #[t] := by rw [← ht]
          have hv := hev x (by simp [ho, Op.operands, Call.operands, hc, ea]) _ hx
          refine ⟨.int .i64 0, ?_, .int _ _⟩
          generalize hg : ρ x = u at hv
          cases hv <;> simp [execOp, ho, resolve, hc, invoke, builtin, ea, et, hg, Builtin.len_, run_underlying hu, goInt]
        · exact pureCase h
      · cases h
    · -- copy
      rename_i hc
      split at h
      · rename_i s x t t2 ha ht
        split at h
        · rename_i sv xv hs hx
          intro S μ ρ w hok hB hS hf hev hR
          have ea : c.args = #[s, x] := by rw [← ha]
          have et : c.argTypes = #[t, t2] := by rw [← ht]
          obtain ⟨v, w', hr, hp, hnx, hvr, _⟩ := cCopy_run (ty := o.type) (t2 := t2) h hok hS (hev s (by simp [ho, Op.operands, Call.operands, hc, ea]) sv hs) (hev x (by simp [ho, Op.operands, Call.operands, hc, ea]) xv hx) hR
          refine ⟨.value v, w', μ, ?_, hp, by rw [hnx]; exact .val hvr⟩
          simp [execOp, ho, resolve, hc, invoke, builtin, ea, et, hr]
        · cases h
      · cases h
    · exact pureCase h
    · -- value
      rename_i f hc
      split at h
      · rename_i fv args hfv hargs
        split at h
        · rename_i nx R hcc
          simp only [Option.some.injEq] at h
          subst h
          intro S μ ρ w hok hB hS hf hev hR
          have hops : o.op.operands = #[f] ++ c.args := by rw [ho]; simp only [Op.operands, Call.operands, hc]
          rw [hops] at hev
          have q := argsOf_vr (μ := μ) (ρ := ρ) _ _ hargs (fun x hx v hv => hev x (Array.mem_append.2 (.inr (Array.mem_toList_iff.1 hx))) v hv)
          have e1 : (c.args.toList.map ρ).toArray = c.args.map ρ := by apply Array.ext'; simp
          rw [e1] at q
          obtain ⟨nx', hr, hnr⟩ := cCall_run (P := P) hF hcc hok (hev f (Array.mem_append.2 (.inl (by simp))) fv hfv) q hR
          refine ⟨nx', w, μ, ?_, Post.refl hok, hnr⟩
          simp only [execOp, ho, resolve, hc]
          simpa using hr
        · cases h
      · cases h
    · cases h
  · exact pureCase h
end Go.CE
