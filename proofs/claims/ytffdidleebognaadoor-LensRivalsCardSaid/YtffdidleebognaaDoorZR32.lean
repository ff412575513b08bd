/- What is known beforehand of strconv.Itoa and strings.Join: as the shelf's contracts have it. -/
import Derived.Test.YtffdidleebognaaDoorZR13
import Derived.Test.YtffdidleebognaaDoorZR31
import Derived.Lib.SmallJoins
import Derived.Lib.AppendIntMem
namespace Go.CE
open Go Go.RowKit Go.Proofs
def lookI : List (Nat × ByteArray) → Nat → Option ByteArray
  | [], _ => none
  | (k, s) :: l, n => bif Nat.beq k n then some s else lookI l n
theorem lookI_mem : ∀ {l : List (Nat × ByteArray)} {n : Nat} {s : ByteArray}, lookI l n = some s → (n, s) ∈ l
  | [], _, _, h => by cases h
  | (k, x) :: l, n, s, h => by
    simp only [lookI] at h
    cases hb : Nat.beq k n with
    | true =>
      rw [hb] at h
      simp only [cond_true, Option.some.injEq] at h
      rw [Nat.eq_of_beq_eq_true hb, h]
      exact List.mem_cons_self
    | false =>
      rw [hb] at h
      exact List.mem_cons_of_mem _ (lookI_mem h)
def itoaTab : List (Nat × ByteArray) := [(0, ⟨#[48]⟩), (1, ⟨#[49]⟩), (2, ⟨#[50]⟩), (85, ⟨#[56, 53]⟩), (90, ⟨#[57, 48]⟩), (250, ⟨#[50, 53, 48]⟩), (1400, ⟨#[49, 52, 48, 48]⟩)]
theorem itoaTab_ok : ∀ x ∈ itoaTab, (⟨(Lib.itoa (x.1 : Int)).toArray⟩ : ByteArray) = x.2 ∧ (x.1 : Int) ≤ 9223372036854775807 := by decide +kernel
def strsOf : List Value → Option (List ByteArray)
  | [] => some []
  | .string x :: l => match strsOf l with
    | some m => some (x :: m)
    | none => none
  | _ => none
theorem strsOf_get : ∀ {l : List Value} {xs : List ByteArray}, strsOf l = some xs → ∀ (j : Nat) x, xs[j]? = some x → l[j]? = some (.string x)
  | [], xs, h, j, x, hx => by simp only [strsOf, Option.some.injEq] at h; subst h; simp at hx
  | v :: l, xs, h, j, x, hx => by
    cases v with
    | string s =>
      simp only [strsOf] at h
      split at h
      · rename_i m hm
        simp only [Option.some.injEq] at h
        subst h
        cases j with
        | zero => simpa using hx
        | succ j => simpa using strsOf_get hm j x (by simpa using hx)
      · cases h
    | _ => simp [strsOf] at h
def joinOut (xs : List ByteArray) (sep : ByteArray) : List UInt8 := Lib.join (xs.map (·.data.toList)) sep.data.toList
def joinC (args : Array Value) (H : Heap) (n : Nat) : Option Rs := match args.toList with
  | [.slice (some ⟨b, o, none⟩) m _, .string sep] => match hget H b with
    | some (.cells cs _ _) => match strsOf ((cs.toList.drop o).take m) with
      | some xs => bif Nat.beq xs.length m && Nat.ble m 1000 && Nat.ble (joinOut xs sep).length 1000 && Nat.blt b n then some ⟨.ret (.string ⟨(joinOut xs sep).toArray⟩), H, n, [b], []⟩ else none
      | none => none
    | _ => none
  | _ => none
def itoaC (args : Array Value) (H : Heap) (n : Nat) : Option Rs := match args.toList with
  | [.int .i64 (.ofNat k)] => match lookI itoaTab k with
    | some s => some ⟨.ret (.string s), H, n, [], []⟩
    | none => none
  | _ => none
def strOrc : Orc := fun g args H n => bif Nat.beq g 72 then itoaC args H n else bif Nat.beq g 78 then joinC args H n else none
def pow10Is (w : World) : Prop := Lib.TabIs Tryd.prog w "internal/strconv.uint64pow10" .u64 Lib.pow10Tab
theorem pow10_var : Tryd.prog.globalNamed "internal/strconv.uint64pow10" = some 0 := by kernel_rfl
theorem pow10_pos {w : World} (h : pow10Is w) : 0 < w.heap.size := by
  unfold pow10Is Lib.TabIs World.var? at h
  rw [pow10_var] at h
  simp only [Option.bind_some] at h
  split at h
  · rename_i h0
    exact (Array.getElem?_eq_some_iff.1 h0).1
  · cases h
theorem pow10_still {w w' : World} (hw : w'.heap[0]? = w.heap[0]?) (h : pow10Is w) : pow10Is w' := by
  unfold pow10Is Lib.TabIs World.var? at *
  rw [pow10_var] at *
  simp only [Option.bind_some] at *
  rw [hw]
  exact h
/-- The bound of a world in which the table stands. -/
def tabLo (n : Nat) (hn : 0 < n) : Lo := ⟨n, pow10Is, fun _ _ hb h => pow10_still (hb 0 hn) h⟩
theorem strOrc_ok {n0 : Nat} (h0 : 0 < n0) : OrcS Tryd.prog (tabLo n0 h0) strOrc := by
  intro g args H n s hu h
  unfold strOrc at h
  cases hg : Nat.beq g 72 with
  | true =>
    rw [hg] at h
    simp only [cond_true] at h
    obtain rfl := Nat.eq_of_beq_eq_true hg
    unfold itoaC at h
    split at h
    · rename_i k hl
      split at h
      · rename_i x hx
        simp only [Option.some.injEq] at h
        subst h
        refine ⟨Shape.same H n _, fun S μ w args' cs hok hB hS hf hv hR => ?_⟩
        obtain ⟨e1, e2⟩ := itoaTab_ok _ (lookI_mem hx)
        simp only at e1 e2
        have harg : args' = #[.int .i64 (k : Int)] := by
          have hl' := vrl_mk [.int .i64 (.ofNat k)] args'.toList (by rw [← hl]; simpa using hv.1) fun i v v' a b => hv.2 i v v' (by rw [← Array.getElem?_toList, hl]; exact a) (by simpa using b)
          generalize hy : args'.toList = ys at hl'
          cases hl' with
          | cons x1 hl' =>
            cases hl'
            rw [af_eq rfl x1] at hy
            exact Array.ext' hy
        subst harg
        obtain ⟨e, w', fr, ⟨rfl, kk, os, rfl⟩, s1, s2, s3⟩ := Tryd.strconv_Itoa (k : Int) (by omega) e2 w hB.inv cs
        rw [e1] at s3
        exact ⟨.ret (.string x), _, μ, Post.ofBelow hok (Go.Lib.below_grow _ w (Nat.le_refl _) kk os), .ret (.string _), fun _ => ⟨fr, s1, s2, s3⟩, fun c0 cs' e => by subst e; exact Steps.trans s1 (.one (step_leave_returned s3))⟩
      · cases h
    · cases h
  | false =>
    rw [hg] at h
    simp only [cond_false] at h
    cases hj : Nat.beq g 78 with
    | false => rw [hj] at h; cases h
    | true =>
      rw [hj] at h
      simp only [cond_true] at h
      obtain rfl := Nat.eq_of_beq_eq_true hj
      unfold joinC at h
      split at h
      · rename_i b o m sz sep hl
        split at h
        · rename_i cc t fz hb
          split at h
          · rename_i xs hxs
            cases hq : (Nat.beq xs.length m && Nat.ble m 1000 && Nat.ble (joinOut xs sep).length 1000 && Nat.blt b n) with
            | false => rw [hq] at h; cases h
            | true =>
              rw [hq] at h
              simp only [cond_true, Option.some.injEq] at h
              simp only [Bool.and_eq_true] at hq
              obtain ⟨⟨⟨q1, q2⟩, q3⟩, q4⟩ := hq
              have q1 := Nat.eq_of_beq_eq_true q1
              have q2 := Nat.le_of_ble_eq_true q2
              have q3 := Nat.le_of_ble_eq_true q3
              have q4 : b < n := Nat.le_of_ble_eq_true q4
              subst h q1
              refine ⟨Shape.same H n _, fun S μ w args' cs hok hB hS hf hv hR => ?_⟩
              have hSb := hR b (by simp) q4
              obtain ⟨im, him, hor⟩ := hok.rel b _ hSb hb trivial
              have hlow := (hok.low b _ im hSb hb trivial him).1
              obtain ⟨c', hcap, harg⟩ : ∃ c', xs.length ≤ c' ∧ args' = #[.slice (some ⟨im.blk, im.off + o, none⟩) xs.length c', .string sep] := by
                have hl' := vrl_mk [.slice (some ⟨b, o, none⟩) xs.length sz, .string sep] args'.toList (by rw [← hl]; simpa using hv.1) fun i v v' a b => hv.2 i v v' (by rw [← Array.getElem?_toList, hl]; exact a) (by simpa using b)
                generalize hy : args'.toList = ys at hl'
                cases hl' with
                | cons x1 hl' =>
                  cases hl' with
                  | cons x2 hl' =>
                    cases hl'
                    rw [af_eq rfl x2] at hy
                    cases x1 with
                    | @slice _ a' _ _ c' har hle _ _ =>
                      obtain ⟨im', him', _, rfl⟩ := har
                      simp only at him'
                      rw [him] at him'
                      cases him'
                      exact ⟨c', hle, Array.ext' hy⟩
              subst harg
              have hcells : ∀ (j : Nat) x, xs[j]? = some x → w.cell? ⟨im.blk, (im.off + o) + j, none⟩ = some (.string x) := by
                intro j x hx
                have h1 := strsOf_get hxs j x hx
                have hjl : j < xs.length := (List.getElem?_eq_some_iff.1 hx).1
                rw [List.getElem?_take_of_lt hjl, List.getElem?_drop, Array.getElem?_toList] at h1
                obtain ⟨v', e1, e2⟩ := hor.cell h1
                rw [af_eq rfl e2] at e1
                rw [Nat.add_assoc]
                exact e1
              obtain ⟨e, w', fr, ⟨rfl, hbel⟩, s1, s2, s3⟩ := Tryd.strings_Join im.blk (im.off + o) c' xs sep w hcells hlow (by omega) hcap (by unfold joinOut at q3; omega) cs
              exact ⟨.ret (.string ⟨(joinOut xs sep).toArray⟩), w', μ, Post.ofBelow hok hbel, .ret (.string _), fun _ => ⟨fr, s1, s2, s3⟩, fun c0 cs' e => by subst e; exact Steps.trans s1 (.one (step_leave_returned s3))⟩
          · cases h
        · cases h
      · cases h
end Go.CE
