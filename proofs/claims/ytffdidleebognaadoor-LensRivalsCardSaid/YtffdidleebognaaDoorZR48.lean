/- Contracts of layer 1, as Known's runs use them: isDrought, follow, withEnd, droughts. -/
import Derived.Test.YtffdidleebognaaDoorZR07
import Derived.Test.YtffdidleebognaaDoorZR43
import Derived.Test.YtffdidleebognaaDoorZR46
import Derived.Test.YtffdidleebognaaDoorZR16
import Derived.Test.YtffdidleebognaaDoorZR26
import Derived.Test.YtffdidleebognaaDoorZR47
import Derived.IntWalk
namespace Go.Proofs.YtffdidleebognaaDoor
open Go Go.CE Go.Proofs Go.RowKit Lens
set_option maxRecDepth 100000 in
theorem dro_run (B : Lo) (i : Isl) (W M : Value) : endedB (srun Tryd.prog goFns B 6 0 (entryC Tryd.prog 36 4 [.agg (islC i W M)]) (heapO 0 []) 0
    [] 0 [] []) ((kz [0] [(false, .cells (islC i W M) 27 (0, 0))]).map (·.old)) = some (⟨.ret (rnV (rhoK (kz [0] [(false, .cells (islC i W M) 27 (0, 0))])) 3 (.func (.func 55) #[] #[.pointer (some ⟨0, 0, none⟩)])), (kz [0] [(false, .cells (islC i W M) 27 (0, 0))]).map (fun kept_ => some (wasK (rhoK (kz [0] [(false, .cells (islC i W M) 27 (0, 0))])) kept_)), 1,
    []⟩, []) := by kernel_rfl
section
variable {i : Isl} {wa : Option Addr} {wc : Nat} {ma : Option Addr} {mc : Nat} {tanks : Int} {w : World} {n : Nat} {d : Nat → Bool} {nd : Nat}
theorem con_withEnd (k : Kn) (s : Seen) : CJ Tryd.prog (worldLo w) 47 #[.agg #[.int .i64 k.tl, .int .i64 k.th, .int .i64 k.ll, .int .i64 k.lh, .int .i64 k.kl, .int .i64 k.kh], .agg #[.int .i64 s.tanks, .int .i64 s.lens, .int .i64 s.lack]] [] n
    (.agg #[.int .i64 (min k.tl s.tanks), .int .i64 (max k.th s.tanks), .int .i64 (min k.ll s.lens), .int .i64 (max k.lh s.lens), .int .i64 (min k.kl s.lack), .int .i64 (max k.kh s.lack)]) [] n [] :=
  con_of (l := [.agg #[.int .i64 k.tl, .int .i64 k.th, .int .i64 k.ll, .int .i64 k.lh, .int .i64 k.kl, .int .i64 k.kh], .agg #[.int .i64 s.tanks, .int .i64 s.lens, .int .i64 s.lack]])
    (l' := [.agg #[.int .i64 k.tl, .int .i64 k.th, .int .i64 k.ll, .int .i64 k.lh, .int .i64 k.kl, .int .i64 k.kh], .agg #[.int .i64 s.tanks, .int .i64 s.lens, .int .i64 s.lack]])
    (v' := .agg #[.int .i64 (min k.tl s.tanks), .int .i64 (max k.th s.tanks), .int .i64 (min k.ll s.lens), .int .i64 (max k.lh s.lens), .int .i64 (min k.kl s.lack), .int .i64 (max k.kh s.lack)])
    (.cons (exact_agg (.cons (exact_af rfl) (.cons (exact_af rfl) (.cons (exact_af rfl) (.cons (exact_af rfl) (.cons (exact_af rfl) (.cons (exact_af rfl) .nil))))))) (.cons (exact_agg (.cons (exact_af rfl) (.cons (exact_af rfl) (.cons (exact_af rfl) .nil)))) .nil))
    (exact_agg (.cons (exact_af rfl) (.cons (exact_af rfl) (.cons (exact_af rfl) (.cons (exact_af rfl) (.cons (exact_af rfl) (.cons (exact_af rfl) .nil))))))) fun w' _ => withEnd_any k s w'
theorem boolE_get (k j : Nat) (hj : j < 1) : (boolE d k)[j]? = some (encBool (d k) j) ∧ af (encBool (d k) j) = true := by
  obtain rfl : j = 0 := by omega
  exact ⟨rfl, rfl⟩
theorem intE_get {f : Nat → Int} (k j : Nat) (hj : j < 1) : (intE f k)[j]? = some (encInt (f k) j) ∧ af (encInt (f k) j) = true := by
  obtain rfl : j = 0 := by omega
  exact ⟨rfl, rfl⟩
theorem vrl_args {μ : Mu} {l : List Value} {args' : Array Value} (hv : VRs μ l.toArray args') : VRl μ l args'.toList := vrl_mk _ _ (by simpa using hv.1) fun i v v' x y => hv.2 i v v' (by simpa using x) (by simpa using y)
theorem con_isDrought {k : Nat} (hk : k < n) (hm : nd ≤ maxLen) :
    CJ Tryd.prog (worldLo w) 40 #[islR i wa wc ma mc, .slice (some ⟨k, 0, none⟩) nd 1] [(k, some (.cells (rowA (boolE d) nd) 4 (0, 0)))] n (.bool (drB i.most i.row nd d)) [] n [] := by
  refine cj_read rfl (fun p hp => ?_) fun μ w' args' hB hv hH => ?_
  · simp only [List.mem_cons, List.not_mem_nil, or_false] at hp
    rcases hp with rfl
    exact hk
  · obtain ⟨im, h1, h2, h3⟩ := hH (k, some (.cells (rowA (boolE d) nd) 4 (0, 0))) (by simp) _ _ _ rfl
    have hl := vrl_args (l := [islR i wa wc ma mc, .slice (some ⟨k, 0, none⟩) nd 1]) hv
    generalize hg : args'.toList = l at hl
    cases hl with
    | cons q1 hl => cases hl with
      | cons q2 hl =>
        cases hl
        obtain ⟨c, rfl, _, _⟩ := q2.slice_new h1
        have e1 := (exact_isl i wa wc ma mc).2 _ _ q1
        have e : args' = #[islV i wa wc ma mc, .slice (some ⟨im.blk, im.off, none⟩) nd c] := by rw [← Array.toList_inj, hg, e1]
        rw [e]
        exact isDrought_any i wa wc ma mc _ nd c d w' hm (atN_of_or h3 h2 (fun _ => rfl) boolE_get)
theorem con_follow {t : Tru} {k r s : Nat} (hk : k < n) (hr : r < n) (hs : s < n) (m1 : t.nd ≤ maxLen) (m2 : t.nr ≤ maxLen) (m3 : t.nn ≤ maxLen) (hf : Fit i tanks t) (h1 : 1 ≤ i.nm) (hnm : i.nm ≤ maxLen) :
    CJ Tryd.prog (worldLo w) 26 #[islR i wa wc ma mc, .int .i64 tanks, .agg #[.int .i64 t.start, .int .i64 t.soak, .int .i64 t.leak, .slice (some ⟨k, 0, none⟩) t.nd 1, .slice (some ⟨r, 0, none⟩) t.nr 1, .slice (some ⟨s, 0, none⟩) t.nn 1]]
      [(k, some (.cells (rowA (boolE t.dry) t.nd) 4 (0, 0))), (r, some (.cells (rowA (intE t.rains) t.nr) 3 (0, 0))), (s, some (.cells (rowA (intE t.needs) t.nn) 3 (0, 0)))] n
      (.tuple #[.slice (some ⟨n, 0, none⟩) i.nm 0, .agg #[.int .i64 (i.size * tanks + t.start), .int .i64 (runTo i tanks t i.nm).rain, .int .i64 (runTo i tanks t i.nm).used, .int .i64 (runTo i tanks t i.nm).leak, .int .i64 (runTo i tanks t i.nm).sea, .int .i64 ((runTo i tanks t i.nm).tanks + (runTo i tanks t i.nm).lens)]])
      [(n, .cells (rowA (seenE i tanks t) i.nm) 59 (1, 1))] (n + 1) [] := by
  refine cj_readrow seenE_af (fun p hp => ?_) fun μ w' args' hB hv hH => ?_
  · simp only [List.mem_cons, List.not_mem_nil, or_false] at hp
    rcases hp with rfl | rfl | rfl <;> assumption
  · obtain ⟨imk, k1, k2, k3⟩ := hH (k, some (.cells (rowA (boolE t.dry) t.nd) 4 (0, 0))) (by simp) _ _ _ rfl
    obtain ⟨imr, r1, r2, r3⟩ := hH (r, some (.cells (rowA (intE t.rains) t.nr) 3 (0, 0))) (by simp) _ _ _ rfl
    obtain ⟨ims, s1, s2, s3⟩ := hH (s, some (.cells (rowA (intE t.needs) t.nn) 3 (0, 0))) (by simp) _ _ _ rfl
    have hl := vrl_args (l := [islR i wa wc ma mc, .int .i64 tanks, .agg #[.int .i64 t.start, .int .i64 t.soak, .int .i64 t.leak, .slice (some ⟨k, 0, none⟩) t.nd 1, .slice (some ⟨r, 0, none⟩) t.nr 1, .slice (some ⟨s, 0, none⟩) t.nn 1]]) hv
    generalize hg : args'.toList = l at hl
    cases hl with
    | cons q1 hl => cases hl with
      | cons q2 hl => cases hl with
        | cons q3 hl =>
          cases hl
          have e1 := (exact_isl i wa wc ma mc).2 _ _ q1
          have e2 := (exact_af (v := .int .i64 tanks) rfl).2 _ _ q2
          obtain ⟨ys, rfl, hy⟩ := q3.agg_inv
          cases hy with
          | cons y1 hy => cases hy with
            | cons y2 hy => cases hy with
              | cons y3 hy => cases hy with
                | cons y4 hy => cases hy with
                  | cons y5 hy => cases hy with
                    | cons y6 hy =>
                      cases hy
                      have f1 := (exact_af (v := .int .i64 t.start) rfl).2 _ _ y1
                      have f2 := (exact_af (v := .int .i64 t.soak) rfl).2 _ _ y2
                      have f3 := (exact_af (v := .int .i64 t.leak) rfl).2 _ _ y3
                      obtain ⟨ck, rfl, _, _⟩ := y4.slice_new k1
                      obtain ⟨cr, rfl, _, _⟩ := y5.slice_new r1
                      obtain ⟨cs, rfl, _, _⟩ := y6.slice_new s1
                      subst e1 e2 f1 f2 f3
                      have e : args' = #[islV i wa wc ma mc, .int .i64 tanks, truV t (some ⟨imk.blk, imk.off, none⟩) ck (some ⟨imr.blk, imr.off, none⟩) cr (some ⟨ims.blk, ims.off, none⟩) cs] := by rw [← Array.toList_inj, hg]; rfl
                      rw [e]
                      refine (follow_any i wa wc ma mc tanks t _ ck _ cr _ cs w' ⟨m1, m2, m3, atN_of_or k3 k2 (fun _ => rfl) boolE_get, atN_of_or r3 r2 (fun _ => rfl) intE_get, atN_of_or s3 s2 (fun _ => rfl) intE_get⟩ hf).mono fun e w'' ⟨g, hg1, he, hs, hb⟩ => ⟨⟨g, _, hg1, ?_, he, seens_cells hs, fun μ' hμ => ?_⟩, hb⟩
                      · obtain ⟨b, off, he, hlt, _⟩ := hs (by omega)
                        cases he
                        exact hlt
                      · have : VRl μ' [.slice (some ⟨n, 0, none⟩) i.nm 0, .agg #[.int .i64 (i.size * tanks + t.start), .int .i64 (runTo i tanks t i.nm).rain, .int .i64 (runTo i tanks t i.nm).used, .int .i64 (runTo i tanks t i.nm).leak, .int .i64 (runTo i tanks t i.nm).sea, .int .i64 ((runTo i tanks t i.nm).tanks + (runTo i tanks t i.nm).lens)]]
                            [.slice (some ⟨g, 0, none⟩) i.nm i.nm, .agg #[.int .i64 (i.size * tanks + t.start), .int .i64 (runTo i tanks t i.nm).rain, .int .i64 (runTo i tanks t i.nm).used, .int .i64 (runTo i tanks t i.nm).leak, .int .i64 (runTo i tanks t i.nm).sea, .int .i64 ((runTo i tanks t i.nm).tanks + (runTo i tanks t i.nm).lens)]] :=
                          .cons (.slice ⟨_, hμ, rfl, rfl⟩ (Nat.le_refl _) hnm fun h => absurd rfl h) (.cons (vr_af (by kernel_rfl)) .nil)
                        exact .tuple this.vrs'.1 this.vrs'.2
end
end Go.Proofs.YtffdidleebognaaDoor

namespace Go.Proofs.YtffdidleebognaaDoor
open Go Go.CE Go.Proofs Go.RowKit Lens
/-- No fault. -/
def ffN : Array Value := #[.slice none 0 0, .int .i64 0, .int .i64 1, .int .i64 0]
/-- A fault, of a drought that stands at a block. -/
def ffF (b nm : Nat) (m r w : Int) : Array Value := #[.slice (some ⟨b, 0, none⟩) nm 1, .int .i64 m, .int .i64 r, .int .i64 w]
def ffO (i : Isl) (W : Value) (mb mo ms : Nat) (tanks : Int) (F : Array Value) : List (Bool × Obj) :=
  [(false, .cells (islC i W (.slice (some ⟨mb, mo, some 0⟩) i.nm ms)) 27 (0, 0)), (true, .cells #[.int .i64 tanks] 3 (0, 0)), (true, .cells #[.slice none 0 0, .int .i64 0, .int .i64 0, .int .i64 0] 37 (0, 0)), (true, .cells F 37 (0, 0))]
def ffR (i : Isl) (W : Value) (mb mo ms : Nat) (tanks : Int) : List (Nat × Value) :=
  [(0, .agg (islC i W (.slice (some ⟨mb, mo, some 0⟩) i.nm ms))), (1, .int .i64 tanks), (2, .pointer (some ⟨0, 0, none⟩)), (3, .pointer (some ⟨1, 0, none⟩)), (4, .pointer (some ⟨2, 0, none⟩)), (5, .pointer (some ⟨3, 0, none⟩)), (13, .agg ffN), (14, .agg (islC i W (.slice (some ⟨mb, mo, some 0⟩) i.nm ms))), (15, .func (.func 55) #[] #[.pointer (some ⟨4, 0, none⟩)])]
noncomputable def ffS (i : Isl) (W : Value) (mb mo ms : Nat) (tanks : Int) (s : LoopState) (p : Option Code) : Loop :=
  ⟨s, p, 22, tmArr (mkT 48 (ffR i W mb mo ms tanks) (fun _ => undef)), #[16], nav (bodyOf Tryd.prog 22) [1, 0, 1, 1, 0, 1, 0, 0], nav (bodyOf Tryd.prog 22) [1, 0, 1, 1, 0, 1, 0, 1], 5⟩
noncomputable def fdO (i : Isl) (W : Value) (mb mo ms : Nat) (tanks : Int) (F : Array Value) (s : LoopState) (p : Option Code) : List (Bool × Obj) :=
  ffO i W mb mo ms tanks F ++ [(false, .cells (islC i W (.slice (some ⟨mb, mo, some 0⟩) i.nm ms)) 27 (0, 0)), (false, .deferred (some [])), (false, .loop (ffS i W mb mo ms tanks s p))]
noncomputable def frC (i : Isl) (W : Value) (mb mo ms : Nat) (tanks : Int) : CF :=
  headR (some 6) 22 48 (ffR i W mb mo ms tanks ++ [(16, .slice (some ⟨7, 0, none⟩) i.nm 1)]) (fun _ => undef) [.code (nav (bodyOf Tryd.prog 22) [1, 0, 1, 1, 0, 1, 0, 0]), .beginRound, .code (nav (bodyOf Tryd.prog 22) [1, 0, 1, 1, 0, 1, 0, 1])]
set_option maxRecDepth 100000 in
theorem ff_fine (B : Lo) (i : Isl) (W : Value) (mb mo ms : Nat) (tanks : Int) : ended (srun Tryd.prog goFns B 19 0 (entryC Tryd.prog 22 48 [.agg (islC i W (.slice (some ⟨mb, mo, some 0⟩) i.nm ms)), .int .i64 tanks]) [] 0
    [(7, Hint.call [] (Value.func (Fn.func 55) #[] #[Value.pointer (some { block := 4, off := 0 })])
  [(4, Obj.cells (islC i W (Value.slice (some { block := mb, off := mo, spot := some 0 }) (Isl.nm i) ms)) 27)] 5 []),
(8, Hint.call [0, 1, 2, 3, 4, 5, 6] (Value.tuple #[]) [(6, Obj.loop (ffS i W mb mo ms tanks LoopState.ready none))] 7
  [6])] 0 [] []) [] = some ⟨.ret (.agg ffN), [], 7,
    [(RJ Tryd.prog B (entryC Tryd.prog 55 43 [.func (.yield 6) #[] #[], .pointer (some ⟨4, 0, none⟩)]) ((List.range 7).map fun q => (q, hget (heapO 0 (fdO i W mb mo ms tanks ffN .ready none)) q)) 7 (.tuple #[]) [(6, .loop (ffS i W mb mo ms tanks .ready none))] 7 [6]),
CJ Tryd.prog B 36
  #[Value.agg
      #[Value.int IntKind.i64 (Isl.cap i), Value.int IntKind.i64 (Isl.sl i), Value.int IntKind.i64 (Isl.sh i),
        Value.int IntKind.i64 (Isl.roof i), Value.int IntKind.i64 (Isl.sand i), Value.int IntKind.i64 (Isl.kl i),
        Value.int IntKind.i64 (Isl.kh i), Value.int IntKind.i64 (Isl.ll i), Value.int IntKind.i64 (Isl.lh i),
        Value.int IntKind.i64 (Isl.pump i), Value.int IntKind.i64 (Isl.keep i), Value.int IntKind.i64 (Isl.size i), W,
        Value.slice (some { block := mb, off := mo, spot := some 0 }) (Isl.nm i) ms, Value.int IntKind.i64 (Isl.most i),
        Value.int IntKind.i64 (Isl.row i)]]
  [] 4 (Value.func (Fn.func 55) #[] #[Value.pointer (some { block := 4, off := 0 })])
  [(4, Obj.cells (islC i W (Value.slice (some { block := mb, off := mo, spot := some 0 }) (Isl.nm i) ms)) 27)] 5 []]⟩ := by kernel_rfl
set_option maxRecDepth 100000 in
theorem ff_bad (B : Lo) (i : Isl) (W : Value) (mb mo ms : Nat) (tanks : Int) (m r v : Int) (D : Array Value) : ended (srun Tryd.prog goFns B 19 0 (entryC Tryd.prog 22 48 [.agg (islC i W (.slice (some ⟨mb, mo, some 0⟩) i.nm ms)), .int .i64 tanks]) [] 0
    [(7, Hint.call [] (Value.func (Fn.func 55) #[] #[Value.pointer (some { block := 4, off := 0 })])
  [(4, Obj.cells (islC i W (Value.slice (some { block := mb, off := mo, spot := some 0 }) (Isl.nm i) ms)) 27)] 5 []),
(8, Hint.call [0, 1, 2, 3, 4, 5, 6] (Value.tuple #[])
  [(3, Obj.cells (ffF 7 (Isl.nm i) m r v) 37),
    (6, Obj.loop (ffS i W mb mo ms tanks LoopState.done (some (Code.exit 0)))), (7, Obj.cells D 4)]
  8 [3, 6])] 0 [] []) [7] = some ⟨.ret (.agg (ffF 7 i.nm m r v)), [some (.cells D 4 (0, 0))], 8,
    [(RJ Tryd.prog B (entryC Tryd.prog 55 43 [.func (.yield 6) #[] #[], .pointer (some ⟨4, 0, none⟩)]) ((List.range 7).map fun q => (q, hget (heapO 0 (fdO i W mb mo ms tanks ffN .ready none)) q)) 7 (.tuple #[]) [(3, .cells (ffF 7 i.nm m r v) 37 (0, 0)), (6, .loop (ffS i W mb mo ms tanks .done (some (.exit 0)))), (7, .cells D 4 (0, 0))] 8 [3, 6]),
CJ Tryd.prog B 36
  #[Value.agg
      #[Value.int IntKind.i64 (Isl.cap i), Value.int IntKind.i64 (Isl.sl i), Value.int IntKind.i64 (Isl.sh i),
        Value.int IntKind.i64 (Isl.roof i), Value.int IntKind.i64 (Isl.sand i), Value.int IntKind.i64 (Isl.kl i),
        Value.int IntKind.i64 (Isl.kh i), Value.int IntKind.i64 (Isl.ll i), Value.int IntKind.i64 (Isl.lh i),
        Value.int IntKind.i64 (Isl.pump i), Value.int IntKind.i64 (Isl.keep i), Value.int IntKind.i64 (Isl.size i), W,
        Value.slice (some { block := mb, off := mo, spot := some 0 }) (Isl.nm i) ms, Value.int IntKind.i64 (Isl.most i),
        Value.int IntKind.i64 (Isl.row i)]]
  [] 4 (Value.func (Fn.func 55) #[] #[Value.pointer (some { block := 4, off := 0 })])
  [(4, Obj.cells (islC i W (Value.slice (some { block := mb, off := mo, spot := some 0 }) (Isl.nm i) ms)) 27)] 5 []]⟩ := by kernel_rfl
def fdL (nm : Nat) (p2 : Int) (b : Nat) : List (Nat × Value) := [(0, .func (.yield 6) #[] #[]), (1, .pointer (some ⟨4, 0, none⟩)), (3, .int .i64 nm), (11, .int .i64 p2), (12, .int .i64 b)]
def fdM (nm : Nat) (p2 : Int) (b m : Nat) : List (Nat × Value) := [(0, .func (.yield 6) #[] #[]), (1, .pointer (some ⟨4, 0, none⟩)), (3, .int .i64 nm), (4, .int .i64 b), (5, .slice (some ⟨7, 0, none⟩) nm 1), (11, .int .i64 p2), (12, .int .i64 b), (17, .int .i64 nm), (18, .int .i64 m)]
set_option maxRecDepth 100000 in
theorem fd_entry (B : Lo) (i : Isl) (W : Value) (mb mo ms : Nat) (tanks : Int) (p2 : Int) : landB (srun Tryd.prog goFns B 6 7 (entryC Tryd.prog 55 43 [.func (.yield 6) #[] #[], .pointer (some ⟨4, 0, none⟩)]) (heapO 0 (fdO i W mb mo ms tanks ffN .ready none)) 7
    [(5, Hint.val (Value.int IntKind.i64 p2))] 0 [] []) ((fdL i.nm p2 0).map (·.1)) ((kz [0, 1, 2, 3, 4, 5, 6] (fdO i W mb mo ms tanks ffN .ready none)).map (·.old)) = some (⟨55, 43, drT.map (it (bodyOf Tryd.prog 55)), [], .run, none, (fdL i.nm p2 0).map (fun p => rnV (rhoK (kz [0, 1, 2, 3, 4, 5, 6] (fdO i W mb mo ms tanks ffN .ready none))) 3 p.2), (kz [0, 1, 2, 3, 4, 5, 6] (fdO i W mb mo ms tanks ffN .ready none)).map (fun kept_ => some (wasK (rhoK (kz [0, 1, 2, 3, 4, 5, 6] (fdO i W mb mo ms tanks ffN .ready none))) kept_)), 7,
    [IntKind.wrap IntKind.i64 (1 * 2 ^ min (Int.toNat (↑(Isl.nm i) : Int)) (IntKind.bits IntKind.i64)) = p2]⟩, []) := by kernel_rfl
set_option maxRecDepth 100000 in
theorem fd_bits (B : Lo) (i : Isl) (W : Value) (mb mo ms : Nat) (tanks : Int) (p2 : Int) (b : Nat) (D : Array Value) (d : Nat → Value) : landB (srun Tryd.prog goFns B 16 7 (headC 55 43 (fdL i.nm p2 b) d (drT.map (it (bodyOf Tryd.prog 55)))) (heapO 0 (fdO i W mb mo ms tanks ffN .ready none)) ((fdO i W mb mo ms tanks ffN .ready none)).length
    [(0, Hint.val (Value.bool true)),
(4, Hint.mk (Isl.nm i) D)] 0 [] []) ((fdM i.nm p2 b 0).map (·.1)) ((kz [0, 1, 2, 3, 4, 5, 6, 7] ((fdO i W mb mo ms tanks ffN .ready none) ++ [(false, Obj.cells D 4 (0, 0))])).map (·.old)) = some (⟨55, 43, drU.map (it (bodyOf Tryd.prog 55)), [], .run, none, (fdM i.nm p2 b 0).map (fun p => rnV (rhoK (kz [0, 1, 2, 3, 4, 5, 6, 7] ((fdO i W mb mo ms tanks ffN .ready none) ++ [(false, Obj.cells D 4 (0, 0))]))) 3 p.2), (kz [0, 1, 2, 3, 4, 5, 6, 7] ((fdO i W mb mo ms tanks ffN .ready none) ++ [(false, Obj.cells D 4 (0, 0))])).map (fun kept_ => some (wasK (rhoK (kz [0, 1, 2, 3, 4, 5, 6, 7] ((fdO i W mb mo ms tanks ffN .ready none) ++ [(false, Obj.cells D 4 (0, 0))]))) kept_)), 8,
    [cMake Tryd.prog 34 (Value.int IntKind.i64 (↑(Isl.nm i) : Int)) (Value.int IntKind.i64 (↑(Isl.nm i) : Int)) =
  some (4, D, Isl.nm i, 1),
ltq (↑b : Int) p2 = true]⟩, []) := by kernel_rfl
set_option maxRecDepth 100000 in
theorem fd_bit (B : Lo) (i : Isl) (W : Value) (mb mo ms : Nat) (tanks : Int) (p2 : Int) (b m : Nat) (D D' : Array Value) (sh an : Int) (y : Bool) (d : Nat → Value) : landB (srun Tryd.prog goFns B 13 7 (headC 55 43 (fdM i.nm p2 b m) d (drU.map (it (bodyOf Tryd.prog 55)))) (heapO 0 ((fdO i W mb mo ms tanks ffN .ready none) ++ [(false, Obj.cells D 4 (0, 0))])) (((fdO i W mb mo ms tanks ffN .ready none) ++ [(false, Obj.cells D 4 (0, 0))])).length
    [(0, Hint.val (Value.bool true)),
(7, Hint.val (Value.int IntKind.i64 ((↑(Isl.nm i) : Int) - 1))),
(9, Hint.val (Value.int IntKind.i64 (↑(Isl.nm i - 1 - m) : Int))),
(10, Hint.val (Value.int IntKind.i64 sh)),
(11, Hint.val (Value.int IntKind.i64 an)),
(12, Hint.val (Value.bool y)),
(13, Hint.idx m),
(14, Hint.st D'),
(15, Hint.val (Value.int IntKind.i64 ((↑m : Int) + 1)))] 0 [] []) ((fdM i.nm p2 b (m + 1)).map (·.1)) ((kz [0, 1, 2, 3, 4, 5, 6, 7] ((fdO i W mb mo ms tanks ffN .ready none) ++ [(false, Obj.cells D' 4 (0, 0))])).map (·.old)) = some (⟨55, 43, drU.map (it (bodyOf Tryd.prog 55)), [], .run, none, (fdM i.nm p2 b (m + 1)).map (fun p => rnV (rhoK (kz [0, 1, 2, 3, 4, 5, 6, 7] ((fdO i W mb mo ms tanks ffN .ready none) ++ [(false, Obj.cells D' 4 (0, 0))]))) 3 p.2), (kz [0, 1, 2, 3, 4, 5, 6, 7] ((fdO i W mb mo ms tanks ffN .ready none) ++ [(false, Obj.cells D' 4 (0, 0))])).map (fun kept_ => some (wasK (rhoK (kz [0, 1, 2, 3, 4, 5, 6, 7] ((fdO i W mb mo ms tanks ffN .ready none) ++ [(false, Obj.cells D' 4 (0, 0))]))) kept_)), 8,
    [wq ((↑m : Int) + 1) = (↑m : Int) + 1,
0 + m * 1 + TypeInfo.size Tryd.t4 ≤ Array.size D ∧ splice D (0 + m * 1) #[Value.bool y] = D',
(↑m : Int) = (↑m : Int) ∧ m < Isl.nm i,
eqq an 1 = y,
IntKind.wrap IntKind.i64
    (↑(BitVec.toNat (BitVec.ofInt (IntKind.bits IntKind.i64) sh &&& BitVec.ofInt (IntKind.bits IntKind.i64) 1)) : Int) =
  an,
Int.fdiv (↑b : Int) (2 ^ min (Int.toNat (↑(Isl.nm i - 1 - m) : Int)) (IntKind.bits IntKind.i64)) = sh,
wq ((↑(Isl.nm i) : Int) - 1 - (↑m : Int)) = (↑(Isl.nm i - 1 - m) : Int),
wq ((↑(Isl.nm i) : Int) - 1) = (↑(Isl.nm i) : Int) - 1,
ltq (↑m : Int) (↑(Isl.nm i) : Int) = true]⟩, []) := by kernel_rfl
set_option maxRecDepth 100000 in
theorem fd_no (B : Lo) (i : Isl) (W : Value) (mb mo ms : Nat) (tanks : Int) (p2 : Int) (b m : Nat) (D : Array Value) (d : Nat → Value) : landB (srun Tryd.prog goFns B 12 7 (headC 55 43 (fdM i.nm p2 b m) d (drU.map (it (bodyOf Tryd.prog 55)))) (heapO 0 ((fdO i W mb mo ms tanks ffN .ready none) ++ [(false, Obj.cells D 4 (0, 0))])) (((fdO i W mb mo ms tanks ffN .ready none) ++ [(false, Obj.cells D 4 (0, 0))])).length
    [(0, Hint.val (Value.bool false)),
(3, Hint.call [7] (Value.bool false) [] 8 []),
(10, Hint.val (Value.int IntKind.i64 ((↑b : Int) + 1)))] 0 [] []) ((fdL i.nm p2 (b + 1)).map (·.1)) ((kz [0, 1, 2, 3, 4, 5, 6] (fdO i W mb mo ms tanks ffN .ready none)).map (·.old)) = some (⟨55, 43, drT.map (it (bodyOf Tryd.prog 55)), [], .run, none, (fdL i.nm p2 (b + 1)).map (fun p => rnV (rhoK (kz [0, 1, 2, 3, 4, 5, 6] (fdO i W mb mo ms tanks ffN .ready none))) 3 p.2), (kz [0, 1, 2, 3, 4, 5, 6] (fdO i W mb mo ms tanks ffN .ready none)).map (fun kept_ => some (wasK (rhoK (kz [0, 1, 2, 3, 4, 5, 6] (fdO i W mb mo ms tanks ffN .ready none))) kept_)), 8,
    [wq ((↑b : Int) + 1) = (↑b : Int) + 1,
CJ Tryd.prog B 40
  #[Value.agg
      #[Value.int IntKind.i64 (Isl.cap i), Value.int IntKind.i64 (Isl.sl i), Value.int IntKind.i64 (Isl.sh i),
        Value.int IntKind.i64 (Isl.roof i), Value.int IntKind.i64 (Isl.sand i), Value.int IntKind.i64 (Isl.kl i),
        Value.int IntKind.i64 (Isl.kh i), Value.int IntKind.i64 (Isl.ll i), Value.int IntKind.i64 (Isl.lh i),
        Value.int IntKind.i64 (Isl.pump i), Value.int IntKind.i64 (Isl.keep i), Value.int IntKind.i64 (Isl.size i), W,
        Value.slice (some { block := mb, off := mo, spot := some 0 }) (Isl.nm i) ms, Value.int IntKind.i64 (Isl.most i),
        Value.int IntKind.i64 (Isl.row i)],
    Value.slice (some { block := 7, off := 0 }) (Isl.nm i) 1]
  [(7, some (Obj.cells D 4))] 8 (Value.bool false) [] 8 [],
ltq (↑m : Int) (↑(Isl.nm i) : Int) = false]⟩, []) := by kernel_rfl
set_option maxRecDepth 100000 in
theorem fd_end (B : Lo) (i : Isl) (W : Value) (mb mo ms : Nat) (tanks : Int) (p2 : Int) (b : Nat) (d : Nat → Value) : endedB (srun Tryd.prog goFns B 7 7 (headC 55 43 (fdL i.nm p2 b) d (drT.map (it (bodyOf Tryd.prog 55)))) (heapO 0 (fdO i W mb mo ms tanks ffN .ready none)) ((fdO i W mb mo ms tanks ffN .ready none)).length
    [(0, Hint.val (Value.bool false))] 0 [] []) ((kz [0, 1, 2, 3, 4, 5, 6] (fdO i W mb mo ms tanks ffN .ready none)).map (·.old)) = some (⟨.ret (rnV (rhoK (kz [0, 1, 2, 3, 4, 5, 6] (fdO i W mb mo ms tanks ffN .ready none))) 3 (.tuple #[])), (kz [0, 1, 2, 3, 4, 5, 6] (fdO i W mb mo ms tanks ffN .ready none)).map (fun kept_ => some (wasK (rhoK (kz [0, 1, 2, 3, 4, 5, 6] (fdO i W mb mo ms tanks ffN .ready none))) kept_)), 7,
    [ltq (↑b : Int) p2 = false]⟩, []) := by kernel_rfl
set_option maxRecDepth 100000 in
theorem fd_yield (B : Lo) (i : Isl) (W : Value) (mb mo ms : Nat) (tanks : Int) (p2 : Int) (b m : Nat) (D : Array Value) (d : Nat → Value) : landB (srun Tryd.prog goFns B 12 7 (headC 55 43 (fdM i.nm p2 b m) d (drU.map (it (bodyOf Tryd.prog 55)))) (heapO 0 ((fdO i W mb mo ms tanks ffN .ready none) ++ [(false, Obj.cells D 4 (0, 0))])) (((fdO i W mb mo ms tanks ffN .ready none) ++ [(false, Obj.cells D 4 (0, 0))])).length
    [(0, Hint.val (Value.bool false)),
(3, Hint.call [7] (Value.bool true) [] 8 []),
(7, Hint.call [0, 1, 2, 3, 4, 5, 6, 7] (Value.bool true) [(6, Obj.loop (ffS i W mb mo ms tanks LoopState.ready none))] 8
  [6]),
(10, Hint.val (Value.int IntKind.i64 ((↑b : Int) + 1)))] 0 [] []) ((fdL i.nm p2 (b + 1)).map (·.1)) ((kz [0, 1, 2, 3, 4, 5, 6] (fdO i W mb mo ms tanks ffN .ready none)).map (·.old)) = some (⟨55, 43, drT.map (it (bodyOf Tryd.prog 55)), [], .run, none, (fdL i.nm p2 (b + 1)).map (fun p => rnV (rhoK (kz [0, 1, 2, 3, 4, 5, 6] (fdO i W mb mo ms tanks ffN .ready none))) 3 p.2), (kz [0, 1, 2, 3, 4, 5, 6] (fdO i W mb mo ms tanks ffN .ready none)).map (fun kept_ => some (wasK (rhoK (kz [0, 1, 2, 3, 4, 5, 6] (fdO i W mb mo ms tanks ffN .ready none))) kept_)), 8,
    [wq ((↑b : Int) + 1) = (↑b : Int) + 1,
(RJ Tryd.prog B (frC i W mb mo ms tanks) ((List.range 8).map fun q => (q, hget (heapO 0 ((fdO i W mb mo ms tanks ffN .ready none) ++ [(false, Obj.cells D 4 (0, 0))])) q)) 8 (.bool true) [(6, .loop (ffS i W mb mo ms tanks .ready none))] 8 [6]),
CJ Tryd.prog B 40
  #[Value.agg
      #[Value.int IntKind.i64 (Isl.cap i), Value.int IntKind.i64 (Isl.sl i), Value.int IntKind.i64 (Isl.sh i),
        Value.int IntKind.i64 (Isl.roof i), Value.int IntKind.i64 (Isl.sand i), Value.int IntKind.i64 (Isl.kl i),
        Value.int IntKind.i64 (Isl.kh i), Value.int IntKind.i64 (Isl.ll i), Value.int IntKind.i64 (Isl.lh i),
        Value.int IntKind.i64 (Isl.pump i), Value.int IntKind.i64 (Isl.keep i), Value.int IntKind.i64 (Isl.size i), W,
        Value.slice (some { block := mb, off := mo, spot := some 0 }) (Isl.nm i) ms, Value.int IntKind.i64 (Isl.most i),
        Value.int IntKind.i64 (Isl.row i)],
    Value.slice (some { block := 7, off := 0 }) (Isl.nm i) 1]
  [(7, some (Obj.cells D 4))] 8 (Value.bool true) [] 8 [],
ltq (↑m : Int) (↑(Isl.nm i) : Int) = false]⟩, [6]) := by kernel_rfl
set_option maxRecDepth 100000 in
theorem fd_break (B : Lo) (i : Isl) (W : Value) (mb mo ms : Nat) (tanks : Int) (p2 : Int) (b n : Nat) (D : Array Value) (m r v : Int) (d : Nat → Value) : endedB (srun Tryd.prog goFns B 10 7 (headC 55 43 (fdM i.nm p2 b n) d (drU.map (it (bodyOf Tryd.prog 55)))) (heapO 0 ((fdO i W mb mo ms tanks ffN .ready none) ++ [(false, Obj.cells D 4 (0, 0))])) (((fdO i W mb mo ms tanks ffN .ready none) ++ [(false, Obj.cells D 4 (0, 0))])).length
    [(0, Hint.val (Value.bool false)),
(3, Hint.call [7] (Value.bool true) [] 8 []),
(7, Hint.call [0, 1, 2, 3, 4, 5, 6, 7] (Value.bool false)
  [(3, Obj.cells (ffF 7 (Isl.nm i) m r v) 37),
    (6, Obj.loop (ffS i W mb mo ms tanks LoopState.done (some (Code.exit 0))))]
  8 [3, 6])] 0 [] []) ((kz [0, 1, 2, 3, 4, 5, 6, 7] ((fdO i W mb mo ms tanks (ffF 7 i.nm m r v) .done (some (.exit 0))) ++ [(false, Obj.cells D 4 (0, 0))])).map (·.old)) = some (⟨.ret (rnV (rhoK (kz [0, 1, 2, 3, 4, 5, 6, 7] ((fdO i W mb mo ms tanks (ffF 7 i.nm m r v) .done (some (.exit 0))) ++ [(false, Obj.cells D 4 (0, 0))]))) 3 (.tuple #[])), (kz [0, 1, 2, 3, 4, 5, 6, 7] ((fdO i W mb mo ms tanks (ffF 7 i.nm m r v) .done (some (.exit 0))) ++ [(false, Obj.cells D 4 (0, 0))])).map (fun kept_ => some (wasK (rhoK (kz [0, 1, 2, 3, 4, 5, 6, 7] ((fdO i W mb mo ms tanks (ffF 7 i.nm m r v) .done (some (.exit 0))) ++ [(false, Obj.cells D 4 (0, 0))]))) kept_)), 8,
    [(RJ Tryd.prog B (frC i W mb mo ms tanks) ((List.range 8).map fun q => (q, hget (heapO 0 ((fdO i W mb mo ms tanks ffN .ready none) ++ [(false, Obj.cells D 4 (0, 0))])) q)) 8 (.bool false) [(3, .cells (ffF 7 i.nm m r v) 37 (0, 0)), (6, .loop (ffS i W mb mo ms tanks .done (some (.exit 0))))] 8 [3, 6]),
CJ Tryd.prog B 40
  #[Value.agg
      #[Value.int IntKind.i64 (Isl.cap i), Value.int IntKind.i64 (Isl.sl i), Value.int IntKind.i64 (Isl.sh i),
        Value.int IntKind.i64 (Isl.roof i), Value.int IntKind.i64 (Isl.sand i), Value.int IntKind.i64 (Isl.kl i),
        Value.int IntKind.i64 (Isl.kh i), Value.int IntKind.i64 (Isl.ll i), Value.int IntKind.i64 (Isl.lh i),
        Value.int IntKind.i64 (Isl.pump i), Value.int IntKind.i64 (Isl.keep i), Value.int IntKind.i64 (Isl.size i), W,
        Value.slice (some { block := mb, off := mo, spot := some 0 }) (Isl.nm i) ms, Value.int IntKind.i64 (Isl.most i),
        Value.int IntKind.i64 (Isl.row i)],
    Value.slice (some { block := 7, off := 0 }) (Isl.nm i) 1]
  [(7, some (Obj.cells D 4))] 8 (Value.bool true) [] 8 [],
ltq (↑n : Int) (↑(Isl.nm i) : Int) = false]⟩, [6, 3]) := by kernel_rfl
noncomputable def frO (i : Isl) (W : Value) (mb mo ms : Nat) (tanks : Int) (D E : Array Value) : List (Bool × Obj) :=
  fdO i W mb mo ms tanks ffN .busy none ++ [(false, .cells D 4 (0, 0)), (false, .cells E 59 (1, 1))]
def frL (nm m : Nat) : List (Nat × Value) :=
  [(2, .pointer (some ⟨0, 0, none⟩)), (3, .pointer (some ⟨1, 0, none⟩)), (5, .pointer (some ⟨3, 0, none⟩)), (6, .slice (some ⟨7, 0, none⟩) nm 1), (26, .slice (some ⟨8, 0, none⟩) nm 0), (27, .int .i64 nm), (28, .int .i64 m)]
def frT : List It := [.code [1, 0, 1, 1, 0, 1, 0, 1, 0, 1, 1, 0, 0], .inLoop [1, 0, 1, 1, 0, 1, 0, 1, 0, 1, 1, 0, 0], .inBlock 2, .inBlock 1]
set_option maxRecDepth 100000 in
theorem fr_start (B : Lo) (i : Isl) (W : Value) (mb mo ms : Nat) (tanks : Int) (D R1 N1 : Array Value) (s1 k1 l1 : Int) (E : Array Value) (g0 g1 g2 g3 g4 g5 : Int) : landB (srun Tryd.prog goFns B 9 8 (frC i W mb mo ms tanks) (heapO 0 (fdO i W mb mo ms tanks ffN .ready none ++ [(false, Obj.cells D 4 (0, 0))])) ((fdO i W mb mo ms tanks ffN .ready none ++ [(false, Obj.cells D 4 (0, 0))])).length
    [(5, Hint.call [7]
  (Value.agg
    #[Value.int IntKind.i64 s1, Value.int IntKind.i64 k1, Value.int IntKind.i64 l1,
      Value.slice (some { block := 7, off := 0 }) (Isl.nm i) 1,
      Value.slice (some { block := 8, off := 0 }) (Isl.nm i) 1,
      Value.slice (some { block := 9, off := 0 }) (Isl.nm i) 1])
  [(8, Obj.cells R1 3), (9, Obj.cells N1 3)] 10 []),
(6, Hint.call [7, 8, 9]
  (Value.tuple
    #[Value.slice (some { block := 10, off := 0 }) (Isl.nm i) 0,
      Value.agg
        #[Value.int IntKind.i64 g0, Value.int IntKind.i64 g1, Value.int IntKind.i64 g2, Value.int IntKind.i64 g3,
          Value.int IntKind.i64 g4, Value.int IntKind.i64 g5]])
  [(10, Obj.cells E 59 (1, 1))] 11 [])] 0 [] []) ((frL i.nm 0).map (·.1)) ((kz [0, 1, 2, 3, 4, 5, 6, 7, 10] (frO i W mb mo ms tanks D E)).map (·.old)) = some (⟨22, 48, frT.map (it (bodyOf Tryd.prog 22)), [], .run, some 6, (frL i.nm 0).map (fun p => rnV (rhoK (kz [0, 1, 2, 3, 4, 5, 6, 7, 10] (frO i W mb mo ms tanks D E))) 3 p.2), (kz [0, 1, 2, 3, 4, 5, 6, 7, 10] (frO i W mb mo ms tanks D E)).map (fun kept_ => some (wasK (rhoK (kz [0, 1, 2, 3, 4, 5, 6, 7, 10] (frO i W mb mo ms tanks D E))) kept_)), 12,
    [CJ Tryd.prog B 26
  #[Value.agg
      #[Value.int IntKind.i64 (Isl.cap i), Value.int IntKind.i64 (Isl.sl i), Value.int IntKind.i64 (Isl.sh i),
        Value.int IntKind.i64 (Isl.roof i), Value.int IntKind.i64 (Isl.sand i), Value.int IntKind.i64 (Isl.kl i),
        Value.int IntKind.i64 (Isl.kh i), Value.int IntKind.i64 (Isl.ll i), Value.int IntKind.i64 (Isl.lh i),
        Value.int IntKind.i64 (Isl.pump i), Value.int IntKind.i64 (Isl.keep i), Value.int IntKind.i64 (Isl.size i), W,
        Value.slice (some { block := mb, off := mo, spot := some 0 }) (Isl.nm i) ms, Value.int IntKind.i64 (Isl.most i),
        Value.int IntKind.i64 (Isl.row i)],
    Value.int IntKind.i64 tanks,
    Value.agg
      #[Value.int IntKind.i64 s1, Value.int IntKind.i64 k1, Value.int IntKind.i64 l1,
        Value.slice (some { block := 7, off := 0 }) (Isl.nm i) 1,
        Value.slice (some { block := 8, off := 0 }) (Isl.nm i) 1,
        Value.slice (some { block := 9, off := 0 }) (Isl.nm i) 1]]
  [(7, some (Obj.cells D 4)), (8, some (Obj.cells R1 3)), (9, some (Obj.cells N1 3))] 10
  (Value.tuple
    #[Value.slice (some { block := 10, off := 0 }) (Isl.nm i) 0,
      Value.agg
        #[Value.int IntKind.i64 g0, Value.int IntKind.i64 g1, Value.int IntKind.i64 g2, Value.int IntKind.i64 g3,
          Value.int IntKind.i64 g4, Value.int IntKind.i64 g5]])
  [(10, Obj.cells E 59 (1, 1))] 11 [],
CJ Tryd.prog B 37
  #[Value.agg
      #[Value.int IntKind.i64 (Isl.cap i), Value.int IntKind.i64 (Isl.sl i), Value.int IntKind.i64 (Isl.sh i),
        Value.int IntKind.i64 (Isl.roof i), Value.int IntKind.i64 (Isl.sand i), Value.int IntKind.i64 (Isl.kl i),
        Value.int IntKind.i64 (Isl.kh i), Value.int IntKind.i64 (Isl.ll i), Value.int IntKind.i64 (Isl.lh i),
        Value.int IntKind.i64 (Isl.pump i), Value.int IntKind.i64 (Isl.keep i), Value.int IntKind.i64 (Isl.size i), W,
        Value.slice (some { block := mb, off := mo, spot := some 0 }) (Isl.nm i) ms, Value.int IntKind.i64 (Isl.most i),
        Value.int IntKind.i64 (Isl.row i)],
    Value.slice (some { block := 7, off := 0 }) (Isl.nm i) 1]
  [(7, some (Obj.cells D 4))] 8
  (Value.agg
    #[Value.int IntKind.i64 s1, Value.int IntKind.i64 k1, Value.int IntKind.i64 l1,
      Value.slice (some { block := 7, off := 0 }) (Isl.nm i) 1,
      Value.slice (some { block := 8, off := 0 }) (Isl.nm i) 1,
      Value.slice (some { block := 9, off := 0 }) (Isl.nm i) 1])
  [(8, Obj.cells R1 3), (9, Obj.cells N1 3)] 10 []]⟩, [6]) := by kernel_rfl
set_option maxRecDepth 100000 in
theorem fr_month (B : Lo) (i : Isl) (W : Value) (mb mo ms : Nat) (tanks : Int) (D E : Array Value) (m : Nat) (e0 e1 e2 : Int) (d : Nat → Value) : landB (srun Tryd.prog goFns B 18 8 (headR (some 6) 22 48 (frL i.nm m) d (frT.map (it (bodyOf Tryd.prog 22)))) (heapO 0 (frO i W mb mo ms tanks D E)) ((frO i W mb mo ms tanks D E)).length
    [(0, Hint.val (Value.bool true)),
(2, Hint.idx m),
(3, Hint.ld (Value.agg #[Value.int IntKind.i64 e0, Value.int IntKind.i64 e1, Value.int IntKind.i64 e2])),
(9, Hint.call [] (Value.tuple #[Value.int IntKind.i64 1, Value.int IntKind.i64 0]) [] 10 []),
(17, Hint.val (Value.int IntKind.i64 ((↑m : Int) + 1)))] 0 [] []) ((frL i.nm (m + 1)).map (·.1)) ((kz [0, 1, 2, 3, 4, 5, 6, 7, 8] (frO i W mb mo ms tanks D E)).map (·.old)) = some (⟨22, 48, frT.map (it (bodyOf Tryd.prog 22)), [], .run, some 6, (frL i.nm (m + 1)).map (fun p => rnV (rhoK (kz [0, 1, 2, 3, 4, 5, 6, 7, 8] (frO i W mb mo ms tanks D E))) 3 p.2), (kz [0, 1, 2, 3, 4, 5, 6, 7, 8] (frO i W mb mo ms tanks D E)).map (fun kept_ => some (wasK (rhoK (kz [0, 1, 2, 3, 4, 5, 6, 7, 8] (frO i W mb mo ms tanks D E))) kept_)), 10,
    [wq ((↑m : Int) + 1) = (↑m : Int) + 1,
CJ Tryd.prog B 38
  #[Value.agg
      #[Value.int IntKind.i64 (Isl.cap i), Value.int IntKind.i64 (Isl.sl i), Value.int IntKind.i64 (Isl.sh i),
        Value.int IntKind.i64 (Isl.roof i), Value.int IntKind.i64 (Isl.sand i), Value.int IntKind.i64 (Isl.kl i),
        Value.int IntKind.i64 (Isl.kh i), Value.int IntKind.i64 (Isl.ll i), Value.int IntKind.i64 (Isl.lh i),
        Value.int IntKind.i64 (Isl.pump i), Value.int IntKind.i64 (Isl.keep i), Value.int IntKind.i64 (Isl.size i), W,
        Value.slice (some { block := mb, off := mo, spot := some 0 }) (Isl.nm i) ms, Value.int IntKind.i64 (Isl.most i),
        Value.int IntKind.i64 (Isl.row i)],
    Value.agg #[Value.int IntKind.i64 e0, Value.int IntKind.i64 e1, Value.int IntKind.i64 e2]]
  [] 10 (Value.tuple #[Value.int IntKind.i64 1, Value.int IntKind.i64 0]) [] 10 [],
0 + m * 3 + TypeInfo.size Tryd.t59 ≤ Array.size E ∧
  Array.extract E (0 + m * 3) (0 + m * 3 + TypeInfo.size Tryd.t59) =
    #[Value.int IntKind.i64 e0, Value.int IntKind.i64 e1, Value.int IntKind.i64 e2],
(↑m : Int) = (↑m : Int) ∧ m < Isl.nm i,
ltq (↑m : Int) (↑(Isl.nm i) : Int) = true]⟩, []) := by kernel_rfl
set_option maxRecDepth 100000 in
theorem fr_bad (B : Lo) (i : Isl) (W : Value) (mb mo ms : Nat) (tanks : Int) (D E : Array Value) (m : Nat) (e0 e1 e2 r v : Int) (d : Nat → Value) : endedB (srun Tryd.prog goFns B 17 8 (headR (some 6) 22 48 (frL i.nm m) d (frT.map (it (bodyOf Tryd.prog 22)))) (heapO 0 (frO i W mb mo ms tanks D E)) ((frO i W mb mo ms tanks D E)).length
    [(0, Hint.val (Value.bool true)),
(2, Hint.idx m),
(3, Hint.ld (Value.agg #[Value.int IntKind.i64 e0, Value.int IntKind.i64 e1, Value.int IntKind.i64 e2])),
(9, Hint.call [] (Value.tuple #[Value.int IntKind.i64 r, Value.int IntKind.i64 v]) [] 10 []),
(16, Hint.val (Value.bool true))] 0 [] []) ((kz [0, 1, 2, 3, 4, 5, 6, 7] (fdO i W mb mo ms tanks (ffF 7 i.nm m r v) .done (some (.exit 0)) ++ [(false, Obj.cells D 4 (0, 0))])).map (·.old)) = some (⟨.ret (rnV (rhoK (kz [0, 1, 2, 3, 4, 5, 6, 7] (fdO i W mb mo ms tanks (ffF 7 i.nm m r v) .done (some (.exit 0)) ++ [(false, Obj.cells D 4 (0, 0))]))) 3 (.bool false)), (kz [0, 1, 2, 3, 4, 5, 6, 7] (fdO i W mb mo ms tanks (ffF 7 i.nm m r v) .done (some (.exit 0)) ++ [(false, Obj.cells D 4 (0, 0))])).map (fun kept_ => some (wasK (rhoK (kz [0, 1, 2, 3, 4, 5, 6, 7] (fdO i W mb mo ms tanks (ffF 7 i.nm m r v) .done (some (.exit 0)) ++ [(false, Obj.cells D 4 (0, 0))]))) kept_)), 10,
    [(!eqq r 1) = true,
CJ Tryd.prog B 38
  #[Value.agg
      #[Value.int IntKind.i64 (Isl.cap i), Value.int IntKind.i64 (Isl.sl i), Value.int IntKind.i64 (Isl.sh i),
        Value.int IntKind.i64 (Isl.roof i), Value.int IntKind.i64 (Isl.sand i), Value.int IntKind.i64 (Isl.kl i),
        Value.int IntKind.i64 (Isl.kh i), Value.int IntKind.i64 (Isl.ll i), Value.int IntKind.i64 (Isl.lh i),
        Value.int IntKind.i64 (Isl.pump i), Value.int IntKind.i64 (Isl.keep i), Value.int IntKind.i64 (Isl.size i), W,
        Value.slice (some { block := mb, off := mo, spot := some 0 }) (Isl.nm i) ms, Value.int IntKind.i64 (Isl.most i),
        Value.int IntKind.i64 (Isl.row i)],
    Value.agg #[Value.int IntKind.i64 e0, Value.int IntKind.i64 e1, Value.int IntKind.i64 e2]]
  [] 10 (Value.tuple #[Value.int IntKind.i64 r, Value.int IntKind.i64 v]) [] 10 [],
0 + m * 3 + TypeInfo.size Tryd.t59 ≤ Array.size E ∧
  Array.extract E (0 + m * 3) (0 + m * 3 + TypeInfo.size Tryd.t59) =
    #[Value.int IntKind.i64 e0, Value.int IntKind.i64 e1, Value.int IntKind.i64 e2],
(↑m : Int) = (↑m : Int) ∧ m < Isl.nm i,
ltq (↑m : Int) (↑(Isl.nm i) : Int) = true]⟩, [6, 3]) := by kernel_rfl
set_option maxRecDepth 100000 in
theorem fr_end (B : Lo) (i : Isl) (W : Value) (mb mo ms : Nat) (tanks : Int) (D E : Array Value) (m : Nat) (d : Nat → Value) : endedB (srun Tryd.prog goFns B 7 8 (headR (some 6) 22 48 (frL i.nm m) d (frT.map (it (bodyOf Tryd.prog 22)))) (heapO 0 (frO i W mb mo ms tanks D E)) ((frO i W mb mo ms tanks D E)).length
    [(0, Hint.val (Value.bool false))] 0 [] []) ((kz [0, 1, 2, 3, 4, 5, 6, 7] (fdO i W mb mo ms tanks ffN .ready none ++ [(false, Obj.cells D 4 (0, 0))])).map (·.old)) = some (⟨.ret (rnV (rhoK (kz [0, 1, 2, 3, 4, 5, 6, 7] (fdO i W mb mo ms tanks ffN .ready none ++ [(false, Obj.cells D 4 (0, 0))]))) 3 (.bool true)), (kz [0, 1, 2, 3, 4, 5, 6, 7] (fdO i W mb mo ms tanks ffN .ready none ++ [(false, Obj.cells D 4 (0, 0))])).map (fun kept_ => some (wasK (rhoK (kz [0, 1, 2, 3, 4, 5, 6, 7] (fdO i W mb mo ms tanks ffN .ready none ++ [(false, Obj.cells D 4 (0, 0))]))) kept_)), 9,
    [ltq (↑m : Int) (↑(Isl.nm i) : Int) = false]⟩, [6]) := by kernel_rfl
end Go.Proofs.YtffdidleebognaaDoor

namespace Go.Proofs.YtffdidleebognaaDoor
open Go Go.CE Go.Proofs Go.RowKit Lens
set_option maxRecDepth 100000 in
theorem sca_run (B : Lo) (i : Isl) (W M : Value) (nd : Nat) (A R N : Array Value) (n : Nat) : endedB (srun Tryd.prog goFns B 6 1 (entryC Tryd.prog 37 8 [.agg (islC i W M), .slice (some ⟨0, 0, none⟩) nd 1]) (heapO 0 [(false, .cells A 4 (0, 0))]) 1
    [(4, Hint.call [0]
  (Value.agg
    #[Value.int IntKind.i64 (Isl.sl i), Value.int IntKind.i64 (Isl.kl i), Value.int IntKind.i64 (Isl.lh i),
      Value.slice (some { block := 0, off := 0 }) nd 1, Value.slice (some { block := 3, off := 0 }) n 1,
      Value.slice (some { block := 4, off := 0 }) n 1])
  [(3, Obj.cells R 3), (4, Obj.cells N 3)] 5 [])] 0 [] []) ((kz [0, 3, 4] [(false, .cells A 4 (0, 0)), (false, .cells R 3 (0, 0)), (false, .cells N 3 (0, 0))]).map (·.old)) = some (⟨.ret (rnV (rhoK (kz [0, 3, 4] [(false, .cells A 4 (0, 0)), (false, .cells R 3 (0, 0)), (false, .cells N 3 (0, 0))])) 3 (.agg #[.int .i64 i.sl, .int .i64 i.kl, .int .i64 i.lh, .slice (some ⟨0, 0, none⟩) nd 1, .slice (some ⟨1, 0, none⟩) n 1, .slice (some ⟨2, 0, none⟩) n 1])), (kz [0, 3, 4] [(false, .cells A 4 (0, 0)), (false, .cells R 3 (0, 0)), (false, .cells N 3 (0, 0))]).map (fun kept_ => some (wasK (rhoK (kz [0, 3, 4] [(false, .cells A 4 (0, 0)), (false, .cells R 3 (0, 0)), (false, .cells N 3 (0, 0))])) kept_)), 5,
    [CJ Tryd.prog B 56
  #[Value.agg
      #[Value.int IntKind.i64 (Isl.cap i), Value.int IntKind.i64 (Isl.sl i), Value.int IntKind.i64 (Isl.sh i),
        Value.int IntKind.i64 (Isl.roof i), Value.int IntKind.i64 (Isl.sand i), Value.int IntKind.i64 (Isl.kl i),
        Value.int IntKind.i64 (Isl.kh i), Value.int IntKind.i64 (Isl.ll i), Value.int IntKind.i64 (Isl.lh i),
        Value.int IntKind.i64 (Isl.pump i), Value.int IntKind.i64 (Isl.keep i), Value.int IntKind.i64 (Isl.size i), W,
        M, Value.int IntKind.i64 (Isl.most i), Value.int IntKind.i64 (Isl.row i)],
    Value.slice (some { block := 0, off := 0 }) nd 1, Value.func (Fn.func 57) #[] #[], Value.func (Fn.func 58) #[] #[]]
  [(0, some (Obj.cells A 4))] 3
  (Value.agg
    #[Value.int IntKind.i64 (Isl.sl i), Value.int IntKind.i64 (Isl.kl i), Value.int IntKind.i64 (Isl.lh i),
      Value.slice (some { block := 0, off := 0 }) nd 1, Value.slice (some { block := 3, off := 0 }) n 1,
      Value.slice (some { block := 4, off := 0 }) n 1])
  [(3, Obj.cells R 3), (4, Obj.cells N 3)] 5 []]⟩, []) := by kernel_rfl
set_option maxRecDepth 100000 in
theorem ric_run (B : Lo) (i : Isl) (W M : Value) (nd : Nat) (A R N : Array Value) (n : Nat) : endedB (srun Tryd.prog goFns B 6 1 (entryC Tryd.prog 46 8 [.agg (islC i W M), .slice (some ⟨0, 0, none⟩) nd 1]) (heapO 0 [(false, .cells A 4 (0, 0))]) 1
    [(4, Hint.call [0]
  (Value.agg
    #[Value.int IntKind.i64 (Isl.sh i), Value.int IntKind.i64 (Isl.kh i), Value.int IntKind.i64 (Isl.ll i),
      Value.slice (some { block := 0, off := 0 }) nd 1, Value.slice (some { block := 3, off := 0 }) n 1,
      Value.slice (some { block := 4, off := 0 }) n 1])
  [(3, Obj.cells R 3), (4, Obj.cells N 3)] 5 [])] 0 [] []) ((kz [0, 3, 4] [(false, .cells A 4 (0, 0)), (false, .cells R 3 (0, 0)), (false, .cells N 3 (0, 0))]).map (·.old)) = some (⟨.ret (rnV (rhoK (kz [0, 3, 4] [(false, .cells A 4 (0, 0)), (false, .cells R 3 (0, 0)), (false, .cells N 3 (0, 0))])) 3 (.agg #[.int .i64 i.sh, .int .i64 i.kh, .int .i64 i.ll, .slice (some ⟨0, 0, none⟩) nd 1, .slice (some ⟨1, 0, none⟩) n 1, .slice (some ⟨2, 0, none⟩) n 1])), (kz [0, 3, 4] [(false, .cells A 4 (0, 0)), (false, .cells R 3 (0, 0)), (false, .cells N 3 (0, 0))]).map (fun kept_ => some (wasK (rhoK (kz [0, 3, 4] [(false, .cells A 4 (0, 0)), (false, .cells R 3 (0, 0)), (false, .cells N 3 (0, 0))])) kept_)), 5,
    [CJ Tryd.prog B 56
  #[Value.agg
      #[Value.int IntKind.i64 (Isl.cap i), Value.int IntKind.i64 (Isl.sl i), Value.int IntKind.i64 (Isl.sh i),
        Value.int IntKind.i64 (Isl.roof i), Value.int IntKind.i64 (Isl.sand i), Value.int IntKind.i64 (Isl.kl i),
        Value.int IntKind.i64 (Isl.kh i), Value.int IntKind.i64 (Isl.ll i), Value.int IntKind.i64 (Isl.lh i),
        Value.int IntKind.i64 (Isl.pump i), Value.int IntKind.i64 (Isl.keep i), Value.int IntKind.i64 (Isl.size i), W,
        M, Value.int IntKind.i64 (Isl.most i), Value.int IntKind.i64 (Isl.row i)],
    Value.slice (some { block := 0, off := 0 }) nd 1, Value.func (Fn.func 58) #[] #[], Value.func (Fn.func 57) #[] #[]]
  [(0, some (Obj.cells A 4))] 3
  (Value.agg
    #[Value.int IntKind.i64 (Isl.sh i), Value.int IntKind.i64 (Isl.kh i), Value.int IntKind.i64 (Isl.ll i),
      Value.slice (some { block := 0, off := 0 }) nd 1, Value.slice (some { block := 3, off := 0 }) n 1,
      Value.slice (some { block := 4, off := 0 }) n 1])
  [(3, Obj.cells R 3), (4, Obj.cells N 3)] 5 []]⟩, []) := by kernel_rfl
theorem sca_con {i : Isl} {wa : Option Addr} {wc : Nat} {ma : Option Addr} {mc : Nat} {w : World} {nd : Nat} {d : Nat → Bool} (hi : IslAt w w.heap.size i wa ma) (h1 : 1 ≤ i.nm) (hn : i.nm ≤ nd) (h8 : i.nm ≤ 8) {k n : Nat} (hk : k < n) :
    CJ Tryd.prog (worldLo w) 37 #[islR i wa wc ma mc, .slice (some ⟨k, 0, none⟩) nd 1] [(k, some (.cells (rowA (boolE d) nd) 4 (0, 0)))] n
      (.agg #[.int .i64 i.sl, .int .i64 i.kl, .int .i64 i.lh, .slice (some ⟨k, 0, none⟩) nd 1, .slice (some ⟨n, 0, none⟩) i.nm 1, .slice (some ⟨n + 1, 0, none⟩) i.nm 1])
      [(n, .cells (rowA (intE (endTru i false nd d).rains) i.nm) 3 (0, 0)), (n + 1, .cells (rowA (intE (endTru i false nd d).needs) i.nm) 3 (0, 0))] (n + 2) [] := by
  have hlA : looseO (.cells (rowA (boolE d) nd) 4 (0, 0)) := rowA_mem nd fun j _ v hv => by
    simp only [boolE, List.mem_cons, List.not_mem_nil, or_false] at hv
    rw [hv]; exact loose_bool _
  have hlI : ∀ (f : Nat → Int) k, looseO (.cells (rowA (intE f) k) 3 (0, 0)) := fun f k => rowA_mem k fun j _ v hv => by
    simp only [intE, List.mem_cons, List.not_mem_nil, or_false] at hv
    rw [hv]; exact loose_int _ _
  have h : StdJ Tryd.prog (worldLo w) 37 #[islR i wa wc ma mc, .slice (some ⟨0, 0, none⟩) nd 1] (heapO 0 [(false, .cells (rowA (boolE d) nd) 4 (0, 0))]) 1
      (.agg #[.int .i64 i.sl, .int .i64 i.kl, .int .i64 i.lh, .slice (some ⟨0, 0, none⟩) nd 1, .slice (some ⟨1, 0, none⟩) i.nm 1, .slice (some ⟨2, 0, none⟩) i.nm 1])
      (heapO 0 [(false, .cells (rowA (boolE d) nd) 4 (0, 0)), (false, .cells (rowA (intE (endTru i false nd d).rains) i.nm) 3 (0, 0)), (false, .cells (rowA (intE (endTru i false nd d).needs) i.nm) 3 (0, 0))]) 3 [] := by
    refine (GoE.refl (P := Tryd.prog) (B := worldLo w) (c0 := entryC Tryd.prog 37 8 [islR i wa wc ma mc, .slice (some ⟨0, 0, none⟩) nd 1]) (under_heapO [(false, Obj.cells (rowA (boolE d) nd) 4 (0, 0))] (Nat.le_refl 1))).std goFns_ok mixed_ok (by kernel_rfl) (writable_nil _ _)
      (os := [(false, .cells (rowA (boolE d) nd) 4 (0, 0)), (false, .cells (rowA (intE (endTru i false nd d).rains) i.nm) 3 (0, 0)), (false, .cells (rowA (intE (endTru i false nd d).needs) i.nm) 3 (0, 0))])
      (sca_run (worldLo w) i (rawS wa i.nw wc) (rawS ma i.nm mc) nd (rowA (boolE d) nd) (rowA (intE (endTru i false nd d).rains) i.nm) (rowA (intE (endTru i false nd d).needs) i.nm) i.nm) ⟨lext_con hi h1 hn h8 (by omega), trivial⟩
      (by kernel_rfl) (by kernel_rfl) (by kernel_rfl) (by kernel_rfl) (by kernel_rfl) (by kernel_rfl) (by kernel_rfl) (by kernel_rfl)
      ⟨.inr ⟨rfl, .inl hlA⟩, .inr ⟨rfl, .inl (hlI _ _)⟩, .inr ⟨rfl, .inl (hlI _ _)⟩, trivial⟩ (same1 _ _)
  have hloose : ∀ b ∈ [(false, Obj.cells (rowA (boolE d) nd) 4 (0, 0))] ++ [(false, Obj.cells (rowA (intE (endTru i false nd d).rains) i.nm) 3 (0, 0)), (false, Obj.cells (rowA (intE (endTru i false nd d).needs) i.nm) 3 (0, 0))], looseO b.2 := by
    intro b hb
    simp only [List.cons_append, List.nil_append, List.mem_cons, List.not_mem_nil, or_false] at hb
    rcases hb with rfl | rfl | rfl
    · exact hlA
    · exact hlI _ _
    · exact hlI _ _
  obtain ⟨mb, mo, rfl, _⟩ := monsGet hi.months (show 0 < i.nm by omega)
  rcases wa with _ | ⟨b, o, _ | z⟩
  all_goals exact (StdJ.rows (kept := [(false, Obj.cells (rowA (boolE d) nd) 4 (0, 0))]) (l := [k]) (n := n) h rfl (by simpa using hk) rfl hloose (by kernel_rfl) (by kernel_rfl)).cast (by kernel_rfl) (by kernel_rfl) (by kernel_rfl) (by kernel_rfl) (by kernel_rfl)
theorem ric_con {i : Isl} {wa : Option Addr} {wc : Nat} {ma : Option Addr} {mc : Nat} {w : World} {nd : Nat} {d : Nat → Bool} (hi : IslAt w w.heap.size i wa ma) (h1 : 1 ≤ i.nm) (hn : i.nm ≤ nd) (h8 : i.nm ≤ 8) {k n : Nat} (hk : k < n) :
    CJ Tryd.prog (worldLo w) 46 #[islR i wa wc ma mc, .slice (some ⟨k, 0, none⟩) nd 1] [(k, some (.cells (rowA (boolE d) nd) 4 (0, 0)))] n
      (.agg #[.int .i64 i.sh, .int .i64 i.kh, .int .i64 i.ll, .slice (some ⟨k, 0, none⟩) nd 1, .slice (some ⟨n, 0, none⟩) i.nm 1, .slice (some ⟨n + 1, 0, none⟩) i.nm 1])
      [(n, .cells (rowA (intE (endTru i true nd d).rains) i.nm) 3 (0, 0)), (n + 1, .cells (rowA (intE (endTru i true nd d).needs) i.nm) 3 (0, 0))] (n + 2) [] := by
  have hlA : looseO (.cells (rowA (boolE d) nd) 4 (0, 0)) := rowA_mem nd fun j _ v hv => by
    simp only [boolE, List.mem_cons, List.not_mem_nil, or_false] at hv
    rw [hv]; exact loose_bool _
  have hlI : ∀ (f : Nat → Int) k, looseO (.cells (rowA (intE f) k) 3 (0, 0)) := fun f k => rowA_mem k fun j _ v hv => by
    simp only [intE, List.mem_cons, List.not_mem_nil, or_false] at hv
    rw [hv]; exact loose_int _ _
  have h : StdJ Tryd.prog (worldLo w) 46 #[islR i wa wc ma mc, .slice (some ⟨0, 0, none⟩) nd 1] (heapO 0 [(false, .cells (rowA (boolE d) nd) 4 (0, 0))]) 1
      (.agg #[.int .i64 i.sh, .int .i64 i.kh, .int .i64 i.ll, .slice (some ⟨0, 0, none⟩) nd 1, .slice (some ⟨1, 0, none⟩) i.nm 1, .slice (some ⟨2, 0, none⟩) i.nm 1])
      (heapO 0 [(false, .cells (rowA (boolE d) nd) 4 (0, 0)), (false, .cells (rowA (intE (endTru i true nd d).rains) i.nm) 3 (0, 0)), (false, .cells (rowA (intE (endTru i true nd d).needs) i.nm) 3 (0, 0))]) 3 [] := by
    refine (GoE.refl (P := Tryd.prog) (B := worldLo w) (c0 := entryC Tryd.prog 46 8 [islR i wa wc ma mc, .slice (some ⟨0, 0, none⟩) nd 1]) (under_heapO [(false, Obj.cells (rowA (boolE d) nd) 4 (0, 0))] (Nat.le_refl 1))).std goFns_ok mixed_ok (by kernel_rfl) (writable_nil _ _)
      (os := [(false, .cells (rowA (boolE d) nd) 4 (0, 0)), (false, .cells (rowA (intE (endTru i true nd d).rains) i.nm) 3 (0, 0)), (false, .cells (rowA (intE (endTru i true nd d).needs) i.nm) 3 (0, 0))])
      (ric_run (worldLo w) i (rawS wa i.nw wc) (rawS ma i.nm mc) nd (rowA (boolE d) nd) (rowA (intE (endTru i true nd d).rains) i.nm) (rowA (intE (endTru i true nd d).needs) i.nm) i.nm) ⟨hext_con hi h1 hn h8 (by omega), trivial⟩
      (by kernel_rfl) (by kernel_rfl) (by kernel_rfl) (by kernel_rfl) (by kernel_rfl) (by kernel_rfl) (by kernel_rfl) (by kernel_rfl)
      ⟨.inr ⟨rfl, .inl hlA⟩, .inr ⟨rfl, .inl (hlI _ _)⟩, .inr ⟨rfl, .inl (hlI _ _)⟩, trivial⟩ (same1 _ _)
  have hloose : ∀ b ∈ [(false, Obj.cells (rowA (boolE d) nd) 4 (0, 0))] ++ [(false, Obj.cells (rowA (intE (endTru i true nd d).rains) i.nm) 3 (0, 0)), (false, Obj.cells (rowA (intE (endTru i true nd d).needs) i.nm) 3 (0, 0))], looseO b.2 := by
    intro b hb
    simp only [List.cons_append, List.nil_append, List.mem_cons, List.not_mem_nil, or_false] at hb
    rcases hb with rfl | rfl | rfl
    · exact hlA
    · exact hlI _ _
    · exact hlI _ _
  obtain ⟨mb, mo, rfl, _⟩ := monsGet hi.months (show 0 < i.nm by omega)
  rcases wa with _ | ⟨b, o, _ | z⟩
  all_goals exact (StdJ.rows (kept := [(false, Obj.cells (rowA (boolE d) nd) 4 (0, 0))]) (l := [k]) (n := n) h rfl (by simpa using hk) rfl hloose (by kernel_rfl) (by kernel_rfl)).cast (by kernel_rfl) (by kernel_rfl) (by kernel_rfl) (by kernel_rfl) (by kernel_rfl)
end Go.Proofs.YtffdidleebognaaDoor

namespace Go.Proofs.YtffdidleebognaaDoor
open Go Go.CE Go.Proofs Go.RowKit Lens
def knE (kn : Nat → Kn) (j : Nat) : List Value := [.int .i64 (kn j).tl, .int .i64 (kn j).th, .int .i64 (kn j).ll, .int .i64 (kn j).lh, .int .i64 (kn j).kl, .int .i64 (kn j).kh]
def wid (k : Kn) (s : Seen) : Kn := ⟨min k.tl s.tanks, max k.th s.tanks, min k.ll s.lens, max k.lh s.lens, min k.kl s.lack, max k.kh s.lack⟩
/-- Bounds, widened by the ends of the first m months. -/
def pass (kn : Nat → Kn) (e : Nat → Seen) (m j : Nat) : Kn := if j < m then wid (kn j) (e j) else kn j
def endsOf (i : Isl) (tanks : Int) (much : Bool) (d : Nat → Bool) (j : Nat) : Seen := seenOf (runTo i tanks (endTru i much i.nm d) (j + 1))
/-- Bounds, widened by the ends of both extremes of a drought. -/
def widest (i : Isl) (tanks : Int) (d : Nat → Bool) (kn : Nat → Kn) : Nat → Kn := pass (pass kn (endsOf i tanks false d) i.nm) (endsOf i tanks true d) i.nm
theorem loose_ints {e : Nat → List Value} (n : Nat) (h : ∀ k, ∀ v ∈ e k, ∃ x, v = .int .i64 x) : ∀ v ∈ rowA e n, Loose v := rowA_mem n fun k _ v hv => by
  obtain ⟨x, rfl⟩ := h k v hv
  exact loose_int _ _
theorem loose_knE (kn : Nat → Kn) (n : Nat) : ∀ v ∈ rowA (knE kn) n, Loose v := loose_ints n fun k v hv => by
  simp only [knE, List.mem_cons, List.not_mem_nil, or_false] at hv
  rcases hv with rfl | rfl | rfl | rfl | rfl | rfl <;> exact ⟨_, rfl⟩
theorem loose_intE (f : Nat → Int) (n : Nat) : ∀ v ∈ rowA (intE f) n, Loose v := loose_ints n fun k v hv => by
  simp only [intE, List.mem_cons, List.not_mem_nil, or_false] at hv
  exact ⟨_, hv⟩
theorem loose_boolE (d : Nat → Bool) (n : Nat) : ∀ v ∈ rowA (boolE d) n, Loose v := rowA_mem n fun k _ v hv => by
  simp only [boolE, List.mem_cons, List.not_mem_nil, or_false] at hv
  rw [hv]; exact loose_bool _
theorem loose_seenE (i : Isl) (tanks : Int) (t : Tru) (n : Nat) : ∀ v ∈ rowA (seenE i tanks t) n, Loose v := loose_ints n fun k v hv => by
  simp only [seenE, List.mem_cons, List.not_mem_nil, or_false] at hv
  rcases hv with rfl | rfl | rfl <;> exact ⟨_, rfl⟩
theorem pass_splice {kn : Nat → Kn} {e : Nat → Seen} {n m : Nat} (hm : m < n) :
    0 + m * 6 + 6 ≤ (rowA (knE (pass kn e m)) n).size ∧ splice (rowA (knE (pass kn e m)) n) (0 + m * 6) #[.int .i64 (min (kn m).tl (e m).tanks), .int .i64 (max (kn m).th (e m).tanks), .int .i64 (min (kn m).ll (e m).lens), .int .i64 (max (kn m).lh (e m).lens), .int .i64 (min (kn m).kl (e m).lack), .int .i64 (max (kn m).kh (e m).lack)] = rowA (knE (pass kn e (m + 1))) n := by
  have := row_splice (e := knE (pass kn e m)) (z := 6) (n := n) (x := knE (fun j => wid (kn j) (e j)) m) (fun _ => rfl) rfl hm
  rw [Nat.zero_add]
  refine ⟨this.1, this.2.trans (row_congr n fun k hk => ?_)⟩
  by_cases h : k = m
  · subst h
    simp only [if_true, knE, pass, show k < k + 1 by omega]
  · rw [if_neg h]
    simp only [knE, pass]
    by_cases h2 : k < m
    · simp only [h2, show k < m + 1 by omega]
    · simp only [h2, show ¬ k < m + 1 by omega]
theorem pass_get {kn : Nat → Kn} {e : Nat → Seen} {n m : Nat} (hm : m < n) : 0 + m * 6 + 6 ≤ (rowA (knE (pass kn e m)) n).size ∧ (rowA (knE (pass kn e m)) n).extract (0 + m * 6) (0 + m * 6 + 6) = #[.int .i64 (kn m).tl, .int .i64 (kn m).th, .int .i64 (kn m).ll, .int .i64 (kn m).lh, .int .i64 (kn m).kl, .int .i64 (kn m).kh] := by
  refine ⟨(pass_splice hm).1, ?_⟩
  rw [Nat.zero_add, row_extract (z := 6) (fun _ => rfl) hm]
  simp only [knE, pass, Nat.lt_irrefl, if_false]
theorem seen_get {i : Isl} {tanks : Int} {t : Tru} {n m : Nat} (hm : m < n) : 0 + m * 3 + 3 ≤ (rowA (seenE i tanks t) n).size ∧ (rowA (seenE i tanks t) n).extract (0 + m * 3) (0 + m * 3 + 3) = #[.int .i64 (runTo i tanks t (m + 1)).tanks, .int .i64 (runTo i tanks t (m + 1)).lens, .int .i64 (runTo i tanks t (m + 1)).lack] := by
  rw [Nat.zero_add, row_extract (z := 3) (fun _ => rfl) hm]
  refine ⟨?_, rfl⟩
  rw [rowA_size (z := 3) (fun _ => rfl) n, ← Nat.succ_mul]
  exact Nat.mul_le_mul_right _ hm
theorem slots_arr {a : Nat} {T : Tm} (h : SlotsOk a T) : ∀ v ∈ tmArr T, Loose v ∨ okV a 3 v = true := fun v hv => by
  simp only [tmArr, List.mem_toArray, List.mem_map] at hv
  obtain ⟨t, _, rfl⟩ := hv
  exact h t
section
variable {i : Isl} {wa : Option Addr} {wc mb mo mc : Nat} {tanks : Int} {w : World} {d : Nat → Bool} {dk : Nat → Value} {k : Nat}
theorem knR_ok (hdk : ∀ t, Loose (dk t)) : SlotsOk 7 (mkT 70 (knR i (rawS wa i.nw wc) mb mo mc k) dk) := slots_mkT (by decide) hdk fun p hp => by
  simp only [knR, knL, List.cons_append, List.nil_append, List.mem_cons, List.not_mem_nil, or_false] at hp
  rcases hp with rfl | rfl | rfl | rfl | rfl | rfl | rfl | rfl | rfl
  · exact .inr (by kernel_rfl)
  · exact .inr (by kernel_rfl)
  · exact .inr (by kernel_rfl)
  · exact .inr (by kernel_rfl)
  · exact .inr (by kernel_rfl)
  · exact .inr (by kernel_rfl)
  · exact .inl (loose_bool _)
  · exact .inl (exact_isl i wa wc (some ⟨mb, mo, none⟩) mc).loose
  · exact .inr (by kernel_rfl)
end
end Go.Proofs.YtffdidleebognaaDoor

namespace Go.Proofs.YtffdidleebognaaDoor
open Go Go.CE Go.Proofs Go.RowKit Lens
section
variable {i : Isl} {wa : Option Addr} {wc mb mo mc : Nat} {tanks : Int} {w : World} {d : Nat → Bool} {dk : Nat → Value} {k : Nat}
theorem pass_zero (kn : Nat → Kn) (e : Nat → Seen) : pass kn e 0 = kn := by funext j; simp [pass]
theorem knRec_fix {n : Nat} (h8 : 7 ≤ n) (hdk : ∀ t, Loose (dk t)) {s : LoopState} : FixO n (.loop { knRec i (rawS wa i.nw wc) mb mo mc k dk with state := s }) := fun v hv => by
  rcases slots_arr (knR_ok (i := i) (wa := wa) (wc := wc) (mb := mb) (mo := mo) (mc := mc) (k := k) hdk) v hv with h | h
  · exact .inl h
  · exact .inr (okV_mono h8 3 v h)
theorem rn_ok (hdk : ∀ t, Loose (dk t)) {A D R1 N1 R2 N2 E : Array Value} (hA : ∀ v ∈ A, Loose v) (hD : ∀ v ∈ D, Loose v) (h1 : ∀ v ∈ R1, Loose v) (h2 : ∀ v ∈ N1, Loose v) (h3 : ∀ v ∈ R2, Loose v) (h4 : ∀ v ∈ N2, Loose v) (h5 : ∀ v ∈ E, Loose v) :
    OkB 8 13 (rnO i (rawS wa i.nw wc) mb mo mc tanks A k dk D R1 N1 R2 N2 E) :=
  ⟨.inr ⟨rfl, .inl (loose_isl i wa wc (some ⟨mb, mo, none⟩) mc)⟩, .inl ⟨rfl, by kernel_rfl⟩, .inr ⟨rfl, .inl hA⟩, .inl ⟨rfl, by kernel_rfl⟩, .inr ⟨rfl, .inl (loose_isl i wa wc (some ⟨mb, mo, none⟩) mc)⟩, .inr ⟨rfl, .inr trivial⟩, .inr ⟨rfl, .inr (knRec_fix (by omega) hdk)⟩,
    .inr ⟨rfl, .inl hD⟩, .inr ⟨rfl, .inl h1⟩, .inr ⟨rfl, .inl h2⟩, .inr ⟨rfl, .inl h3⟩, .inr ⟨rfl, .inl h4⟩, .inr ⟨rfl, .inl h5⟩, trivial⟩
theorem rn_same {W : Value} {A A' D R1 N1 R2 N2 E : Array Value} : ∀ j, j < 8 → j ∉ [2, 6] → hget (heapO 0 (rnO i W mb mo mc tanks A' k dk D R1 N1 R2 N2 E)) j = hget (heapO 0 (drO i W mb mo mc tanks A k dk ++ [(false, Obj.cells D 4 (0, 0))])) j := fun j hj hn => by
  have : j = 0 ∨ j = 1 ∨ j = 2 ∨ j = 3 ∨ j = 4 ∨ j = 5 ∨ j = 6 ∨ j = 7 := by omega
  rcases this with rfl | rfl | rfl | rfl | rfl | rfl | rfl | rfl
  all_goals first
    | (exact absurd (by decide) hn; done)
    | rfl
theorem rn_writable {W : Value} {A D : Array Value} : Writable (heapO 0 (drO i W mb mo mc tanks A k dk ++ [(false, Obj.cells D 4 (0, 0))])) 8 [2, 6] := fun j _ hj => by
  simp only [List.mem_cons, List.not_mem_nil, or_false] at hj
  rcases hj with rfl | rfl
  · exact .inl ⟨_, _, rfl⟩
  · exact .inr (.inl ⟨_, rfl⟩)
set_option maxRecDepth 100000 in
theorem rn_std (hi : IslAt w w.heap.size i wa (some ⟨mb, mo, none⟩)) (h1 : 1 ≤ i.nm) (hdk : ∀ t, Loose (dk t)) (hf : ∀ much, Fit i tanks (endTru i much i.nm d)) (kn : Nat → Kn) :
    StdF Tryd.prog (worldLo w) (rnC i (rawS wa i.nw wc) mb mo mc k dk) (heapO 0 (drO i (rawS wa i.nw wc) mb mo mc tanks (rowA (knE kn) i.nm) k dk ++ [(false, Obj.cells (rowA (boolE d) i.nm) 4 (0, 0))])) 8 (.bool true)
      (heapO 0 (drO i (rawS wa i.nw wc) mb mo mc tanks (rowA (knE (widest i tanks d kn)) i.nm) k dk ++ [(false, Obj.cells (rowA (boolE d) i.nm) 4 (0, 0))])) 8 [2, 6] := by
  have h8 : i.nm ≤ 8 := (hf true).nm
  have hml : i.nm ≤ maxLen := by unfold maxLen; omega
  have hokA : ∀ (kn : Nat → Kn) (t : Tru), OkB 8 13 (rnO i (rawS wa i.nw wc) mb mo mc tanks (rowA (knE kn) i.nm) k dk (rowA (boolE d) i.nm) (rowA (intE (endTru i false i.nm d).rains) i.nm) (rowA (intE (endTru i false i.nm d).needs) i.nm) (rowA (intE (endTru i true i.nm d).rains) i.nm) (rowA (intE (endTru i true i.nm d).needs) i.nm) (rowA (seenE i tanks t) i.nm)) := fun kn t =>
    rn_ok hdk (loose_knE _ _) (loose_boolE _ _) (loose_intE _ _) (loose_intE _ _) (loose_intE _ _) (loose_intE _ _) (loose_seenE _ _ _ _)
  have hr7 : ∀ l, some 6 = some l → l < 8 := fun l e => by cases e; omega
  let H0 := heapO 0 (drO i (rawS wa i.nw wc) mb mo mc tanks (rowA (knE kn) i.nm) k dk ++ [(false, Obj.cells (rowA (boolE d) i.nm) 4 (0, 0))])
  let at' : Nat → Nat → (Nat → Kn) → Tru → Prop := fun h m kn' t => ∃ d' : Nat → Value, (∀ t, Loose (d' t)) ∧ GoE Tryd.prog (worldLo w) (rnC i (rawS wa i.nw wc) mb mo mc k dk) H0 8
    (headR (some 6) 27 70 (rnL i.nm i.sl i.kl i.lh i.sh i.kh i.ll h m) d' (rnT.map (it (bodyOf Tryd.prog 27)))) (heapO 0 (rnO i (rawS wa i.nw wc) mb mo mc tanks (rowA (knE kn') i.nm) k dk (rowA (boolE d) i.nm) (rowA (intE (endTru i false i.nm d).rains) i.nm) (rowA (intE (endTru i false i.nm d).needs) i.nm) (rowA (intE (endTru i true i.nm d).rains) i.nm) (rowA (intE (endTru i true i.nm d).needs) i.nm) (rowA (seenE i tanks t) i.nm))) 13 [2, 6]
  have s0 : at' 0 0 kn (endTru i false i.nm d) :=
    ((GoE.refl (P := Tryd.prog) (B := worldLo w) (c0 := rnC i (rawS wa i.nw wc) mb mo mc k dk) (under_heapO (drO i (rawS wa i.nw wc) mb mo mc tanks (rowA (knE kn) i.nm) k dk ++ [(false, Obj.cells (rowA (boolE d) i.nm) 4 (0, 0))]) (Nat.le_refl 8))).widen (Wf := [2, 6]) (fun _ _ h => by simp at h) rn_writable).headR goFns_ok mixed_ok rn_writable
      (rn_start (worldLo w) i (rawS wa i.nw wc) mb mo mc tanks (rowA (knE kn) i.nm) k dk (rowA (boolE d) i.nm) (rowA (intE (endTru i false i.nm d).rains) i.nm) (rowA (intE (endTru i false i.nm d).needs) i.nm) (rowA (intE (endTru i true i.nm d).rains) i.nm) (rowA (intE (endTru i true i.nm d).needs) i.nm) i.sl i.kl i.lh i.sh i.kh i.ll (rowA (seenE i tanks (endTru i false i.nm d)) i.nm)
        (i.size * tanks + (endTru i false i.nm d).start) (runTo i tanks (endTru i false i.nm d) i.nm).rain (runTo i tanks (endTru i false i.nm d) i.nm).used (runTo i tanks (endTru i false i.nm d) i.nm).leak (runTo i tanks (endTru i false i.nm d) i.nm).sea ((runTo i tanks (endTru i false i.nm d) i.nm).tanks + (runTo i tanks (endTru i false i.nm d) i.nm).lens))
      ⟨con_follow (w := w) (i := i) (tanks := tanks) (wa := wa) (wc := wc) (ma := some ⟨mb, mo, none⟩) (mc := mc) (t := endTru i false i.nm d) (n := 13) (k := 7) (r := 8) (s := 9) (by omega) (by omega) (by omega) hml hml hml (hf false) h1 hml, ric_con hi h1 (Nat.le_refl _) h8 (k := 7) (n := 10) (by omega), sca_con hi h1 (Nat.le_refl _) h8 (k := 7) (n := 8) (by omega), trivial⟩
      (by kernel_rfl) (by kernel_rfl) (by kernel_rfl) (by kernel_rfl) (by kernel_rfl) (by kernel_rfl) (by kernel_rfl) (by kernel_rfl) (by kernel_rfl) (by kernel_rfl) (hokA kn _) rn_same hr7
  have months : ∀ (h : Nat) (kn' : Nat → Kn) (t : Tru), at' h 0 kn' t → ∀ m, m ≤ i.nm → at' h m (pass kn' (fun j => seenOf (runTo i tanks t (j + 1))) m) t := by
    intro h kn' t hs m
    induction m with
    | zero => intro _; rw [pass_zero]; exact hs
    | succ m ih =>
      intro hm
      obtain ⟨d', _, hg⟩ := ih (by omega)
      have hlt : m < i.nm := by omega
      refine hg.headR goFns_ok mixed_ok rn_writable
        (rn_month (worldLo w) i (rawS wa i.nw wc) mb mo mc tanks (rowA (knE (pass kn' (fun j => seenOf (runTo i tanks t (j + 1))) m)) i.nm) k dk (rowA (boolE d) i.nm) (rowA (intE (endTru i false i.nm d).rains) i.nm) (rowA (intE (endTru i false i.nm d).needs) i.nm) (rowA (intE (endTru i true i.nm d).rains) i.nm) (rowA (intE (endTru i true i.nm d).needs) i.nm) i.sl i.kl i.lh i.sh i.kh i.ll (rowA (seenE i tanks t) i.nm)
          (rowA (knE (pass kn' (fun j => seenOf (runTo i tanks t (j + 1))) (m + 1))) i.nm) h m (runTo i tanks t (m + 1)).tanks (runTo i tanks t (m + 1)).lens (runTo i tanks t (m + 1)).lack (kn' m).tl (kn' m).th (kn' m).ll (kn' m).lh (kn' m).kl (kn' m).kh
          (min (kn' m).tl (runTo i tanks t (m + 1)).tanks) (max (kn' m).th (runTo i tanks t (m + 1)).tanks) (min (kn' m).ll (runTo i tanks t (m + 1)).lens) (max (kn' m).lh (runTo i tanks t (m + 1)).lens) (min (kn' m).kl (runTo i tanks t (m + 1)).lack) (max (kn' m).kh (runTo i tanks t (m + 1)).lack) d')
        ⟨wq_in (by omega) (by omega), pass_splice (e := fun j => seenOf (runTo i tanks t (j + 1))) hlt, ⟨rfl, hlt⟩, con_withEnd (w := w) (n := 14) (kn' m) (seenOf (runTo i tanks t (m + 1))), pass_get (e := fun j => seenOf (runTo i tanks t (j + 1))) hlt, ⟨rfl, hlt⟩, seen_get hlt, ⟨rfl, hlt⟩, ltq_t (by omega), trivial⟩
        (by kernel_rfl) (by kernel_rfl) (by kernel_rfl) (by kernel_rfl) (by kernel_rfl) (by kernel_rfl) (by kernel_rfl) (by kernel_rfl) (by kernel_rfl) (by kernel_rfl) (hokA _ _) rn_same hr7
  obtain ⟨d1, _, g1⟩ := months 0 kn _ s0 i.nm (Nat.le_refl _)
  have s1 : at' 1 0 (pass kn (endsOf i tanks false d) i.nm) (endTru i true i.nm d) :=
    g1.headR goFns_ok mixed_ok rn_writable
      (rn_next (worldLo w) i (rawS wa i.nw wc) mb mo mc tanks (rowA (knE (pass kn (endsOf i tanks false d) i.nm)) i.nm) k dk (rowA (boolE d) i.nm) (rowA (intE (endTru i false i.nm d).rains) i.nm) (rowA (intE (endTru i false i.nm d).needs) i.nm) (rowA (intE (endTru i true i.nm d).rains) i.nm) (rowA (intE (endTru i true i.nm d).needs) i.nm) i.sl i.kl i.lh i.sh i.kh i.ll (rowA (seenE i tanks (endTru i false i.nm d)) i.nm) (rowA (seenE i tanks (endTru i true i.nm d)) i.nm) i.nm
        (i.size * tanks + (endTru i true i.nm d).start) (runTo i tanks (endTru i true i.nm d) i.nm).rain (runTo i tanks (endTru i true i.nm d) i.nm).used (runTo i tanks (endTru i true i.nm d) i.nm).leak (runTo i tanks (endTru i true i.nm d) i.nm).sea ((runTo i tanks (endTru i true i.nm d) i.nm).tanks + (runTo i tanks (endTru i true i.nm d) i.nm).lens) d1)
      ⟨con_follow (w := w) (i := i) (tanks := tanks) (wa := wa) (wc := wc) (ma := some ⟨mb, mo, none⟩) (mc := mc) (t := endTru i true i.nm d) (n := 14) (k := 7) (r := 10) (s := 11) (by omega) (by omega) (by omega) hml hml hml (hf true) h1 hml, ltq_f (by omega), trivial⟩
      (by kernel_rfl) (by kernel_rfl) (by kernel_rfl) (by kernel_rfl) (by kernel_rfl) (by kernel_rfl) (by kernel_rfl) (by kernel_rfl) (by kernel_rfl) (by kernel_rfl) (hokA _ _) rn_same hr7
  obtain ⟨d2, _, g2⟩ := months 1 _ _ s1 i.nm (Nat.le_refl _)
  refine g2.stdF goFns_ok mixed_ok rn_writable (os := drO i (rawS wa i.nw wc) mb mo mc tanks (rowA (knE (widest i tanks d kn)) i.nm) k dk ++ [(false, Obj.cells (rowA (boolE d) i.nm) 4 (0, 0))])
    (rn_end (worldLo w) i (rawS wa i.nw wc) mb mo mc tanks (rowA (knE (widest i tanks d kn)) i.nm) k dk (rowA (boolE d) i.nm) (rowA (intE (endTru i false i.nm d).rains) i.nm) (rowA (intE (endTru i false i.nm d).needs) i.nm) (rowA (intE (endTru i true i.nm d).rains) i.nm) (rowA (intE (endTru i true i.nm d).needs) i.nm) i.sl i.kl i.lh i.sh i.kh i.ll (rowA (seenE i tanks (endTru i true i.nm d)) i.nm) i.nm d2)
    ⟨ltq_f (by omega), trivial⟩ (by kernel_rfl) (by kernel_rfl) (by kernel_rfl) (by kernel_rfl) (by kernel_rfl) (by kernel_rfl) (by kernel_rfl) (by kernel_rfl) ?_ ?_
  · exact ⟨.inr ⟨rfl, .inl (loose_isl i wa wc (some ⟨mb, mo, none⟩) mc)⟩, .inl ⟨rfl, by kernel_rfl⟩, .inr ⟨rfl, .inl (loose_knE _ _)⟩, .inl ⟨rfl, by kernel_rfl⟩, .inr ⟨rfl, .inl (loose_isl i wa wc (some ⟨mb, mo, none⟩) mc)⟩, .inr ⟨rfl, .inr trivial⟩, .inr ⟨rfl, .inr (knRec_fix (by omega) hdk)⟩, .inr ⟨rfl, .inl (loose_boolE _ _)⟩, trivial⟩
  · intro j hj hn
    have : j = 0 ∨ j = 1 ∨ j = 2 ∨ j = 3 ∨ j = 4 ∨ j = 5 ∨ j = 6 ∨ j = 7 := by omega
    rcases this with rfl | rfl | rfl | rfl | rfl | rfl | rfl | rfl
    all_goals first
      | (exact absurd (by decide) hn; done)
      | rfl
end
end Go.Proofs.YtffdidleebognaaDoor

namespace Go.Proofs.YtffdidleebognaaDoor
open Go Go.CE Go.Proofs Go.RowKit Lens
theorem fix_loose {a : Nat} {o : Obj} (h : looseO o) : FixO a o := by
  cases o with
  | cells cs t fz => exact fun v hv => .inl (h v hv)
  | _ => exact h.elim
theorem fix_ok {a : Nat} {o : Obj} (h : okO a o = true) : FixO a o := by
  cases o with
  | cells cs t fz =>
    intro v hv
    obtain ⟨i, hi, rfl⟩ := Array.mem_iff_getElem.1 hv
    exact .inr (Array.all_eq_true.1 h i hi)
  | _ => cases h
section
variable {i : Isl} {wa : Option Addr} {wc mb mo mc : Nat} {tanks : Int} {w : World} {d : Nat → Bool} {dk : Nat → Value} {k : Nat}
theorem dr_fix {n : Nat} (h8 : 7 ≤ n) (hdk : ∀ t, Loose (dk t)) {A : Array Value} (hA : ∀ v ∈ A, Loose v) : ∀ b ∈ drO i (rawS wa i.nw wc) mb mo mc tanks A k dk, FixO n b.2 := by
  intro b hb
  have hint : ∀ (x : Int), FixO n (.cells #[.int .i64 x] 3 (0, 0)) := fun x v hv => by
    simp only [List.mem_toArray, List.mem_cons, List.not_mem_nil, or_false] at hv
    rw [hv]; exact .inl (loose_int _ _)
  have h4 : FixO n (.cells #[.slice (some ⟨2, 0, none⟩) i.nm 6] 49 (0, 0)) := fun v hv => by
    simp only [List.mem_toArray, List.mem_cons, List.not_mem_nil, or_false] at hv
    rw [hv]; exact .inr (okV_mono h8 3 _ (by kernel_rfl))
  simp only [drO, knO, List.cons_append, List.nil_append, List.mem_cons, List.not_mem_nil, or_false] at hb
  rcases hb with rfl | rfl | rfl | rfl | rfl | rfl | rfl
  · exact fix_loose (loose_isl i wa wc (some ⟨mb, mo, none⟩) mc)
  · exact hint _
  · exact fix_loose (o := .cells A 63 (0, 0)) hA
  · exact h4
  · exact fix_loose (loose_isl i wa wc (some ⟨mb, mo, none⟩) mc)
  · trivial
  · exact knRec_fix (s := .ready) h8 hdk
theorem rnC_slots (hdk : ∀ t, Loose (dk t)) : SlotsOk 8 (rnC i (rawS wa i.nw wc) mb mo mc k dk).tmps := slots_mkT (by decide) hdk fun p hp => by
  simp only [knR, knL, List.cons_append, List.nil_append, List.mem_cons, List.not_mem_nil, or_false] at hp
  rcases hp with rfl | rfl | rfl | rfl | rfl | rfl | rfl | rfl | rfl | rfl
  · exact .inr (by kernel_rfl)
  · exact .inr (by kernel_rfl)
  · exact .inr (by kernel_rfl)
  · exact .inr (by kernel_rfl)
  · exact .inr (by kernel_rfl)
  · exact .inr (by kernel_rfl)
  · exact .inl (loose_bool _)
  · exact .inl (exact_isl i wa wc (some ⟨mb, mo, none⟩) mc).loose
  · exact .inr (by kernel_rfl)
  · exact .inr (by kernel_rfl)
theorem rn_rj (hi : IslAt w w.heap.size i wa (some ⟨mb, mo, none⟩)) (h1 : 1 ≤ i.nm) (hdk : ∀ t, Loose (dk t)) (hf : ∀ much, Fit i tanks (endTru i much i.nm d)) (kn : Nat → Kn) :
    RJ Tryd.prog (worldLo w) (rnC i (rawS wa i.nw wc) mb mo mc k dk) ((List.range 8).map fun q => (q, hget (heapO 0 (drO i (rawS wa i.nw wc) mb mo mc tanks (rowA (knE kn) i.nm) k dk ++ [(false, Obj.cells (rowA (boolE d) i.nm) 4 (0, 0))])) q)) 8 (.bool true)
      [(2, .cells (rowA (knE (widest i tanks d kn)) i.nm) 63 (0, 0)), (6, .loop (knRec i (rawS wa i.nw wc) mb mo mc k dk))] 8 [2, 6] := by
  have fx : ∀ (kn : Nat → Kn), ∀ b ∈ drO i (rawS wa i.nw wc) mb mo mc tanks (rowA (knE kn) i.nm) k dk ++ [(false, Obj.cells (rowA (boolE d) i.nm) 4 (0, 0))], FixO 8 b.2 := fun kn b hb => by
    rcases List.mem_append.1 hb with h | h
    · exact dr_fix (by omega) hdk (loose_knE _ _) b h
    · simp only [List.mem_cons, List.not_mem_nil, or_false] at h
      rw [h]; exact fix_loose (o := .cells (rowA (boolE d) i.nm) 4 (0, 0)) (loose_boolE _ _)
  exact StdX.rj (os := drO i (rawS wa i.nw wc) mb mo mc tanks (rowA (knE kn) i.nm) k dk ++ [(false, Obj.cells (rowA (boolE d) i.nm) 4 (0, 0))]) (os' := drO i (rawS wa i.nw wc) mb mo mc tanks (rowA (knE (widest i tanks d kn)) i.nm) k dk ++ [(false, Obj.cells (rowA (boolE d) i.nm) 4 (0, 0))])
    (rn_std hi h1 hdk hf kn) (rnC_slots hdk) (by kernel_rfl) rfl rfl (fun l e => by cases e; show 6 < 8; omega) (fx kn) (fx _) (by kernel_rfl) (by kernel_rfl) (by kernel_rfl) (by kernel_rfl) (by kernel_rfl) (by kernel_rfl)
end
end Go.Proofs.YtffdidleebognaaDoor

namespace Go.CE
open Go Go.RowKit
theorem shr_eq {b s : Nat} (hs : s ≤ 60) : Int.fdiv (b : Int) (2 ^ min (Int.toNat (s : Int)) (IntKind.bits IntKind.i64)) = ((b / 2 ^ s : Nat) : Int) := by
  have e : min (Int.toNat (s : Int)) (IntKind.bits IntKind.i64) = s := by
    rw [Int.toNat_natCast]
    exact Nat.min_eq_left (by show s ≤ 64; omega)
  rw [e, Int.fdiv_eq_ediv_of_nonneg _ (Int.le_of_lt (Int.pow_pos (by decide))), Int.natCast_ediv, Int.natCast_pow]
  rfl
theorem and1_eq {x : Nat} (hx : x < 2 ^ 62) : IntKind.wrap IntKind.i64 ((BitVec.toNat (BitVec.ofInt (IntKind.bits IntKind.i64) (x : Int) &&& BitVec.ofInt (IntKind.bits IntKind.i64) 1) : Nat) : Int) = ((x % 2 : Nat) : Int) := by
  have e1 : BitVec.ofInt (IntKind.bits IntKind.i64) (x : Int) = BitVec.ofNat 64 x := BitVec.ofInt_natCast 64 x
  have e2 : BitVec.ofInt (IntKind.bits IntKind.i64) 1 = BitVec.ofNat 64 1 := rfl
  rw [e1, e2]
  have e3 : BitVec.toNat (BitVec.ofNat 64 x &&& BitVec.ofNat 64 1) = x % 2 := by
    rw [BitVec.toNat_and, BitVec.toNat_ofNat, BitVec.toNat_ofNat, Nat.mod_eq_of_lt (a := x) (by omega), Nat.mod_eq_of_lt (a := 1) (by decide), Nat.and_one_is_mod]
  show IntKind.wrap IntKind.i64 ((BitVec.toNat (BitVec.ofNat 64 x &&& BitVec.ofNat 64 1) : Nat) : Int) = _
  rw [e3]
  exact wrap_in (by omega) (by omega)
theorem shl1_eq {s : Nat} (hs : s ≤ 60) : IntKind.wrap IntKind.i64 (1 * 2 ^ min (Int.toNat (s : Int)) (IntKind.bits IntKind.i64)) = ((2 ^ s : Nat) : Int) := by
  have e : min (Int.toNat (s : Int)) (IntKind.bits IntKind.i64) = s := by
    rw [Int.toNat_natCast]
    exact Nat.min_eq_left (by show s ≤ 64; omega)
  have hp : (2 : Nat) ^ s ≤ 2 ^ 60 := Nat.pow_le_pow_right (by decide) hs
  have e2 : (2 : Int) ^ s = ((2 ^ s : Nat) : Int) := by rw [Int.natCast_pow]; rfl
  rw [e, Int.one_mul, e2]
  generalize 2 ^ s = y at *
  exact wrap_in (by omega) (by omega)
theorem bit_eq {b s : Nat} : eqq ((b / 2 ^ s % 2 : Nat) : Int) 1 = b.testBit s := by
  rw [Nat.testBit_eq_decide_div_mod_eq]
  generalize b / 2 ^ s % 2 = y
  by_cases h : y = 1
  · subst h; rfl
  · rw [decide_eq_false h]
    exact eqq_f (by omega)
end Go.CE

namespace Go.Proofs.YtffdidleebognaaDoor
open Go Go.CE Go.Proofs Go.RowKit Lens
/-- Bounds, widened by all droughts whose number is below b. -/
def upTo (i : Isl) (tanks : Int) (kn : Nat → Kn) : Nat → (Nat → Kn)
  | 0 => kn
  | b + 1 => if drB i.most i.row i.nm (bitsDry i.nm b) then widest i tanks (bitsDry i.nm b) (upTo i tanks kn b) else upTo i tanks kn b
def bitsTo (n b m j : Nat) : Bool := if j < m then bitsDry n b j else false
theorem bitsTo_splice {n b m : Nat} (hm : m < n) : 0 + m * 1 + 1 ≤ (rowA (boolE (bitsTo n b m)) n).size ∧ splice (rowA (boolE (bitsTo n b m)) n) (0 + m * 1) #[.bool (bitsDry n b m)] = rowA (boolE (bitsTo n b (m + 1))) n := by
  have := row_splice (e := boolE (bitsTo n b m)) (z := 1) (n := n) (x := [.bool (bitsDry n b m)]) (fun _ => rfl) rfl hm
  rw [Nat.zero_add]
  refine ⟨this.1, this.2.trans (row_congr n fun k hk => ?_)⟩
  by_cases h : k = m
  · subst h
    simp only [if_true, boolE, bitsTo, show k < k + 1 by omega]
  · rw [if_neg h]
    simp only [boolE, bitsTo]
    by_cases h2 : k < m
    · simp only [h2, show k < m + 1 by omega]
    · simp only [h2, show ¬ k < m + 1 by omega]
theorem bitsTo_zero (n b : Nat) : rowA (fun _ => [.bool false]) n = rowA (boolE (bitsTo n b 0)) n := row_congr n fun k _ => by simp [boolE, bitsTo]
theorem bitsTo_all (n b : Nat) : rowA (boolE (bitsTo n b n)) n = rowA (boolE (bitsDry n b)) n := row_congr n fun k hk => by simp [boolE, bitsTo, hk]
section
variable {i : Isl} {wa : Option Addr} {wc mb mo mc : Nat} {tanks : Int} {w : World} {dk : Nat → Value} {k : Nat}
theorem okO_one {n : Nat} (h8 : 7 ≤ n) : okO n (.cells #[.slice (some ⟨2, 0, none⟩) i.nm 6] 49 (0, 0)) = true := by
  have := okV_mono h8 3 (.slice (some ⟨2, 0, none⟩) i.nm 6) (by kernel_rfl)
  simp only [okO, List.all_toArray, List.all_cons, List.all_nil, Bool.and_true]
  exact this
theorem dr_ok {n : Nat} (h8 : 7 ≤ n) (hdk : ∀ t, Loose (dk t)) {A : Array Value} (hA : ∀ v ∈ A, Loose v) {l : List (Bool × Obj)} (hl : OkB 7 n l) : OkB 7 n (drO i (rawS wa i.nw wc) mb mo mc tanks A k dk ++ l) := by
  have hf := dr_fix (i := i) (wa := wa) (wc := wc) (mb := mb) (mo := mo) (mc := mc) (tanks := tanks) (k := k) (n := 7) (Nat.le_refl 7) hdk hA
  exact ⟨.inr ⟨rfl, .inl (loose_isl i wa wc (some ⟨mb, mo, none⟩) mc)⟩, .inl ⟨rfl, by kernel_rfl⟩, .inr ⟨rfl, .inl hA⟩, .inl ⟨rfl, okO_one h8⟩, .inr ⟨rfl, .inl (loose_isl i wa wc (some ⟨mb, mo, none⟩) mc)⟩, .inr ⟨rfl, .inr trivial⟩, .inr ⟨rfl, .inr (knRec_fix (s := .ready) (Nat.le_refl 7) hdk)⟩, hl⟩
theorem dr_same {W : Value} {A A' : Array Value} {l : List (Bool × Obj)} : ∀ j, j < 7 → j ∉ [2, 6] → hget (heapO 0 (drO i W mb mo mc tanks A' k dk ++ l)) j = hget (heapO 0 (drO i W mb mo mc tanks A k dk)) j := fun j hj hn => by
  have : j = 0 ∨ j = 1 ∨ j = 2 ∨ j = 3 ∨ j = 4 ∨ j = 5 ∨ j = 6 := by omega
  rcases this with rfl | rfl | rfl | rfl | rfl | rfl | rfl
  all_goals first
    | (exact absurd (by decide) hn; done)
    | rfl
theorem dr_writable {W : Value} {A : Array Value} : Writable (heapO 0 (drO i W mb mo mc tanks A k dk)) 7 [2, 6] := fun j _ hj => by
  simp only [List.mem_cons, List.not_mem_nil, or_false] at hj
  rcases hj with rfl | rfl
  · exact .inl ⟨_, _, rfl⟩
  · exact .inr (.inl ⟨_, rfl⟩)
set_option maxRecDepth 100000 in
theorem dr_std (hi : IslAt w w.heap.size i wa (some ⟨mb, mo, none⟩)) (h1 : 1 ≤ i.nm) (hdk : ∀ t, Loose (dk t)) (hf : ∀ much d, Fit i tanks (endTru i much i.nm d)) (kn : Nat → Kn) :
    StdF Tryd.prog (worldLo w) (entryC Tryd.prog 55 43 [.func (.yield 6) #[] #[], .pointer (some ⟨4, 0, none⟩)]) (heapO 0 (drO i (rawS wa i.nw wc) mb mo mc tanks (rowA (knE kn) i.nm) k dk)) 7 (.tuple #[])
      (heapO 0 (drO i (rawS wa i.nw wc) mb mo mc tanks (rowA (knE (upTo i tanks kn (2 ^ i.nm))) i.nm) k dk)) 7 [2, 6] := by
  have h8 : i.nm ≤ 8 := (hf true fun _ => false).nm
  have hml : i.nm ≤ maxLen := by unfold maxLen; omega
  have hp : 2 ^ i.nm ≤ 256 := Nat.pow_le_pow_right (by decide) h8
  let c0 := entryC Tryd.prog 55 43 [.func (.yield 6) #[] #[], .pointer (some ⟨4, 0, none⟩)]
  let H0 := heapO 0 (drO i (rawS wa i.nw wc) mb mo mc tanks (rowA (knE kn) i.nm) k dk)
  let at1 : Nat → Prop := fun b => ∃ d' : Nat → Value, (∀ t, Loose (d' t)) ∧ GoE Tryd.prog (worldLo w) c0 H0 7
    (headC 55 43 (drL i.nm ((2 ^ i.nm : Nat) : Int) b) d' (drT.map (it (bodyOf Tryd.prog 55)))) (heapO 0 (drO i (rawS wa i.nw wc) mb mo mc tanks (rowA (knE (upTo i tanks kn b)) i.nm) k dk)) 7 [2, 6]
  let at2 : Nat → Nat → Prop := fun b m => ∃ d' : Nat → Value, (∀ t, Loose (d' t)) ∧ GoE Tryd.prog (worldLo w) c0 H0 7
    (headC 55 43 (drM i.nm ((2 ^ i.nm : Nat) : Int) b m) d' (drU.map (it (bodyOf Tryd.prog 55)))) (heapO 0 (drO i (rawS wa i.nw wc) mb mo mc tanks (rowA (knE (upTo i tanks kn b)) i.nm) k dk ++ [(false, Obj.cells (rowA (boolE (bitsTo i.nm b m)) i.nm) 4 (0, 0))])) 8 [2, 6]
  have ok1 : ∀ kn', OkB 7 7 (drO i (rawS wa i.nw wc) mb mo mc tanks (rowA (knE kn') i.nm) k dk) := fun kn' => dr_ok (l := []) (by omega) hdk (loose_knE _ _) trivial
  have ok2 : ∀ kn' f, OkB 7 8 (drO i (rawS wa i.nw wc) mb mo mc tanks (rowA (knE kn') i.nm) k dk ++ [(false, Obj.cells (rowA (boolE f) i.nm) 4 (0, 0))]) := fun kn' f => dr_ok (by omega) hdk (loose_knE _ _) ⟨.inr ⟨rfl, .inl (loose_boolE _ _)⟩, trivial⟩
  have s0 : at1 0 :=
    ((GoE.refl (P := Tryd.prog) (B := worldLo w) (c0 := c0) (under_heapO (drO i (rawS wa i.nw wc) mb mo mc tanks (rowA (knE kn) i.nm) k dk) (Nat.le_refl 7))).widen (Wf := [2, 6]) (fun _ _ h => by simp at h) dr_writable).headB goFns_ok mixed_ok dr_writable
      (dr_entry (worldLo w) i (rawS wa i.nw wc) mb mo mc tanks (rowA (knE kn) i.nm) k dk ((2 ^ i.nm : Nat) : Int)) ⟨shl1_eq (by omega), trivial⟩
      (by kernel_rfl) (by kernel_rfl) (by kernel_rfl) (by kernel_rfl) (by kernel_rfl) (by kernel_rfl) (by kernel_rfl) (by kernel_rfl) (by kernel_rfl) (by kernel_rfl) (ok1 kn) (dr_same (l := []))
  have next : ∀ b, b < 2 ^ i.nm → at1 b → at1 (b + 1) := by
    intro b hb ⟨d1, _, g1⟩
    have hmk : cMake Tryd.prog 34 (.int .i64 (i.nm : Int)) (.int .i64 (i.nm : Int)) = some (4, rowA (boolE (bitsTo i.nm b 0)) i.nm, i.nm, 1) := by
      rw [← bitsTo_zero]
      exact cMake_row (P := Tryd.prog) (t := 34) (e := 4) (i := Go.Proofs.Tryd.t4) (zv := .bool false) (by kernel_rfl) (by kernel_rfl) (by kernel_rfl) (by kernel_rfl) (by decide) (by kernel_rfl) (by show 1 * i.nm ≤ _; omega) (by omega)
    have s2 : at2 b 0 := g1.headB goFns_ok mixed_ok dr_writable
      (dr_bits (worldLo w) i (rawS wa i.nw wc) mb mo mc tanks (rowA (knE (upTo i tanks kn b)) i.nm) k dk ((2 ^ i.nm : Nat) : Int) b (rowA (boolE (bitsTo i.nm b 0)) i.nm) d1) ⟨hmk, ltq_t (by omega), trivial⟩
      (by kernel_rfl) (by kernel_rfl) (by kernel_rfl) (by kernel_rfl) (by kernel_rfl) (by kernel_rfl) (by kernel_rfl) (by kernel_rfl) (by kernel_rfl) (by kernel_rfl) (ok2 _ _) dr_same
    have all : ∀ m, m ≤ i.nm → at2 b m := by
      intro m
      induction m with
      | zero => intro _; exact s2
      | succ m ih =>
        intro hm
        obtain ⟨d2, _, g2⟩ := ih (by omega)
        have hlt : m < i.nm := by omega
        have hbit : ((b / 2 ^ (i.nm - 1 - m) % 2 : Nat) : Int) = ((b / 2 ^ (i.nm - 1 - m) % 2 : Nat) : Int) := rfl
        have hle : b / 2 ^ (i.nm - 1 - m) ≤ b := Nat.div_le_self _ _
        exact g2.headB goFns_ok mixed_ok dr_writable
          (dr_bit (worldLo w) i (rawS wa i.nw wc) mb mo mc tanks (rowA (knE (upTo i tanks kn b)) i.nm) k dk ((2 ^ i.nm : Nat) : Int) b m (rowA (boolE (bitsTo i.nm b m)) i.nm) (rowA (boolE (bitsTo i.nm b (m + 1))) i.nm) ((b / 2 ^ (i.nm - 1 - m) : Nat) : Int) ((b / 2 ^ (i.nm - 1 - m) % 2 : Nat) : Int) (bitsDry i.nm b m) d2)
          ⟨wq_in (by omega) (by omega), bitsTo_splice hlt, ⟨rfl, hlt⟩, bit_eq, and1_eq (by omega), shr_eq (by omega), (wq_in (by omega) (by omega)).trans (by omega), wq_in (by omega) (by omega), ltq_t (by omega), trivial⟩
          (by kernel_rfl) (by kernel_rfl) (by kernel_rfl) (by kernel_rfl) (by kernel_rfl) (by kernel_rfl) (by kernel_rfl) (by kernel_rfl) (by kernel_rfl) (by kernel_rfl) (ok2 _ _) dr_same
    obtain ⟨d3, _, g3⟩ := all i.nm (Nat.le_refl _)
    rw [bitsTo_all] at g3
    cases hdr : drB i.most i.row i.nm (bitsDry i.nm b) with
    | false =>
      have hu : upTo i tanks kn (b + 1) = upTo i tanks kn b := by simp only [upTo, hdr]; rfl
      show ∃ d' : Nat → Value, _
      rw [hu]
      exact g3.headB goFns_ok mixed_ok dr_writable
        (dr_no (worldLo w) i (rawS wa i.nw wc) mb mo mc tanks (rowA (knE (upTo i tanks kn b)) i.nm) k dk ((2 ^ i.nm : Nat) : Int) b i.nm (rowA (boolE (bitsDry i.nm b)) i.nm) d3)
        ⟨wq_in (by omega) (by omega), hdr ▸ con_isDrought (w := w) (i := i) (wa := wa) (wc := wc) (ma := some ⟨mb, mo, none⟩) (mc := mc) (k := 7) (n := 8) (by omega) hml, ltq_f (by omega), trivial⟩
        (by kernel_rfl) (by kernel_rfl) (by kernel_rfl) (by kernel_rfl) (by kernel_rfl) (by kernel_rfl) (by kernel_rfl) (by kernel_rfl) (by kernel_rfl) (by kernel_rfl) (ok1 _) (dr_same (l := []))
    | true =>
      have hu : upTo i tanks kn (b + 1) = widest i tanks (bitsDry i.nm b) (upTo i tanks kn b) := by simp only [upTo, hdr]; rfl
      show ∃ d' : Nat → Value, _
      rw [hu]
      exact g3.headB goFns_ok mixed_ok dr_writable
        (dr_yield (worldLo w) i (rawS wa i.nw wc) mb mo mc tanks (rowA (knE (upTo i tanks kn b)) i.nm) k dk ((2 ^ i.nm : Nat) : Int) b i.nm (rowA (boolE (bitsDry i.nm b)) i.nm) (rowA (knE (widest i tanks (bitsDry i.nm b) (upTo i tanks kn b))) i.nm) d3)
        ⟨wq_in (by omega) (by omega), rn_rj hi h1 hdk (fun much => hf much _) _, hdr ▸ con_isDrought (w := w) (i := i) (wa := wa) (wc := wc) (ma := some ⟨mb, mo, none⟩) (mc := mc) (k := 7) (n := 8) (by omega) hml, ltq_f (by omega), trivial⟩
        (by kernel_rfl) (by kernel_rfl) (by kernel_rfl) (by kernel_rfl) (by kernel_rfl) (by kernel_rfl) (by kernel_rfl) (by kernel_rfl) (by kernel_rfl) (by kernel_rfl) (ok1 _) (dr_same (l := []))
  have all : ∀ b, b ≤ 2 ^ i.nm → at1 b := by
    intro b
    induction b with
    | zero => intro _; exact s0
    | succ b ih => intro hb; exact next b (by omega) (ih (by omega))
  obtain ⟨d4, _, g4⟩ := all _ (Nat.le_refl _)
  exact g4.stdF goFns_ok mixed_ok dr_writable (os := drO i (rawS wa i.nw wc) mb mo mc tanks (rowA (knE (upTo i tanks kn (2 ^ i.nm))) i.nm) k dk)
    (dr_end (worldLo w) i (rawS wa i.nw wc) mb mo mc tanks (rowA (knE (upTo i tanks kn (2 ^ i.nm))) i.nm) k dk ((2 ^ i.nm : Nat) : Int) (2 ^ i.nm) d4)
    ⟨ltq_f (by omega), trivial⟩ (by kernel_rfl) (by kernel_rfl) (by kernel_rfl) (by kernel_rfl) (by kernel_rfl) (by kernel_rfl) (by kernel_rfl) (by kernel_rfl) (ok1 _) (dr_same (l := []))
end
end Go.Proofs.YtffdidleebognaaDoor

namespace Go.Proofs.YtffdidleebognaaDoor
open Go Go.CE Go.Proofs Go.RowKit Lens
theorem slots_args {a len : Nat} {l : List Value} (hl : l.length ≤ 16000) (h : ∀ v ∈ l, Loose v ∨ okV a 3 v = true) : SlotsOk a (ofList len l) := fun t => by
  have hg := ofL_get l 0 .lf t (by omega)
  have e : tget (ofList len l) t = (ofL l 0 .lf).get t := rfl
  rw [e, hg]
  simp only [Nat.zero_le, true_and, Nat.zero_add, Nat.sub_zero, Tri.get_lf]
  split
  · rename_i ht
    have : l.getD t undef ∈ l := by
      rw [List.getD_eq_getElem?_getD, List.getElem?_eq_getElem ht]
      exact List.getElem_mem ht
    exact h _ this
  · exact .inl fun _ _ _ hv => by
      have := af_eq (v := undef) (by simp [Go.undef, af]) hv
      rw [this]; exact VR.undef
section
variable {i : Isl} {wa : Option Addr} {wc mb mo mc : Nat} {ma : Option Addr} {tanks : Int} {w : World} {dk : Nat → Value} {k : Nat}
theorem dr_rj (hi : IslAt w w.heap.size i wa (some ⟨mb, mo, none⟩)) (h1 : 1 ≤ i.nm) (hdk : ∀ t, Loose (dk t)) (hf : ∀ much d, Fit i tanks (endTru i much i.nm d)) (kn : Nat → Kn) :
    RJ Tryd.prog (worldLo w) (entryC Tryd.prog 55 43 [.func (.yield 6) #[] #[], .pointer (some ⟨4, 0, none⟩)]) ((List.range 7).map fun q => (q, hget (heapO 0 (drO i (rawS wa i.nw wc) mb mo mc tanks (rowA (knE kn) i.nm) k dk)) q)) 7 (.tuple #[])
      [(2, .cells (rowA (knE (upTo i tanks kn (2 ^ i.nm))) i.nm) 63 (0, 0)), (6, .loop (knRec i (rawS wa i.nw wc) mb mo mc k dk))] 7 [2, 6] :=
  StdX.rj (os := drO i (rawS wa i.nw wc) mb mo mc tanks (rowA (knE kn) i.nm) k dk) (os' := drO i (rawS wa i.nw wc) mb mo mc tanks (rowA (knE (upTo i tanks kn (2 ^ i.nm))) i.nm) k dk)
    (dr_std hi h1 hdk hf kn) (slots_args (by decide) fun v hv => by
      simp only [List.mem_cons, List.not_mem_nil, or_false] at hv
      rcases hv with rfl | rfl
      · exact .inr (by kernel_rfl)
      · exact .inr (by kernel_rfl)) (by kernel_rfl) rfl rfl (fun l e => by cases e) (dr_fix (Nat.le_refl 7) hdk (loose_knE _ _)) (dr_fix (Nat.le_refl 7) hdk (loose_knE _ _)) (by kernel_rfl) (by kernel_rfl) (by kernel_rfl) (by kernel_rfl) (by kernel_rfl) (by kernel_rfl)
theorem con_droughts {n : Nat} : CJ Tryd.prog (worldLo w) 36 #[islR i wa wc (some ⟨mb, mo, none⟩) mc] [] n (.func (.func 55) #[] #[.pointer (some ⟨n, 0, none⟩)]) [(n, .cells (islC i (rawS wa i.nw wc) (rawS (some ⟨mb, mo, none⟩) i.nm mc)) 27 (0, 0))] (n + 1) [] := by
  have hl : looseO (.cells (islC i (rawS wa i.nw wc) (rawS (some ⟨mb, mo, none⟩) i.nm mc)) 27 (0, 0)) := loose_isl i wa wc (some ⟨mb, mo, none⟩) mc
  have h : StdJ Tryd.prog (worldLo w) 36 #[islR i wa wc (some ⟨mb, mo, none⟩) mc] (heapO 0 []) 0 (.func (.func 55) #[] #[.pointer (some ⟨0, 0, none⟩)])
      (heapO 0 [(false, .cells (islC i (rawS wa i.nw wc) (rawS (some ⟨mb, mo, none⟩) i.nm mc)) 27 (0, 0))]) 1 [] :=
    (GoE.refl (P := Tryd.prog) (B := worldLo w) (c0 := entryC Tryd.prog 36 4 [islR i wa wc (some ⟨mb, mo, none⟩) mc]) (under_heapO [] (Nat.le_refl 0))).std goFns_ok mixed_ok (by kernel_rfl) (writable_nil _ _)
      (os := [(false, .cells (islC i (rawS wa i.nw wc) (rawS (some ⟨mb, mo, none⟩) i.nm mc)) 27 (0, 0))]) (dro_run (worldLo w) i (rawS wa i.nw wc) (rawS (some ⟨mb, mo, none⟩) i.nm mc)) trivial
      (by kernel_rfl) (by kernel_rfl) (by kernel_rfl) (by kernel_rfl) (by kernel_rfl) (by kernel_rfl) (by kernel_rfl) (by kernel_rfl) ⟨.inr ⟨rfl, .inl hl⟩, trivial⟩ (fun j hj _ => by omega)
  have hloose : ∀ b ∈ ([] : List (Bool × Obj)) ++ [(false, Obj.cells (islC i (rawS wa i.nw wc) (rawS (some ⟨mb, mo, none⟩) i.nm mc)) 27 (0, 0))], looseO b.2 := by
    intro b hb
    simp only [List.nil_append, List.mem_cons, List.not_mem_nil, or_false] at hb
    rw [hb]; exact hl
  rcases wa with _ | ⟨b, o, _ | z⟩
  all_goals exact (StdJ.rows (kept := []) (l := []) (n := n) h rfl (fun k hk => by simp at hk) rfl hloose (by kernel_rfl) (by kernel_rfl)).cast (by kernel_rfl) (by kernel_rfl) (by kernel_rfl) (by kernel_rfl) (by kernel_rfl)
end
end Go.Proofs.YtffdidleebognaaDoor

namespace Go.Proofs.YtffdidleebognaaDoor
open Go Go.CE Go.Proofs Go.RowKit Lens
/-- The first month below m at whose end something is wrong, where water is scarcest in a drought. -/
def badTo (i : Isl) (tanks : Int) (d : Nat → Bool) : Nat → Option Nat
  | 0 => none
  | m + 1 => match badTo i tanks d m with
    | some k => some k
    | none => if wrongRule i (endsOf i tanks false d m) = 1 then none else some m
theorem badTo_none {i : Isl} {tanks : Int} {d : Nat → Bool} : ∀ {m : Nat}, badTo i tanks d m = none → ∀ k, k < m → wrongRule i (endsOf i tanks false d k) = 1 ∧ badTo i tanks d k = none
  | 0, _, k, hk => by omega
  | m + 1, h, k, hk => by
    simp only [badTo] at h
    split at h
    · cases h
    · rename_i hm
      split at h
      · rename_i hr
        rcases Nat.lt_or_ge k m with hlt | hge
        · exact badTo_none hm k hlt
        · have : k = m := by omega
          subst this
          exact ⟨hr, hm⟩
      · cases h
theorem badTo_some {i : Isl} {tanks : Int} {d : Nat → Bool} : ∀ {n m : Nat}, badTo i tanks d n = some m → m < n ∧ wrongRule i (endsOf i tanks false d m) ≠ 1 ∧ badTo i tanks d m = none
  | 0, _, h => by cases h
  | n + 1, m, h => by
    simp only [badTo] at h
    split at h
    · rename_i k hk
      cases h
      have := badTo_some hk
      exact ⟨by omega, this.2⟩
    · rename_i hn
      split at h
      · cases h
      · rename_i hr
        cases h
        exact ⟨by omega, hr, hn⟩
theorem wrongRule_one {i : Isl} {s : Seen} (h : wrongRule i s = 1) : wrongWell i s = 0 := by
  unfold wrongRule at h
  unfold wrongWell
  split at h
  · omega
  · rename_i hl
    rw [if_neg hl]
    generalize firstLow i s i.nw = x at *
    cases x with
    | none => rfl
    | some k => simp at h
theorem undef_loose : Loose undef := fun _ _ _ hv => by
  have := af_eq (v := undef) (by simp [Go.undef, af]) hv
  rw [this]; exact VR.undef
section
variable {i : Isl} {wa : Option Addr} {wc mb mo mc : Nat} {tanks : Int} {w : World} {d : Nat → Bool}
theorem con_wrong {n : Nat} {ma : Option Addr} (hi : IslAt w w.heap.size i wa ma) (s : Seen) : CJ Tryd.prog (worldLo w) 38 #[islR i wa wc ma mc, .agg #[.int .i64 s.tanks, .int .i64 s.lens, .int .i64 s.lack]] [] n (.tuple #[.int .i64 (wrongRule i s), .int .i64 (wrongWell i s)]) [] n [] :=
  con_of (l := [islR i wa wc ma mc, .agg #[.int .i64 s.tanks, .int .i64 s.lens, .int .i64 s.lack]]) (l' := [islV i wa wc ma mc, .agg #[.int .i64 s.tanks, .int .i64 s.lens, .int .i64 s.lack]]) (v' := .tuple #[.int .i64 (wrongRule i s), .int .i64 (wrongWell i s)])
    (.cons (exact_isl _ _ _ _ _) (.cons (exact_agg (.cons (exact_af rfl) (.cons (exact_af rfl) (.cons (exact_af rfl) .nil)))) .nil)) (exact_tuple (.cons (exact_af rfl) (.cons (exact_af rfl) .nil))) fun w' hw => wrong_any i wa wc ma mc s w' (islAt_lo hi hw)
theorem ffR_slot {a : Nat} (ha : 6 ≤ a) : ∀ p ∈ ffR i (rawS wa i.nw wc) mb mo mc tanks, Loose p.2 ∨ okV a 3 p.2 = true := fun p hp => by
  have h3 : ∀ k, k < 6 → okV a 3 (.pointer (some ⟨k, 0, none⟩)) = true := fun k hk => Nat.ble_eq_true_of_le (show k + 1 ≤ a by omega)
  simp only [ffR, List.mem_cons, List.not_mem_nil, or_false] at hp
  rcases hp with rfl | rfl | rfl | rfl | rfl | rfl | rfl | rfl | rfl
  · exact .inl (exact_isl i wa wc (some ⟨mb, mo, none⟩) mc).loose
  · exact .inl (loose_int _ _)
  · exact .inr (h3 0 (by omega))
  · exact .inr (h3 1 (by omega))
  · exact .inr (h3 2 (by omega))
  · exact .inr (h3 3 (by omega))
  · exact .inl (loose_agg fun v hv => by
      simp only [ffN, List.mem_toArray, List.mem_cons, List.not_mem_nil, or_false] at hv
      rcases hv with rfl | rfl | rfl | rfl
      · exact loose_af rfl
      · exact loose_int _ _
      · exact loose_int _ _
      · exact loose_int _ _)
  · exact .inl (exact_isl i wa wc (some ⟨mb, mo, none⟩) mc).loose
  · refine .inr ?_
    have := h3 4 (by omega)
    exact okV_mono (a := 6) ha 3 _ (by kernel_rfl)
theorem ffS_fix {n : Nat} (h7 : 6 ≤ n) {s : LoopState} {p : Option Code} : FixO n (.loop (ffS i (rawS wa i.nw wc) mb mo mc tanks s p)) := fun v hv => by
  exact slots_arr (slots_mkT (by decide) (fun _ => undef_loose) (ffR_slot h7)) v hv
theorem okO_ffN {n : Nat} : okO n (.cells ffN 37 (0, 0)) = true := by kernel_rfl
theorem okO_ffF {n nm : Nat} (h : 8 ≤ n) {m r v : Int} : okO n (.cells (ffF 7 nm m r v) 37 (0, 0)) = true := by
  have := okV_mono h 3 (.slice (some ⟨7, 0, none⟩) nm 1) (by kernel_rfl)
  simp only [okO, ffF, List.all_toArray, List.all_cons, List.all_nil, Bool.and_true, Bool.and_eq_true]
  exact ⟨this, rfl, rfl, rfl⟩
theorem fd_ok {a n : Nat} (h7 : 6 ≤ a) {F : Array Value} (hF : okO n (.cells F 37 (0, 0)) = true) {s : LoopState} {p : Option Code} {l : List (Bool × Obj)} (hl : OkB a n l) : OkB a n (fdO i (rawS wa i.nw wc) mb mo mc tanks F s p ++ l) :=
  ⟨.inr ⟨rfl, .inl (loose_isl i wa wc (some ⟨mb, mo, none⟩) mc)⟩, .inl ⟨rfl, by kernel_rfl⟩, .inl ⟨rfl, by kernel_rfl⟩, .inl ⟨rfl, hF⟩, .inr ⟨rfl, .inl (loose_isl i wa wc (some ⟨mb, mo, none⟩) mc)⟩, .inr ⟨rfl, .inr trivial⟩, .inr ⟨rfl, .inr (ffS_fix h7)⟩, hl⟩
theorem fr_same {W : Value} {F : Array Value} {s : LoopState} {p : Option Code} {D : Array Value} {l : List (Bool × Obj)} : ∀ j, j < 8 → j ∉ [3, 6] → hget (heapO 0 (fdO i W mb mo mc tanks F s p ++ ((false, Obj.cells D 4 (0, 0)) :: l))) j = hget (heapO 0 (fdO i W mb mo mc tanks ffN .ready none ++ [(false, Obj.cells D 4 (0, 0))])) j := fun j hj hn => by
  have : j = 0 ∨ j = 1 ∨ j = 2 ∨ j = 3 ∨ j = 4 ∨ j = 5 ∨ j = 6 ∨ j = 7 := by omega
  rcases this with rfl | rfl | rfl | rfl | rfl | rfl | rfl | rfl
  all_goals first
    | (exact absurd (by decide) hn; done)
    | rfl
theorem fr_same6 {W : Value} {s : LoopState} {p : Option Code} {D : Array Value} {l : List (Bool × Obj)} : ∀ j, j < 8 → j ∉ [6] → hget (heapO 0 (fdO i W mb mo mc tanks ffN s p ++ ((false, Obj.cells D 4 (0, 0)) :: l))) j = hget (heapO 0 (fdO i W mb mo mc tanks ffN .ready none ++ [(false, Obj.cells D 4 (0, 0))])) j := fun j hj hn => by
  have : j = 0 ∨ j = 1 ∨ j = 2 ∨ j = 3 ∨ j = 4 ∨ j = 5 ∨ j = 6 ∨ j = 7 := by omega
  rcases this with rfl | rfl | rfl | rfl | rfl | rfl | rfl | rfl
  all_goals first
    | (exact absurd (by decide) hn; done)
    | rfl
theorem fr_writable {W : Value} {D : Array Value} {l : List Nat} (hl : ∀ j ∈ l, j = 3 ∨ j = 6) : Writable (heapO 0 (fdO i W mb mo mc tanks ffN .ready none ++ [(false, Obj.cells D 4 (0, 0))])) 8 l := fun j _ hj => by
  rcases hl j hj with rfl | rfl
  · exact .inl ⟨_, _, rfl⟩
  · exact .inr (.inl ⟨_, rfl⟩)
set_option maxRecDepth 100000 in
theorem fr_at (hi : IslAt w w.heap.size i wa (some ⟨mb, mo, none⟩)) (h1 : 1 ≤ i.nm) (hf : Fit i tanks (endTru i false i.nm d)) {W : List Nat} (hW : ∀ j ∈ W, j = 3 ∨ j = 6) (h6 : [6].all (fun j => W.contains j) = true)
    (hsm : ∀ j, j < 8 → j ∉ W → hget (heapO 0 (frO i (rawS wa i.nw wc) mb mo mc tanks (rowA (boolE d) i.nm) (rowA (seenE i tanks (endTru i false i.nm d)) i.nm))) j = hget (heapO 0 (fdO i (rawS wa i.nw wc) mb mo mc tanks ffN .ready none ++ [(false, Obj.cells (rowA (boolE d) i.nm) 4 (0, 0))])) j) :
    ∀ m, m ≤ i.nm → badTo i tanks d m = none → ∃ d' : Nat → Value, (∀ t, Loose (d' t)) ∧ GoE Tryd.prog (worldLo w) (frC i (rawS wa i.nw wc) mb mo mc tanks) (heapO 0 (fdO i (rawS wa i.nw wc) mb mo mc tanks ffN .ready none ++ [(false, Obj.cells (rowA (boolE d) i.nm) 4 (0, 0))])) 8
      (headR (some 6) 22 48 (frL i.nm m) d' (frT.map (it (bodyOf Tryd.prog 22)))) (heapO 0 (frO i (rawS wa i.nw wc) mb mo mc tanks (rowA (boolE d) i.nm) (rowA (seenE i tanks (endTru i false i.nm d)) i.nm))) 9 W := by
  have h8 : i.nm ≤ 8 := hf.nm
  have hml : i.nm ≤ maxLen := by unfold maxLen; omega
  have hr6 : ∀ l, some 6 = some l → l < 8 := fun l e => by cases e; omega
  have ok : OkB 8 9 (frO i (rawS wa i.nw wc) mb mo mc tanks (rowA (boolE d) i.nm) (rowA (seenE i tanks (endTru i false i.nm d)) i.nm)) :=
    fd_ok (by omega) okO_ffN ⟨.inr ⟨rfl, .inl (loose_boolE _ _)⟩, .inr ⟨rfl, .inl (loose_seenE _ _ _ _)⟩, trivial⟩
  intro m
  induction m with
  | zero =>
    intro _ _
    exact ((GoE.refl (P := Tryd.prog) (B := worldLo w) (c0 := frC i (rawS wa i.nw wc) mb mo mc tanks) (under_heapO (fdO i (rawS wa i.nw wc) mb mo mc tanks ffN .ready none ++ [(false, Obj.cells (rowA (boolE d) i.nm) 4 (0, 0))]) (Nat.le_refl 8))).widen (Wf := W) (fun _ _ h => by simp at h) (fr_writable hW)).headR goFns_ok mixed_ok (fr_writable hW)
      (fr_start (worldLo w) i (rawS wa i.nw wc) mb mo mc tanks (rowA (boolE d) i.nm) (rowA (intE (endTru i false i.nm d).rains) i.nm) (rowA (intE (endTru i false i.nm d).needs) i.nm) i.sl i.kl i.lh (rowA (seenE i tanks (endTru i false i.nm d)) i.nm)
        (i.size * tanks + (endTru i false i.nm d).start) (runTo i tanks (endTru i false i.nm d) i.nm).rain (runTo i tanks (endTru i false i.nm d) i.nm).used (runTo i tanks (endTru i false i.nm d) i.nm).leak (runTo i tanks (endTru i false i.nm d) i.nm).sea ((runTo i tanks (endTru i false i.nm d) i.nm).tanks + (runTo i tanks (endTru i false i.nm d) i.nm).lens))
      ⟨con_follow (w := w) (i := i) (tanks := tanks) (wa := wa) (wc := wc) (ma := some ⟨mb, mo, none⟩) (mc := mc) (t := endTru i false i.nm d) (n := 10) (k := 7) (r := 8) (s := 9) (by omega) (by omega) (by omega) hml hml hml hf h1 hml, sca_con hi h1 (Nat.le_refl _) h8 (k := 7) (n := 8) (by omega), trivial⟩
      h6 (by kernel_rfl) (by kernel_rfl) (by kernel_rfl) (by kernel_rfl) (by kernel_rfl) (by kernel_rfl) (by kernel_rfl) (by kernel_rfl) (by kernel_rfl) ok hsm hr6
  | succ m ih =>
    intro hm hb
    have hbm := badTo_none hb m (by omega)
    obtain ⟨d', _, hg⟩ := ih (by omega) hbm.2
    have hlt : m < i.nm := by omega
    have hw := con_wrong (w := w) (i := i) (wa := wa) (wc := wc) (ma := some ⟨mb, mo, none⟩) (mc := mc) (n := 10) hi (endsOf i tanks false d m)
    rw [hbm.1, wrongRule_one hbm.1] at hw
    exact hg.headR goFns_ok mixed_ok (fr_writable hW)
      (fr_month (worldLo w) i (rawS wa i.nw wc) mb mo mc tanks (rowA (boolE d) i.nm) (rowA (seenE i tanks (endTru i false i.nm d)) i.nm) m (runTo i tanks (endTru i false i.nm d) (m + 1)).tanks (runTo i tanks (endTru i false i.nm d) (m + 1)).lens (runTo i tanks (endTru i false i.nm d) (m + 1)).lack d')
      ⟨wq_in (by omega) (by omega), hw, seen_get hlt, ⟨rfl, hlt⟩, ltq_t (by omega), trivial⟩
      (by kernel_rfl) (by kernel_rfl) (by kernel_rfl) (by kernel_rfl) (by kernel_rfl) (by kernel_rfl) (by kernel_rfl) (by kernel_rfl) (by kernel_rfl) (by kernel_rfl) ok hsm hr6
set_option maxRecDepth 100000 in
theorem fr_fine (hi : IslAt w w.heap.size i wa (some ⟨mb, mo, none⟩)) (h1 : 1 ≤ i.nm) (hf : Fit i tanks (endTru i false i.nm d)) (hb : badTo i tanks d i.nm = none) :
    StdF Tryd.prog (worldLo w) (frC i (rawS wa i.nw wc) mb mo mc tanks) (heapO 0 (fdO i (rawS wa i.nw wc) mb mo mc tanks ffN .ready none ++ [(false, Obj.cells (rowA (boolE d) i.nm) 4 (0, 0))])) 8 (.bool true)
      (heapO 0 (fdO i (rawS wa i.nw wc) mb mo mc tanks ffN .ready none ++ [(false, Obj.cells (rowA (boolE d) i.nm) 4 (0, 0))])) 8 [6] := by
  obtain ⟨d1, _, g⟩ := fr_at (wc := wc) (mc := mc) hi h1 hf (W := [6]) (fun j hj => by simp at hj; exact .inr hj) rfl fr_same6 i.nm (Nat.le_refl _) hb
  exact g.stdF goFns_ok mixed_ok (fr_writable fun j hj => by simp at hj; exact .inr hj) (os := fdO i (rawS wa i.nw wc) mb mo mc tanks ffN .ready none ++ [(false, Obj.cells (rowA (boolE d) i.nm) 4 (0, 0))])
    (fr_end (worldLo w) i (rawS wa i.nw wc) mb mo mc tanks (rowA (boolE d) i.nm) (rowA (seenE i tanks (endTru i false i.nm d)) i.nm) i.nm d1)
    ⟨ltq_f (by omega), trivial⟩ (by kernel_rfl) (by kernel_rfl) (by kernel_rfl) (by kernel_rfl) (by kernel_rfl) (by kernel_rfl) (by kernel_rfl) (by kernel_rfl) (fd_ok (by omega) okO_ffN ⟨.inr ⟨rfl, .inl (loose_boolE _ _)⟩, trivial⟩) (fun _ _ _ => rfl)
set_option maxRecDepth 100000 in
theorem fr_broken (hi : IslAt w w.heap.size i wa (some ⟨mb, mo, none⟩)) (h1 : 1 ≤ i.nm) (hf : Fit i tanks (endTru i false i.nm d)) {m : Nat} (hb : badTo i tanks d i.nm = some m) :
    StdF Tryd.prog (worldLo w) (frC i (rawS wa i.nw wc) mb mo mc tanks) (heapO 0 (fdO i (rawS wa i.nw wc) mb mo mc tanks ffN .ready none ++ [(false, Obj.cells (rowA (boolE d) i.nm) 4 (0, 0))])) 8 (.bool false)
      (heapO 0 (fdO i (rawS wa i.nw wc) mb mo mc tanks (ffF 7 i.nm m (wrongRule i (endsOf i tanks false d m)) (wrongWell i (endsOf i tanks false d m))) .done (some (.exit 0)) ++ [(false, Obj.cells (rowA (boolE d) i.nm) 4 (0, 0))])) 8 [3, 6] := by
  obtain ⟨hlt, hr, hn⟩ := badTo_some hb
  have hW : ∀ j ∈ [3, 6], j = 3 ∨ j = 6 := fun j hj => by simpa using hj
  obtain ⟨d1, _, g⟩ := fr_at (wc := wc) (mc := mc) hi h1 hf (W := [3, 6]) hW rfl fr_same m (by omega) hn
  exact g.stdF goFns_ok mixed_ok (fr_writable hW) (os := fdO i (rawS wa i.nw wc) mb mo mc tanks (ffF 7 i.nm m (wrongRule i (endsOf i tanks false d m)) (wrongWell i (endsOf i tanks false d m))) .done (some (.exit 0)) ++ [(false, Obj.cells (rowA (boolE d) i.nm) 4 (0, 0))])
    (fr_bad (worldLo w) i (rawS wa i.nw wc) mb mo mc tanks (rowA (boolE d) i.nm) (rowA (seenE i tanks (endTru i false i.nm d)) i.nm) m (runTo i tanks (endTru i false i.nm d) (m + 1)).tanks (runTo i tanks (endTru i false i.nm d) (m + 1)).lens (runTo i tanks (endTru i false i.nm d) (m + 1)).lack (wrongRule i (endsOf i tanks false d m)) (wrongWell i (endsOf i tanks false d m)) d1)
    ⟨by rw [eqq_f hr]; rfl, con_wrong hi (endsOf i tanks false d m), seen_get hlt, ⟨rfl, hlt⟩, ltq_t (by omega), trivial⟩ (by kernel_rfl) (by kernel_rfl) (by kernel_rfl) (by kernel_rfl) (by kernel_rfl) (by kernel_rfl) (by kernel_rfl) (by kernel_rfl) (fd_ok (by omega) (okO_ffF (by show 8 ≤ 8; omega)) ⟨.inr ⟨rfl, .inl (loose_boolE _ _)⟩, trivial⟩) fr_same
theorem frC_slots : SlotsOk 8 (frC i (rawS wa i.nw wc) mb mo mc tanks).tmps := slots_mkT (by decide) (fun _ => undef_loose) fun p hp => by
  rcases List.mem_append.1 hp with h | h
  · exact ffR_slot (by omega) p h
  · simp only [List.mem_cons, List.not_mem_nil, or_false] at h
    rw [h]; exact .inr (by kernel_rfl)
theorem fd_fix {n : Nat} (h7 : 6 ≤ n) {F : Array Value} (hF : okO n (.cells F 37 (0, 0)) = true) {s : LoopState} {p : Option Code} {l : List (Bool × Obj)} (hl : ∀ b ∈ l, FixO n b.2) : ∀ b ∈ fdO i (rawS wa i.nw wc) mb mo mc tanks F s p ++ l, FixO n b.2 := by
  intro b hb
  rcases List.mem_append.1 hb with hb | hb
  · simp only [fdO, ffO, List.cons_append, List.nil_append, List.mem_cons, List.not_mem_nil, or_false] at hb
    rcases hb with rfl | rfl | rfl | rfl | rfl | rfl | rfl
    · exact fix_loose (loose_isl i wa wc (some ⟨mb, mo, none⟩) mc)
    · exact fix_ok (by kernel_rfl)
    · exact fix_ok (by kernel_rfl)
    · exact fix_ok hF
    · exact fix_loose (loose_isl i wa wc (some ⟨mb, mo, none⟩) mc)
    · trivial
    · exact ffS_fix h7
  · exact hl b hb
theorem fd_fixD {n : Nat} : ∀ b ∈ [(false, Obj.cells (rowA (boolE d) i.nm) 4 (0, 0))], FixO n b.2 := fun b hb => by
  simp only [List.mem_cons, List.not_mem_nil, or_false] at hb
  rw [hb]; exact fix_loose (o := .cells (rowA (boolE d) i.nm) 4 (0, 0)) (loose_boolE _ _)
theorem fr_rj (hi : IslAt w w.heap.size i wa (some ⟨mb, mo, none⟩)) (h1 : 1 ≤ i.nm) (hf : Fit i tanks (endTru i false i.nm d)) (hb : badTo i tanks d i.nm = none) :
    RJ Tryd.prog (worldLo w) (frC i (rawS wa i.nw wc) mb mo mc tanks) ((List.range 8).map fun q => (q, hget (heapO 0 (fdO i (rawS wa i.nw wc) mb mo mc tanks ffN .ready none ++ [(false, Obj.cells (rowA (boolE d) i.nm) 4 (0, 0))])) q)) 8 (.bool true)
      [(6, .loop (ffS i (rawS wa i.nw wc) mb mo mc tanks .ready none))] 8 [6] :=
  StdX.rj (os := fdO i (rawS wa i.nw wc) mb mo mc tanks ffN .ready none ++ [(false, Obj.cells (rowA (boolE d) i.nm) 4 (0, 0))]) (os' := fdO i (rawS wa i.nw wc) mb mo mc tanks ffN .ready none ++ [(false, Obj.cells (rowA (boolE d) i.nm) 4 (0, 0))])
    (fr_fine hi h1 hf hb) frC_slots (by kernel_rfl) rfl rfl (fun l e => by cases e; show 6 < 8; omega) (fd_fix (by show 6 ≤ 8; omega) okO_ffN fd_fixD) (fd_fix (by show 6 ≤ 8; omega) okO_ffN fd_fixD) (by kernel_rfl) (by kernel_rfl) (by kernel_rfl) (by kernel_rfl) (by kernel_rfl) (by kernel_rfl)
theorem fr_rjB (hi : IslAt w w.heap.size i wa (some ⟨mb, mo, none⟩)) (h1 : 1 ≤ i.nm) (hf : Fit i tanks (endTru i false i.nm d)) {m : Nat} (hb : badTo i tanks d i.nm = some m) :
    RJ Tryd.prog (worldLo w) (frC i (rawS wa i.nw wc) mb mo mc tanks) ((List.range 8).map fun q => (q, hget (heapO 0 (fdO i (rawS wa i.nw wc) mb mo mc tanks ffN .ready none ++ [(false, Obj.cells (rowA (boolE d) i.nm) 4 (0, 0))])) q)) 8 (.bool false)
      [(3, .cells (ffF 7 i.nm m (wrongRule i (endsOf i tanks false d m)) (wrongWell i (endsOf i tanks false d m))) 37 (0, 0)), (6, .loop (ffS i (rawS wa i.nw wc) mb mo mc tanks .done (some (.exit 0))))] 8 [3, 6] :=
  StdX.rj (os := fdO i (rawS wa i.nw wc) mb mo mc tanks ffN .ready none ++ [(false, Obj.cells (rowA (boolE d) i.nm) 4 (0, 0))]) (os' := fdO i (rawS wa i.nw wc) mb mo mc tanks (ffF 7 i.nm m (wrongRule i (endsOf i tanks false d m)) (wrongWell i (endsOf i tanks false d m))) .done (some (.exit 0)) ++ [(false, Obj.cells (rowA (boolE d) i.nm) 4 (0, 0))])
    (fr_broken hi h1 hf hb) frC_slots (by kernel_rfl) rfl rfl (fun l e => by cases e; show 6 < 8; omega) (fd_fix (by show 6 ≤ 8; omega) okO_ffN fd_fixD) (fd_fix (by show 6 ≤ 8; omega) (okO_ffF (by show 8 ≤ 8; omega)) fd_fixD) (by kernel_rfl) (by kernel_rfl) (by kernel_rfl) (by kernel_rfl) (by kernel_rfl) (by kernel_rfl)
end
end Go.Proofs.YtffdidleebognaaDoor
