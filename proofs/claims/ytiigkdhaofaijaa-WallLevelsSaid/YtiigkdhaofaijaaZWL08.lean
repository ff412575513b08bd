/- SE 3: operations of which something is told that the kernel can't reckon, as numbers are not known. -/
import Derived.Test.YtiigkdhaofaijaaZWL07
import Derived.Laws.StructEq
import Derived.IntWalk
set_option linter.all false
namespace Go.CE
open Go Go.RowKit

inductive Hint where
  | val (v : Value)
  | idx (k : Nat)
  | ld (v : Value)
  | raw (v : Value)
  | len (n : Nat)
  | eq (b : Bool)
  | app (cs : Array Value)
  | mk (m : Nat) (cs : Array Value)
  | st (cs : Array Value)
  | call (keys : List Nat) (out : Value) (ups : Heap) (n' : Nat) (W : List Nat)
  | look (v : Value)
  | upd (es : Array MapEntry) (clk : Nat)
  | nil
def veq : Value → Value → Prop
  | .int k a, .int k' b => bif decide (k = k') then a = b else False
  | .bool a, .bool b => a = b
  | u, v => u = v
theorem veq_eq {u v : Value} (h : veq u v) : u = v := by
  unfold veq at h
  split at h
  · rename_i k a k' b
    by_cases e : k = k'
    · simp only [e, decide_true, cond_true] at h
      rw [e, h]
    · simp [e] at h
  · rw [h]
  · exact h
def plainSpot : Option Nat → Bool
  | none => true
  | some 0 => true
  | _ => false
def SliceLen (v : Value) (m : Nat) : Prop := ∀ μ v', VR μ v v' → ∃ a c, v' = .slice a m c
theorem cPart_run' {P : Program} {t : TypeId} {cs : Array Value} {off : Nat} {v : Value} (h : cPart P t cs off = some v) (w : World) : (part t cs off).run P w = .ok v w := by
  unfold cPart at h
  cases ha : aggT P t with
  | none => rw [ha] at h; cases h
  | some b =>
    rw [ha] at h
    cases b with
    | true =>
      cases hs : szOf P t with
      | none => rw [hs] at h; cases h
      | some s =>
        rw [hs] at h
        dsimp only at h
        cases hb : Nat.ble (off + s) cs.size with
        | false => rw [hb] at h; cases h
        | true =>
          rw [hb] at h
          simp only [cond_true, Option.some.injEq] at h
          subst h
          simp only [part, Sem.run_bind, aggT_run ha, Result.andThen_ok, if_true, szOf_run hs, Sem.run_pure]
    | false =>
      simp only at h
      simp only [part, Sem.run_bind, aggT_run ha, Result.andThen_ok, h]
      rfl
def loosePart (v : Value) : Bool := af v
def eqFs (P : Program) (rec : TypeId → Value → Value → Option Bool) : List Field → Array Value → Array Value → Option Bool
  | [], _, _ => some true
  | f :: fs, xs, ys => bif decide (f.name = "_") then eqFs P rec fs xs ys else
    match cPart P f.type xs f.offset, cPart P f.type ys f.offset with
    | some a, some b => match rec f.type a b, eqFs P rec fs xs ys with
      | some r, some q => some (r && q)
      | _, _ => none
    | _, _ => none
def eqT (P : Program) : Nat → TypeId → Value → Value → Option Bool
  | 0, _, _, _ => none
  | d + 1, t, x, y => match und P t, x, y with
    | some (.int _), .int k a, .int k' b => bif decide (k = k') then some (eqq a b) else none
    | some .bool, .bool a, .bool b => some (bif a then b else !b)
    | some (.struct fs), .agg xs, .agg ys => bif P.stoodInHeld t then none else eqFs P (eqT P d) fs.toList xs ys
    | _, _, _ => none
theorem eqFs_run {P : Program} {rec : TypeId → Value → Value → Option Bool} (d : Nat) (hrec : ∀ t x y r, rec t x y = some r → ∀ (D : Nat) (w : World), d ≤ D → (Op.equalIn D t x y).run P w = .ok r w) : ∀ (fs : List Field) (xs ys : Array Value) (r : Bool), eqFs P rec fs xs ys = some r → ∀ (D : Nat) (w : World), d ≤ D → (Op.eqFields D xs ys fs).run P w = .ok r w
  | [], xs, ys, r, h, D, w, hD => by
    simp only [eqFs, Option.some.injEq] at h
    subst h
    simp [Op.eqFields]
  | f :: fs, xs, ys, r, h, D, w, hD => by
    unfold eqFs at h
    by_cases e : f.name = "_"
    · simp only [e, decide_true, cond_true] at h
      simp only [Op.eqFields, e, ne_eq, not_true_eq_false, if_false]
      exact eqFs_run d hrec fs xs ys r h D w hD
    · simp only [e, decide_false, cond_false] at h
      split at h
      · rename_i a b ha hb
        split at h
        · rename_i r1 q h1 h2
          simp only [Option.some.injEq] at h
          subst h
          have pa : (part f.type xs f.offset).run P w = .ok a w := cPart_run' ha w
          have pb : (part f.type ys f.offset).run P w = .ok b w := cPart_run' hb w
          simp only [Op.eqFields, e, ne_eq, not_false_eq_true, if_true, Sem.run_bind, pa, Result.andThen_ok, pb, hrec f.type a b r1 h1 D w hD]
          cases r1 with
          | true => simpa using eqFs_run d hrec fs xs ys q h2 D w hD
          | false => simp
        · cases h
      · cases h
theorem eqT_run {P : Program} : ∀ (d : Nat) (t : TypeId) (x y : Value) (r : Bool), eqT P d t x y = some r → ∀ (D : Nat) (w : World), d ≤ D → (Op.equalIn D t x y).run P w = .ok r w
  | 0, t, x, y, r, h, D, w, hD => by simp [eqT] at h
  | d + 1, t, x, y, r, h, D, w, hD => by
    obtain ⟨D, rfl⟩ : ∃ e, D = e + 1 := ⟨D - 1, by omega⟩
    unfold eqT at h
    simp only [und_eq] at h
    split at h
    · rename_i k0 k a k' b hu
      by_cases e : k = k'
      · subst e
        simp only [decide_true, cond_true, Option.some.injEq] at h
        rw [run_equalIn_int w D t k k0 a b hu, ← h, eqq_eq]
      · simp [e] at h
    · rename_i a b hu
      simp only [Option.some.injEq] at h
      rw [run_equalIn_bool' w D t a b hu, ← h]
      cases a <;> cases b <;> rfl
    · rename_i fs xs ys hu
      cases hs : P.stoodInHeld t with
      | true => rw [hs] at h; cases h
      | false =>
        rw [hs] at h
        simp only [cond_false] at h
        have hf : P.fieldsOf t = fs := by simp [Program.fieldsOf, hu]
        rw [run_equalIn_struct w D t xs ys (by rw [hf]; exact hu) hs, hf]
        exact eqFs_run d (eqT_run d) fs.toList xs ys r h D w (by omega)
    · cases h
def RawCell (B : Lo) (b off : Nat) (v : Value) : Prop := ∀ w, B.has w → ∃ v', w.cell? ⟨b, off, none⟩ = some v' ∧ ∀ μ, VR μ v v'
def CallJ (P : Program) (B : Lo) (g : FuncId) (args : Array Value) (H : Heap) (n : Nat) (out : OO) (H' : Heap) (n' : Nat) (R W : List Nat) : Prop :=
  Shape H n H' n' R W ∧ ∀ (S : Nat → Prop) (μ : Mu) (w : World) (args' : Array Value) (cs : List Frame), Ok B S μ (hget H) w → B.has w → (∀ i, S i → i < n) → Free μ n n' → VRs μ args args' → (∀ i ∈ R, i < n → S i) →
    ∃ out' w' μ', Post B S n n' W μ μ' H H' w w' ∧ OR2 μ' out out' ∧ EndsAs P (Frame.enter P g args' .normal) cs w out' w'
def CJ (P : Program) (B : Lo) (g : FuncId) (args : Array Value) (Hs : List (Nat × Option Obj)) (n : Nat) (out : Value) (ups : Heap) (n' : Nat) (W : List Nat) : Prop :=
  ∀ H, Under H n → (∀ p ∈ Hs, hget H p.1 = p.2) → CallJ P B g args H n (.ret out) (ups ++ H) n' (Hs.map (·.1)) W
def RJ (P : Program) (B : Lo) (c : CF) (Hs : List (Nat × Option Obj)) (n : Nat) (out : Value) (ups : Heap) (n' : Nat) (W : List Nat) : Prop :=
  ∀ H, Under H n → (∀ p ∈ Hs, hget H p.1 = p.2) → FJ P B c H n (.ret out) (ups ++ H) n' (Hs.map (·.1)) W
open Classical in
noncomputable def recOne (c : CF) (H1 : Heap) (n : Nat) (s : Rs) : CF → Heap → Nat → Option Rs := fun c' H' m' => if c' = c ∧ H' = H1 ∧ m' = n then some s else none
theorem recOne_eq (c : CF) (H1 : Heap) (n : Nat) (s : Rs) : recOne c H1 n s c H1 n = some s := by simp [recOne]
theorem RJ.recS {P : Program} {B : Lo} {c : CF} {H1 : Heap} {n : Nat} {out : Value} {ups : Heap} {n' : Nat} {W keys : List Nat} (hu : Under H1 n) (h : RJ P B c (keys.map fun k => (k, hget H1 k)) n out ups n' W) : RecS P B (recOne c H1 n ⟨.ret out, ups ++ H1, n', keys, W⟩) := by
  intro c' H' m' s _ hs
  unfold recOne at hs
  split at hs
  · rename_i q
    obtain ⟨rfl, rfl, rfl⟩ := q
    simp only [Option.some.injEq] at hs
    subst hs
    have := h H' hu (fun p hp => by
      obtain ⟨k, _, rfl⟩ := List.mem_map.1 hp
      rfl)
    rw [List.map_map] at this
    have e : keys.map ((fun p : Nat × Option Obj => p.1) ∘ fun k => (k, hget H' k)) = keys := List.map_id' _
    rw [e] at this
    exact this
  · cases hs
structure Told where
  s : Rs
  p : Option Prop
def appH (P : Program) (t : TypeId) (H : Heap) (n : Nat) (s x : Value) (cs' : Array Value) : Option (CR × Prop) :=
  match und P t with
  | some (.slice e) => match inf P e with
    | some i => match i.zero, i.size with
      | some zv, z + 1 => match s with
        | .slice (some ⟨b, 0, none⟩) k s' => match hget H b with
          | some (.cells cs te (0, 0)) => match newsOf H (z + 1) x with
            | some (ns, m, bx) => bif Nat.beq te e && Nat.beq s' (z + 1) && ones ns && Nat.beq zv.cells.size (z + 1) && Nat.blt 0 m then
                some (⟨.val (.slice (some ⟨n, 0, none⟩) (k + m) (z + 1)), (n, .cells cs' e (0, 0)) :: killo H (some b), n + 1, [bx, b], [b]⟩, cs.size = k * (z + 1) ∧ k + m ≤ maxLen ∧ (k + m) * i.bytes ≤ 140737488355328 ∧ cs ++ ns = cs')
              else none
            | none => none
          | _ => none
        | _ => none
      | _, _ => none
    | none => none
  | _ => none

def MapGet (P : Program) (t : TypeId) (es : Array MapEntry) (ok : Bool) (k v : Value) : Prop := ∀ H r clk, hget H r = some (.map es clk) → cLookup P t H ok (.map (some r)) k = some (v, [r])
def MapPut (P : Program) (t : TypeId) (es : Array MapEntry) (clk : Nat) (k v : Value) (es' : Array MapEntry) (clk' : Nat) : Prop := ∀ H r, hget H r = some (.map es clk) → cMapUpdate P t H (.map (some r)) k v = some (hset H r (.map es' clk'), r)
def opH (P : Program) (F : FuncId → Bool) (B : Lo) (T : Tm) (o : Oper) (H : Heap) (n : Nat) : Option Hint → Option Told
  | none => match o.op with
    | .fieldAddr s x f => match evC T x with
      | some (.pointer (some ⟨b, off, some 0⟩)) => match cFieldAddr P s f (.pointer (some ⟨b, off, none⟩)) with
        | some (.pointer (some ⟨b', off', none⟩)) => some ⟨⟨.ret (.pointer (some ⟨b', off', some 0⟩)), H, n, [], []⟩, none⟩
        | _ => none
      | _ => match opS P F noOrc (fun _ _ _ => none) T o H n with | some s => some ⟨s, none⟩ | none => none
    | _ => match opS P F noOrc (fun _ _ _ => none) T o H n with | some s => some ⟨s, none⟩ | none => none
  | some (.val v) => match opS P F noOrc (fun _ _ _ => none) T o H n with
    | some ⟨.ret u, H1, n1, R, W⟩ => some ⟨⟨.ret v, H1, n1, R, W⟩, some (veq u v)⟩
    | _ => none
  | some (.idx k) => match o.op with
    | .indexAddr t x i => match evC T x, evC T i with
      | some (.slice (some ⟨b, off, sp⟩) len _), some (.int _ q) => match und P t with
        | some (.slice e) => match szOf P e with
          | some z => bif plainSpot sp then some ⟨⟨.ret (.pointer (some ⟨b, off + k * z, sp⟩)), H, n, [], []⟩, some (q = (k : Int) ∧ k < len)⟩ else none
          | none => none
        | _ => none
      | some (.pointer (some ⟨b, off, sp⟩)), some (.int _ q) => match und P t with
        | some (.array len e) => match szOf P e with
          | some z => bif plainSpot sp then some ⟨⟨.ret (.pointer (some ⟨b, off + k * z, sp⟩)), H, n, [], []⟩, some (q = (k : Int) ∧ k < len)⟩ else none
          | none => none
        | _ => none
      | _, _ => none
    | _ => none
  | some (.ld v) => match o.op with
    | .load t a => match evC T a with
      | some (.pointer (some ⟨b, off, none⟩)) => match hget H b with
        | some (.cells cs _ _) => bif Nat.blt b n then match aggT P t with
          | some true => match szOf P t, v with
            | some z, .agg xs => some ⟨⟨.ret v, H, n, [b], []⟩, some (off + z ≤ cs.size ∧ cs.extract off (off + z) = xs)⟩
            | _, _ => none
          | some false => some ⟨⟨.ret v, H, n, [b], []⟩, some (cs[off]? = some v)⟩
          | none => none
          else none
        | _ => none
      | _ => none
    | _ => none
  | some (.raw v) => match o.op with
    | .load t a => match evC T a with
      | some (.pointer (some ⟨b, off, some 0⟩)) => match aggT P t with
        | some true => match szOf P t, v with
          | some z, .agg xs => bif Nat.beq xs.size z then some ⟨⟨.ret v, H, n, [], []⟩, some (∀ (j : Nat) u, xs[j]? = some u → RawCell B b (off + j) u)⟩ else none
          | _, _ => none
        | some false => some ⟨⟨.ret v, H, n, [], []⟩, some (RawCell B b off v)⟩
        | none => none
      | _ => none
    | _ => none
  | some (.eq b) => match o.op with
    | .binOp op t x y _ => match evC T x, evC T y with
      | some (.agg xs), some (.agg ys) => bif P.eqGuardType P.depth t then none else match op with
        | .eql => match eqT P 100 t (.agg xs) (.agg ys) with
          | some r => bif loosePart (.agg xs) && loosePart (.agg ys) then some ⟨⟨.ret (.bool b), H, n, [], []⟩, some (r = b)⟩ else none
          | none => none
        | .neq => match eqT P 100 t (.agg xs) (.agg ys) with
          | some r => bif loosePart (.agg xs) && loosePart (.agg ys) then some ⟨⟨.ret (.bool b), H, n, [], []⟩, some ((!r) = b)⟩ else none
          | none => none
        | _ => none
      | _, _ => none
    | _ => none
  | some (.len m) => match o.op with
    | .call c => match c.callee with
      | .builtin .len => match c.args.toList, c.argTypes.toList with
        | [x], [t] => match evC T x, und P t with
          | some v, some (.slice _) => some ⟨⟨.ret (.int .i64 m), H, n, [], []⟩, some (SliceLen v m)⟩
          | _, _ => none
        | _, _ => none
      | _ => none
    | _ => none
  | some (.app cs') => match o.op with
    | .call c => match c.callee with
      | .builtin .append => match c.args.toList, c.argTypes.toList with
        | [s, x], [t, t'] => bif Nat.beq t t' then
            match evC T s, evC T x with
            | some sv, some xv => match appH P t H n sv xv cs' with
              | some (⟨.val v, H1, n1, R, W⟩, p) => bif R.all (fun i => Nat.blt i n) then some ⟨⟨.ret v, H1, n1, R, W⟩, some p⟩ else none
              | _ => none
            | _, _ => none
          else none
        | _, _ => none
      | _ => none
    | _ => none
  | some (.mk m cs) => match o.op with
    | .makeSlice t l c => match evC T l, evC T c with
      | some x, some y => match und P t with
        | some (.slice e) => match szOf P e with
          | some z => some ⟨⟨.ret (.slice (some ⟨n, 0, none⟩) m z), (n, .cells cs e (0, 0)) :: H, n + 1, [], []⟩, some (cMake P t x y = some (e, cs, m, z))⟩
          | none => none
        | _ => none
      | _, _ => none
    | _ => none
  | some (.st cs') => match o.op with
    | .store t a x => match evC T a, evC T x with
      | some (.pointer (some ⟨b, off, none⟩)), some v => match hget H b with
        | some (.cells cs te (0, 0)) => match szOf P t with
          | some z => bif Nat.blt b n && Nat.beq v.cells.size z && ones v.cells then some ⟨⟨.ret undef, hset H b (.cells cs' te (0, 0)), n, [b], [b]⟩, some (off + z ≤ cs.size ∧ splice cs off v.cells = cs')⟩ else none
          | none => none
        | _ => none
      | _, _ => none
    | _ => none
  | some (.call keys out ups n' W) => match o.op with
    | .call _ => match copR P F (evC T) o H n with
      | some ⟨.enter g args, H1, n1, R, W1⟩ => bif Nat.beq n1 n && W1.isEmpty then some ⟨⟨.ret out, ups ++ H1, n', R ++ keys, W⟩, some (CJ P B g args (keys.map fun k => (k, hget H1 k)) n out ups n' W)⟩ else none
      | some ⟨.round l fn tm a b, H1, n1, R, W1⟩ => bif Nat.beq n1 n && W1.isEmpty && Nat.ble tm.size 16000 then some ⟨⟨.ret out, ups ++ H1, n', R ++ keys, W⟩, some (RJ P B ⟨fn, ofList tm.size tm.toList, [.code a, .beginRound, .code b], [], .run, some l⟩ (keys.map fun k => (k, hget H1 k)) n out ups n' W)⟩ else none
      | _ => none
    | _ => none
  | some (.look v) => match o.op with
    | .lookup t x k ok => match evC T x, evC T k with
      | some (.map (some r)), some kv => match hget H r with
        | some (.map es _) => bif Nat.blt r n then some ⟨⟨.ret v, H, n, [r], []⟩, some (MapGet P t es ok kv v)⟩ else none
        | _ => none
      | _, _ => none
    | _ => none
  | some (.upd es' clk') => match o.op with
    | .mapUpdate t m k x => match evC T m, evC T k, evC T x with
      | some (.map (some r)), some kv, some v => match hget H r with
        | some (.map es clk) => bif Nat.blt r n then some ⟨⟨.ret undef, hset H r (.map es' clk'), n, [r], [r]⟩, some (MapPut P t es clk kv v es' clk')⟩ else none
        | _ => none
      | _, _, _ => none
    | _ => none
  | some .nil => match o.op with
    | .call c => match c.callee with
      | .builtin .append => match c.args.toList, c.argTypes.toList with
        | [s, x], [t, t'] => bif Nat.beq t t' then match evC T s, evC T x with
            | some (.slice none 0 0), some (.slice none 0 0) => match und P t with
              | some (.slice e) => match szOf P e with
                | some _ => some ⟨⟨.ret (.slice none 0 0), H, n, [], []⟩, none⟩
                | none => none
              | _ => none
            | _, _ => none
          else none
        | _, _ => none
      | _ => none
    | _ => none
section
variable {P : Program} {F : FuncId → Bool} {B : Lo} {T : Tm} {o : Oper} {H : Heap} {n : Nat}
theorem recS_none : RecS P B (fun _ _ _ => none) := fun _ _ _ _ _ h => by cases h
theorem does_val {v : Value} {ev : Operand → Option Value} (hd : ∀ c, o.op ≠ .defer c) (h : ∀ (μ : Mu) (w : World) (ρ : Operand → Value), B.has w → (∀ x ∈ o.op.operands, ∀ v, ev x = some v → VR μ v (ρ x)) → ∃ v', (execOp ρ o).run P w = .ok (.value v') w ∧ VR μ v v') :
    Does P B o ev H n (.ret v) H n [] [] := fun _ μ w fr _ _ _ _ _ hok hB _ _ hev _ hm ht ho hw =>
  let ⟨v', h1, h2⟩ := h μ w fr.eval hB hev
  ⟨.ret v', w, μ, Post.refl hok, .ret h2, opTo_value hm ht ho hw hd h1⟩
theorem cFieldAddr_raw {s : TypeId} {f b off : Nat} {b' off' : Nat} (h : cFieldAddr P s f (.pointer (some ⟨b, off, none⟩)) = some (.pointer (some ⟨b', off', none⟩))) (w : World) : b' = b ∧ (Instr.fieldAt s (.pointer (some ⟨b, off, none⟩)) f).run P w = .ok (.pointer (some ⟨b', off', none⟩)) w := by
  unfold cFieldAddr at h
  simp only [und_eq] at h
  split at h
  · rename_i fields hu
    cases hfd : fields[f]? with
    | none => rw [hfd] at h; cases h
    | some fd =>
      rw [hfd] at h
      dsimp only at h
      split at h
      · rename_i z hz
        simp only [Option.some.injEq, Value.pointer.injEq, Addr.mk.injEq, and_true] at h
        obtain ⟨rfl, rfl⟩ := h
        refine ⟨rfl, ?_⟩
        simp only [Instr.fieldAt, Sem.run_bind, run_underlying hu, Result.andThen_ok, hfd, Instr.sureAddr, Sem.run_pure, fieldPlace, szOf_run hz, add_none]
        simp
      · cases h
  · cases h
theorem index_run {t e : TypeId} {b off len c z k : Nat} {q : Int} {kk : IntKind} (hu : und P t = some (.slice e)) (hz : szOf P e = some z) (hq : q = (k : Int)) (hk : k < len) (w : World) :
    (Instr.indexAt t (.slice (some ⟨b, off, none⟩) len c) (.int kk q)).run P w = .ok (.pointer (some ⟨b, off + k * z, none⟩)) w := by
  rw [und_eq] at hu
  subst hq
  have hc : 0 ≤ (k : Int) ∧ (k : Int) < len := by omega
  simp only [Instr.indexAt, Sem.run_bind, asIntOf, Sem.run_pure, Result.andThen_ok, run_underlying hu, hc, and_self, if_true, szOf_run hz, add_none, Int.toNat_natCast]
theorem indexArr_run {t e : TypeId} {b off len z k : Nat} {q : Int} {kk : IntKind} (hu : und P t = some (.array len e)) (hz : szOf P e = some z) (hq : q = (k : Int)) (hk : k < len) (w : World) :
    (Instr.indexAt t (.pointer (some ⟨b, off, none⟩)) (.int kk q)).run P w = .ok (.pointer (some ⟨b, off + k * z, none⟩)) w := by
  rw [und_eq] at hu
  subst hq
  have hc : 0 ≤ (k : Int) ∧ (k : Int) < len := by omega
  simp only [Instr.indexAt, Sem.run_bind, asIntOf, Sem.run_pure, Result.andThen_ok, run_underlying hu, Instr.sureAddr, hc, and_self, if_true, szOf_run hz, add_none, Int.toNat_natCast]
theorem addr_VR {μ : Mu} {b off k z : Nat} {sp : Option Nat} {v' : Value} (hsp : plainSpot sp = true) (h : VR μ (.pointer (some ⟨b, off, sp⟩)) v') : ∃ b' off', v' = .pointer (some ⟨b', off', none⟩) ∧ VR μ (.pointer (some ⟨b, off + k * z, sp⟩)) (.pointer (some ⟨b', off' + k * z, none⟩)) := by
  cases h with
  | ptr har =>
    obtain ⟨im, h1, h2, rfl⟩ := har
    simp only at h2
    subst h2
    exact ⟨_, _, rfl, .ptr ⟨im, h1, rfl, by simp [Nat.add_assoc]⟩⟩
  | rawPtr _ _ q =>
    cases q with
    | zero => exact ⟨_, _, rfl, .rawPtr _ _ 0⟩
    | succ q => cases hsp
theorem slice_VR {μ : Mu} {b off len s k z : Nat} {sp : Option Nat} {v' : Value} (hsp : plainSpot sp = true) (h : VR μ (.slice (some ⟨b, off, sp⟩) len s) v') : ∃ b' off' c', v' = .slice (some ⟨b', off', none⟩) len c' ∧ VR μ (.pointer (some ⟨b, off + k * z, sp⟩)) (.pointer (some ⟨b', off' + k * z, none⟩)) := by
  cases h with
  | slice har =>
    obtain ⟨im, h1, h2, rfl⟩ := har
    simp only at h2
    subst h2
    exact ⟨_, _, _, rfl, .ptr ⟨im, h1, rfl, by simp [Nat.add_assoc]⟩⟩
  | rawSlice _ _ q =>
    cases q with
    | zero => exact ⟨_, _, _, rfl, .rawPtr _ _ 0⟩
    | succ q => cases hsp
theorem int_VR {μ : Mu} {k : IntKind} {q : Int} {v' : Value} (h : VR μ (.int k q) v') : v' = .int k q := by cases h; rfl
theorem appendNil_run {t e ty : TypeId} {z : Nat} (hu : und P t = some (.slice e)) (hz : szOf P e = some z) (w : World) : (Builtin.append_ #[t, t] ty #[.slice none 0 0, .slice none 0 0]).run P w = .ok (.slice none 0 0) w := by
  rw [und_eq] at hu
  simp [Builtin.append_, Sem.run_bind, run_underlying hu, Result.andThen_ok, szOf_run hz, Builtin.lenOf, Builtin.firstCells, Sem.run_pure]
theorem opH_sound (hF : ∀ g, F g = true → okFn P g = true) (hu : Under H n) {h : Option Hint} {a : Told} (e : opH P F B T o H n h = some a) (hp : ∀ p, a.p = some p → p) :
    Does P B o (evC T) H n a.s.out a.s.H a.s.n a.s.R a.s.W ∧ Shape H n a.s.H a.s.n a.s.R a.s.W := by
  have plain : ∀ {s : Rs}, opS P F noOrc (fun _ _ _ => none) T o H n = some s → Does P B o (evC T) H n s.out s.H s.n s.R s.W ∧ Shape H n s.H s.n s.R s.W := fun h => opS_sound hF recS_none (noOrc_ok P B) hu h
  have plain' : (match opS P F noOrc (fun _ _ _ => none) T o H n with | some s => some (⟨s, none⟩ : Told) | none => none) = some a → Does P B o (evC T) H n a.s.out a.s.H a.s.n a.s.R a.s.W ∧ Shape H n a.s.H a.s.n a.s.R a.s.W := by
    intro h
    split at h
    · rename_i s hs
      simp only [Option.some.injEq] at h
      subst h
      exact plain hs
    · cases h
  unfold opH at e
  split at e
  · -- nothing is told
    split at e
    · rename_i s x f hop
      split at e
      · rename_i b off hx
        split at e
        · rename_i b' off' hc
          simp only [Option.some.injEq] at e
          subst e
          refine ⟨does_val (fun c h => by rw [hop] at h; cases h) fun μ w ρ _ hev => ?_, Shape.same _ _ _⟩
          have hv := hev x (by simp [hop, Op.operands]) _ hx
          obtain ⟨rfl, hr⟩ := cFieldAddr_raw (P := P) hc w
          generalize hg : ρ x = u at hv
          cases hv with
          | ptr har => obtain ⟨im, _, h2, _⟩ := har; cases h2
          | rawPtr => exact ⟨_, by simp [execOp, hop, hg, hr, unspot], .rawPtr _ _ 0⟩
        · cases e
      · exact plain' e
    · exact plain' e
  · -- a value
    rename_i v
    split at e
    · rename_i u H1 n1 R W hs
      simp only [Option.some.injEq] at e
      subst e
      have := veq_eq (hp _ rfl)
      subst this
      exact plain hs
    · cases e
  · -- an element's address
    rename_i k
    split at e
    · rename_i t x i hop
      split at e
      · rename_i b off sp len c kk q hx hi
        split at e
        · rename_i el hue
          split at e
          · rename_i z hz
            have hsp : plainSpot sp = true := by
              cases h : plainSpot sp with
              | true => rfl
              | false => rw [h] at e; cases e
            rw [hsp] at e
            simp only [cond_true, Option.some.injEq] at e
            subst e
            obtain ⟨hq, hk⟩ := hp _ rfl
            refine ⟨does_val (fun c h => by rw [hop] at h; cases h) fun μ w ρ _ hev => ?_, Shape.same _ _ _⟩
            obtain ⟨b', off', c', h1, h2⟩ := slice_VR (k := k) (z := z) hsp (hev x (by simp [hop, Op.operands]) _ hx)
            have h3 := int_VR (hev i (by simp [hop, Op.operands]) _ hi)
            exact ⟨_, by simp [execOp, hop, h1, h3, index_run hue hz hq hk], h2⟩
          · cases e
        · cases e
      · rename_i b off sp kk q hx hi
        split at e
        · rename_i len el hue
          split at e
          · rename_i z hz
            have hsp : plainSpot sp = true := by
              cases h : plainSpot sp with
              | true => rfl
              | false => rw [h] at e; cases e
            rw [hsp] at e
            simp only [cond_true, Option.some.injEq] at e
            subst e
            obtain ⟨hq, hk⟩ := hp _ rfl
            refine ⟨does_val (fun c h => by rw [hop] at h; cases h) fun μ w ρ _ hev => ?_, Shape.same _ _ _⟩
            obtain ⟨b', off', h1, h2⟩ := addr_VR (k := k) (z := z) hsp (hev x (by simp [hop, Op.operands]) _ hx)
            have h3 := int_VR (hev i (by simp [hop, Op.operands]) _ hi)
            exact ⟨_, by simp [execOp, hop, h1, h3, indexArr_run hue hz hq hk], h2⟩
          · cases e
        · cases e
      · cases e
    · cases e
  · -- a load of one's own
    rename_i v
    split at e
    · rename_i t x hop
      split at e
      · rename_i b off hx
        split at e
        · rename_i cs te fz hg
          have key : Nat.blt b n = true → cPart P t cs off = some v → Does P B o (evC T) H n (.ret v) H n [b] [] ∧ Shape H n H n [b] [] := by
            intro hb hc
            refine plain (s := ⟨.ret v, H, n, [b], []⟩) ?_
            have hcop : cop P F (evC T) o H n = some ⟨.val v, H, n, [b], []⟩ := by simp [cop, hop, hx, cLoad, hg, hc]
            have hcr : copR P F (evC T) o H n = some ⟨.val v, H, n, [b], []⟩ := by simp [copR, hcop, hb]
            simp [opS, hop, hcr]
          have e := bif_some' (q := Nat.blt b n) e
          have hb : Nat.blt b n = true := by
            have := hu.lt hg
            exact Nat.ble_eq_true_of_le this
          split at e
          · rename_i hag
            split at e
            · rename_i z xs hz _
              simp only [Option.some.injEq] at e
              subst e
              obtain ⟨h1, h2⟩ := hp _ rfl
              refine key hb ?_
              simp only [cPart, hag, hz, Nat.ble_eq_true_of_le h1, cond_true, h2]
            · cases e
          · rename_i hag
            simp only [Option.some.injEq] at e
            subst e
            refine key hb ?_
            simp only [cPart, hag]
            exact hp _ rfl
          · cases e
        · cases e
      · cases e
    · cases e
  · -- a load of memory that nobody writes
    rename_i v
    split at e
    · rename_i t x hop
      split at e
      · rename_i b off hx
        split at e
        · rename_i hag
          split at e
          · rename_i z xs hz
            cases hsz : Nat.beq xs.size z with
            | false => rw [hsz] at e; cases e
            | true =>
              rw [hsz] at e
              simp only [cond_true, Option.some.injEq] at e
              subst e
              have hsz := Nat.eq_of_beq_eq_true hsz
              have hc := hp _ rfl
              refine ⟨does_val (fun c h => by rw [hop] at h; cases h) fun μ w ρ hB hev => ?_, Shape.same _ _ _⟩
              have hv := hev x (by simp [hop, Op.operands]) _ hx
              have hf : ∀ j, j < z → ∃ v, xs[j]? = some v ∧ w.cell? ⟨b, off + j, none⟩ = some ((w.cell? ⟨b, off + j, none⟩).getD undef) ∧ VR μ v ((w.cell? ⟨b, off + j, none⟩).getD undef) := by
                intro j hj
                have hlt : j < xs.size := by omega
                obtain ⟨v', a, b⟩ := hc j xs[j] (by simp [hlt]) w hB
                exact ⟨xs[j], by simp [hlt], by simp [a], by simpa [a] using b μ⟩
              have hr := run_loadCells (P := P) w ⟨b, off, none⟩ z (fun j => (w.cell? ⟨b, off + j, none⟩).getD undef) (fun j hj => by
                obtain ⟨_, _, hc, _⟩ := hf j hj
                rw [add_none]; exact hc)
              generalize hg : ρ x = u at hv
              cases hv with
              | ptr har => obtain ⟨im, _, h2, _⟩ := har; cases h2
              | rawPtr =>
                refine ⟨.agg _, by simp [execOp, hop, hg, Instr.loadAt, Instr.sureAddr, loadVar, aggT_run hag, szOf_run hz, unspot, hr]; rfl, .agg (by simp [hsz]) fun i v v' hv hv' => ?_⟩
                have hi : i < z := by
                  have := (Array.getElem?_eq_some_iff.1 hv).1
                  omega
                obtain ⟨u, h1, _, h2⟩ := hf i hi
                rw [hv] at h1; cases h1
                simp [hi] at hv'
                rw [← hv']
                exact h2
          · cases e
        · rename_i hag
          simp only [Option.some.injEq] at e
          subst e
          have hc := hp _ rfl
          refine ⟨does_val (fun c h => by rw [hop] at h; cases h) fun μ w ρ hB hev => ?_, Shape.same _ _ _⟩
          have hv := hev x (by simp [hop, Op.operands]) _ hx
          obtain ⟨v', h1, h2⟩ := hc w hB
          generalize hg : ρ x = u at hv
          cases hv with
          | ptr har => obtain ⟨im, _, h2, _⟩ := har; cases h2
          | rawPtr => exact ⟨v', by simp [execOp, hop, hg, Instr.loadAt, Instr.sureAddr, loadVar, aggT_run hag, run_load, unspot, h1], h2 μ⟩
        · cases e
      · cases e
    · cases e
  · -- a comparison of structs
    rename_i b
    split at e
    · rename_i op t x y ty hop
      split at e
      · rename_i xs ys hx hy
        cases hgt : P.eqGuardType P.depth t with
        | true => rw [hgt] at e; cases e
        | false =>
          rw [hgt] at e
          simp only [cond_false] at e
          have vals : loosePart (.agg xs) = true → loosePart (.agg ys) = true → ∀ (μ : Mu) (ρ : Operand → Value), (∀ x ∈ o.op.operands, ∀ v, evC T x = some v → VR μ v (ρ x)) → ρ x = .agg xs ∧ ρ y = .agg ys := fun h1 h2 μ ρ hev =>
            ⟨af_eq h1 (hev x (by simp [hop, Op.operands]) _ hx), af_eq h2 (hev y (by simp [hop, Op.operands]) _ hy)⟩
          split at e
          · split at e
            · rename_i r hr
              cases hl : (loosePart (.agg xs) && loosePart (.agg ys)) with
              | false => simp only [hl] at e; cases e
              | true =>
                simp only [hl, cond_true, Option.some.injEq] at e
                subst e
                have hrb : r = b := hp _ rfl
                subst hrb
                simp only [Bool.and_eq_true] at hl
                refine ⟨does_val (fun c h => by rw [hop] at h; cases h) fun μ w ρ _ hev => ?_, Shape.same _ _ _⟩
                obtain ⟨e1, e2⟩ := vals hl.1 hl.2 μ ρ hev
                refine ⟨.bool r, ?_, .bool _⟩
                simp [execOp, hop, e1, e2, run_eqGuard_agg w _ t x y xs ys hgt, run_eql_struct, eqT_run 100 t _ _ r hr 10000 w (by omega)]
            · cases e
          · split at e
            · rename_i r hr
              cases hl : (loosePart (.agg xs) && loosePart (.agg ys)) with
              | false => simp only [hl] at e; cases e
              | true =>
                simp only [hl, cond_true, Option.some.injEq] at e
                subst e
                have hrb : (!r) = b := hp _ rfl
                subst hrb
                simp only [Bool.and_eq_true] at hl
                refine ⟨does_val (fun c h => by rw [hop] at h; cases h) fun μ w ρ _ hev => ?_, Shape.same _ _ _⟩
                obtain ⟨e1, e2⟩ := vals hl.1 hl.2 μ ρ hev
                refine ⟨.bool (!r), ?_, .bool _⟩
                simp [execOp, hop, e1, e2, run_eqGuard_agg w _ t x y xs ys hgt, binOp, Op.equal, Op.maxDepth, eqT_run 100 t _ _ r hr 10000 w (by omega)]
            · cases e
          · cases e
      · cases e
    · cases e
  · -- a slice's length
    rename_i m
    split at e
    · rename_i c hop
      split at e
      · rename_i hc
        split at e
        · rename_i x t ha ht
          split at e
          · rename_i v el hx hu
            rw [und_eq] at hu
            simp only [Option.some.injEq] at e
            subst e
            refine ⟨does_val (fun c h => by rw [hop] at h; cases h) fun μ w ρ hB hev => ?_, Shape.same _ _ _⟩
            have ea : c.args = #[x] := by rw [← ha]
            have et : c.argTypes = #[t] := by rw [← ht]
            obtain ⟨a, cp, hv⟩ := hp _ rfl μ _ (hev x (by simp [hop, Op.operands, Call.operands, hc, ea]) _ hx)
            refine ⟨.int .i64 m, ?_, .int _ _⟩
            simp [execOp, hop, resolve, hc, invoke, builtin, ea, et, hv, Builtin.len_, run_underlying hu, goInt]
          · cases e
        · cases e
      · cases e
    · cases e
  · -- append
    rename_i cs'
    split at e
    · rename_i c hop
      split at e
      · rename_i hcal
        split at e
        · rename_i s x t t' ha ht
          cases htt : Nat.beq t t' with
          | false => rw [htt] at e; cases e
          | true =>
            rw [htt] at e
            simp only [cond_true] at e
            split at e
            · rename_i sv xv hs hx
              split at e
              · rename_i v H1 n1 R W p hap
                cases hR : R.all (fun i => Nat.blt i n) with
                | false => rw [hR] at e; cases e
                | true =>
                  rw [hR] at e
                  simp only [cond_true, Option.some.injEq] at e
                  subst e
                  have hpp : p := hp _ rfl
                  refine plain (s := ⟨.ret v, H1, n1, R, W⟩) ?_
                  have hca : cAppend P t H n sv xv = some ⟨.val v, H1, n1, R, W⟩ := by
                    unfold appH at hap
                    unfold cAppend
                    split at hap
                    · rename_i e1 hue
                      rw [hue]
                      simp only
                      split at hap
                      · rename_i inf1 hinf
                        rw [hinf]
                        simp only
                        split at hap
                        · rename_i zv z hzv hsz
                          rw [hzv, hsz]
                          simp only
                          split at hap
                          · rename_i b k s'
                            split at hap
                            · rename_i cs te hg
                              split at hap
                              · rename_i ns m bx hns
                                cases hq : (Nat.beq te e1 && Nat.beq s' (z + 1) && ones ns && Nat.beq zv.cells.size (z + 1) && Nat.blt 0 m) with
                                | false => rw [hq] at hap; cases hap
                                | true =>
                                  rw [hq] at hap
                                  simp only [cond_true, Option.some.injEq, Prod.mk.injEq, CR.mk.injEq, CN.val.injEq] at hap
                                  obtain ⟨⟨rfl, rfl, rfl, rfl, rfl⟩, rfl⟩ := hap
                                  obtain ⟨p1, p2, p3, p4⟩ := hpp
                                  simp only [Bool.and_eq_true] at hq
                                  obtain ⟨⟨⟨⟨q1, q2⟩, q3⟩, q4⟩, q5⟩ := hq
                                  have hh : headOf H e1 (z + 1) (.slice (some ⟨b, 0, none⟩) k s') = some (cs, k, some b) := by
                                    simp [headOf, hg, Nat.eq_of_beq_eq_true q1, Nat.eq_of_beq_eq_true q2, p1]
                                  rw [hh, hns]
                                  simp only [q3, q4, q5, Nat.ble_eq_true_of_le p2, Nat.ble_eq_true_of_le p3, Bool.and_self, cond_true, p4]
                                  rfl
                              · cases hap
                            · cases hap
                          · cases hap
                        · cases hap
                      · cases hap
                    · cases hap
                  have hbr : bare sv = sv := by
                    unfold bare
                    split
                    · exfalso
                      unfold appH at hap
                      repeat' (first | (cases hap; done) | split at hap)
                    · rfl
                  have hcop : cop P F (evC T) o H n = some ⟨.val v, H1, n1, R, W⟩ := by simp [cop, hop, hcal, ha, ht, hs, hx, cApp, htt, hbr, hca]
                  have hcr : copR P F (evC T) o H n = some ⟨.val v, H1, n1, R, W⟩ := by
                    simp only [copR, hcop, hR, cond_true]
                  simp [opS, hop, hcr]
              · cases e
            · cases e
        · cases e
      · cases e
    · cases e
  · -- make
    rename_i m cs
    split at e
    · rename_i t l c hop
      split at e
      · rename_i x y hx hy
        split at e
        · rename_i el hu1
          split at e
          · rename_i z hz
            simp only [Option.some.injEq] at e
            subst e
            have hc := hp _ rfl
            exact plain (s := ⟨.ret (.slice (some ⟨n, 0, none⟩) m z), (n, .cells cs el (0, 0)) :: H, n + 1, [], []⟩) (by simp [opS, hop, copR, cop, hx, hy, hc])
          · cases e
        · cases e
      · cases e
    · cases e
  · -- a store
    rename_i cs'
    split at e
    · rename_i t ad x hop
      split at e
      · rename_i b off v hx hy
        split at e
        · rename_i cs te hg
          split at e
          · rename_i z hz
            cases hq : (Nat.blt b n && Nat.beq v.cells.size z && ones v.cells) with
            | false => rw [hq] at e; cases e
            | true =>
              rw [hq] at e
              simp only [cond_true, Option.some.injEq] at e
              subst e
              obtain ⟨h1, h2⟩ := hp _ rfl
              simp only [Bool.and_eq_true] at hq
              have hst : cStore P t H v (.pointer (some ⟨b, off, none⟩)) = some (hset H b (.cells cs' te (0, 0)), b) := by
                simp only [cStore, hg, hz, hq.1.2, hq.2, Nat.ble_eq_true_of_le h1, Bool.and_self, cond_true, h2]
              exact plain (s := ⟨.ret undef, hset H b (.cells cs' te (0, 0)), n, [b], [b]⟩) (by simp [opS, hop, copR, cop, hx, hy, hst, hq.1.1])
          · cases e
        · cases e
      · cases e
    · cases e
  · -- a call
    rename_i keys out ups n' W
    split at e
    · rename_i c hop
      split at e
      · rename_i g args H1 n1 R W1 hcr
        cases hn : (Nat.beq n1 n && W1.isEmpty) with
        | false => rw [hn] at e; cases e
        | true =>
          rw [hn] at e
          simp only [cond_true, Option.some.injEq] at e
          subst e
          simp only [Bool.and_eq_true, List.isEmpty_iff] at hn
          obtain ⟨hn1, rfl⟩ := hn
          have hn1 := Nat.eq_of_beq_eq_true hn1
          subst hn1
          have hu1 : Under H1 n1 := hu.shape (cop_shape hu (copR_cop hcr).1)
          have hcj := hp _ rfl H1 hu1 (fun p hp => by
            obtain ⟨k, _, rfl⟩ := List.mem_map.1 hp
            rfl)
          have hk : (keys.map fun k => (k, hget H1 k)).map (·.1) = keys := by
            rw [List.map_map]
            exact List.map_id' _
          rw [hk] at hcj
          have horc : OrcS P B (fun g' a' H' m' => open Classical in if g' = g ∧ a' = args ∧ H' = H1 ∧ m' = n1 then some ⟨.ret out, ups ++ H1, n', keys, W⟩ else none) := by
            intro g' a' H' m' s _ h
            simp only at h
            split at h
            · rename_i q
              obtain ⟨rfl, rfl, rfl, rfl⟩ := q
              simp only [Option.some.injEq] at h
              subst h
              exact hcj
            · cases h
          have := opS_sound hF recS_none horc hu (T := T) (o := o) (s := ⟨.ret out, ups ++ H1, n', R ++ keys, W⟩) (by
            simp [opS, hop, hcr])
          exact this
      · rename_i l fn tm cda cdb H1 n1 R W1 hcr
        cases hn : (Nat.beq n1 n && W1.isEmpty && Nat.ble tm.size 16000) with
        | false => rw [hn] at e; cases e
        | true =>
          rw [hn] at e
          simp only [cond_true, Option.some.injEq] at e
          subst e
          simp only [Bool.and_eq_true, List.isEmpty_iff] at hn
          obtain ⟨⟨hn1, rfl⟩, hsz⟩ := hn
          have hn1 := Nat.eq_of_beq_eq_true hn1
          subst hn1
          have hu1 : Under H1 n1 := hu.shape (cop_shape hu (copR_cop hcr).1)
          have hrj := hp _ rfl
          have hrec := RJ.recS hu1 hrj
          have := opS_sound hF hrec (noOrc_ok P B) hu (T := T) (o := o) (s := ⟨.ret out, ups ++ H1, n', R ++ keys, W⟩) (by
            simp [opS, hop, hcr, hsz, recOne_eq])
          exact this
      · cases e
    · cases e
  · -- what is found in a map
    rename_i v
    split at e
    · rename_i t x k ok hop
      split at e
      · rename_i r kv hx hk
        split at e
        · rename_i es clk hg
          cases hq : Nat.blt r n with
          | false => rw [hq] at e; cases e
          | true =>
            rw [hq] at e
            simp only [cond_true, Option.some.injEq] at e
            subst e
            have hl := hp _ rfl H r clk hg
            exact plain (s := ⟨.ret v, H, n, [r], []⟩) (by simp [opS, hop, copR, cop, hx, hk, hl, hq])
        · cases e
      · cases e
    · cases e
  · -- what a map becomes
    rename_i es' clk'
    split at e
    · rename_i t m k x hop
      split at e
      · rename_i r kv v hm hk hx
        split at e
        · rename_i es clk hg
          cases hq : Nat.blt r n with
          | false => rw [hq] at e; cases e
          | true =>
            rw [hq] at e
            simp only [cond_true, Option.some.injEq] at e
            subst e
            have hl := hp _ rfl H r hg
            exact plain (s := ⟨.ret undef, hset H r (.map es' clk'), n, [r], [r]⟩) (by simp [opS, hop, copR, cop, hm, hk, hx, hl, hq])
        · cases e
      · cases e
    · cases e
  · -- nothing behind nothing
    split at e
    · rename_i c hop
      split at e
      · rename_i hcal
        split at e
        · rename_i s x t t' ha ht
          cases htt : Nat.beq t t' with
          | false => rw [htt] at e; cases e
          | true =>
            rw [htt] at e
            simp only [cond_true] at e
            have htt := Nat.eq_of_beq_eq_true htt
            subst htt
            split at e
            · rename_i hs hx
              split at e
              · rename_i el hue
                split at e
                · rename_i z hz
                  simp only [Option.some.injEq] at e
                  subst e
                  have ea : c.args = #[s, x] := by rw [← ha]
                  have et : c.argTypes = #[t, t] := by rw [← ht]
                  refine ⟨does_val (fun c h => by rw [hop] at h; cases h) fun μ w ρ _ hev => ?_, Shape.same _ _ _⟩
                  have h1 := af_eq (v := .slice none 0 0) rfl (hev s (by simp [hop, Op.operands, Call.operands, hcal, ea]) _ hs)
                  have h2 := af_eq (v := .slice none 0 0) rfl (hev x (by simp [hop, Op.operands, Call.operands, hcal, ea]) _ hx)
                  refine ⟨.slice none 0 0, ?_, .nilSlice 0 0⟩
                  have hr := appendNil_run (ty := o.type) hue hz w
                  simp [execOp, hop, resolve, hcal, invoke, builtin, ea, et, hr, h1, h2]
                · cases e
              · cases e
            · cases e
        · cases e
      · cases e
    · cases e
end
end Go.CE

namespace Go.CE
open Go Go.RowKit

def AllP : List Prop → Prop
  | [] => True
  | p :: l => p ∧ AllP l
abbrev Script := List (Nat × Hint)
def told (sc : Script) (q : Nat) : Option Hint × Script := match sc with
  | (k, h) :: l => bif Nat.beq k q then (some h, l) else (none, sc)
  | [] => (none, [])
structure RR where
  recs : List Rec
  T : Tm
  H : Heap
  n : Nat
  sc : Script
  q : Nat
  L : List Prop
def more (p : Option Prop) (L : List Prop) : List Prop := match p with | some p => p :: L | none => L
def rrunH (P : Program) (F : FuncId → Bool) (B : Lo) (ops : Array Oper) : List Oper → Tm → Heap → Nat → Script → Nat → List Prop → Option RR
  | [], T, H, n, sc, q, L => some ⟨[], T, H, n, sc, q, L⟩
  | o :: l, T, H, n, sc, q, L =>
    bif dstOk T o.dst then
      bif Region.wanted o (yieldedC ops T) then
        match told sc q with
        | (h, sc') => match opH P F B T o H n h with
          | some ⟨⟨.ret v, H1, n1, R, W⟩, p⟩ => match rrunH P F B ops l (tput T o.dst v) H1 n1 sc' (q + 1) (more p L) with
            | some r => some { r with recs := ⟨o, true, v, T, H, H1, n, n1, R, W⟩ :: r.recs }
            | none => none
          | _ => none
      else match rrunH P F B ops l (tput T o.dst undef) H n sc (q + 1) L with
        | some r => some { r with recs := ⟨o, false, undef, T, H, H, n, n, [], []⟩ :: r.recs }
        | none => none
    else none
inductive SR where
  | at (c : CF) (H : Heap) (n : Nat)
  | fin (out : OO) (H : Heap) (n : Nat)
structure ST where
  r : SR
  W : List Nat
  L : List Prop
def iterH (P : Program) (F : FuncId → Bool) (B : Lo) (c : CF) (H : Heap) (n : Nat) (f : Operand) (params : Array Tmp) (assign body : Code) (k : List Item) (keys : List Nat) (out : Value) (ups : Heap) (n' : Nat) (W : List Nat) : Option (CF × Heap × Prop) :=
  match evC c.tmps f with
  | some fv => match openLoop c H n params assign body with
    | some (H1, l, ds, _) => match cCall F H1 fv #[.func (.yield l) #[] #[]] with
      | some (.enter g args, _) => match enterC P g args with
        | some c1 => some ({ c with todo := .endRangeFunc l :: k, defers := ds ++ c.defers }, ups ++ H1, RJ P B c1 (keys.map fun k => (k, hget H1 k)) (l + 1) out ups n' W)
        | none => none
      | _ => none
    | none => none
  | none => none
section
variable {P : Program} {F : FuncId → Bool} {B : Lo}
theorem more_all {p : Option Prop} {L : List Prop} (h : AllP (more p L)) : (∀ x, p = some x → x) ∧ AllP L := by
  cases p with
  | none => exact ⟨(fun x h => by cases h), h⟩
  | some p => exact ⟨(fun x e => by cases e; exact h.1), h.2⟩
theorem go_region_of {c : CF} {H : Heap} {n : Nat} (hmix : P.follows .mixedOrders = true) {id : Nat} {ops : Array Oper} {draw : Bool} {k : List Item} {recs : List Rec} {T' : Tm} {H' : Heap} {n' : Nat} (hm : c.mode = .run)
    (ht : c.todo = .code (.region id ops draw) :: k) (hs : ∀ x ∈ recs, Sane c.tmps.len x) (hk : ∀ x ∈ recs, RecOk P B ops x) (hch : Chain recs c.tmps H n T' H' n') (hmap : recs.map (·.o) = ops.toList) (hd : (!draw || (edgesOk 0 ops.toList && indep ops 0 recs (befs ops.toList []))) = true) :
    GoJ P B c H n { c with tmps := T', todo := k } H' n' (allR recs) (allW recs) := by
  have hown := own_of_map (l := ops.toList) (l2 := []) (by rw [List.append_nil]; exact hmap) rfl
  have hlen : recs.length = ops.size := by have := congrArg List.length hmap; simpa using this
  refine ⟨chain_shape recs _ _ _ _ _ _ hch hs, fun S μ w fr cs Z hok hB hS hf hfr hR => ?_⟩
  obtain ⟨a, b, d⟩ := hfr.running hm
  rw [ht] at d
  obtain ⟨L', e, hL⟩ := d.code
  cases draw with
  | false =>
    obtain ⟨μ', A', w', hp, hT, hst⟩ := seq_run (fr := fr) (cs := cs) (k := L') a recs 0 c.tmps H n T' H' n' [] hch hs hk (fun j r hj => by rw [Nat.zero_add]; exact hown j r hj) rfl S μ w fr.tmps hok hB hS hf hR b
    rw [List.append_nil, hlen] at hst
    exact ⟨{ fr with tmps := A', todo := L' }, w', μ', hp, ⟨hfr.fn, hT, fun _ => hL.mono (hp.mu hf), hfr.defers.mono (hp.mu hf), hfr.mode.mono (hp.mu hf), hfr.kind, hfr.round.mono (hp.mu hf)⟩, rfl, rfl,
      .head (step_region_text a e) (hst.trans (.one (step_inReg_end a)))⟩
  | true =>
    simp only [Bool.not_true, Bool.false_or, Bool.and_eq_true] at hd
    have hedge : ∀ (q : Nat) o, ops[q]? = some o → ∀ e ∈ o.after, Region.binds .any e = true → e.on < q := by
      intro q o ho e he hb
      have := edgesOk_spec ops.toList 0 hd.1 q o (by rw [Array.getElem?_toList]; exact ho) e he hb
      omega
    have hbef := befs_ok ops.toList (fun q o ho => hedge q o (by simpa using ho))
    have hset : Setup P B ops recs (befs ops.toList []) c.tmps H n T' H' n' := ⟨hch, hs, hk, hown, hlen, by simpa using hbef.1, hd.2, hedge⟩
    obtain ⟨μ', A', w', hp, hT, hst⟩ := region_draw hmix hset hok hS hR hf hB (fr := fr) (cs := cs) (id := id) (k := L') a b e
    exact ⟨{ fr with tmps := A', todo := L' }, w', μ', hp, ⟨hfr.fn, hT, fun _ => hL.mono (hp.mu hf), hfr.defers.mono (hp.mu hf), hfr.mode.mono (hp.mu hf), hfr.kind, hfr.round.mono (hp.mu hf)⟩, rfl, rfl, hst⟩
def SRJ (P : Program) (B : Lo) (c : CF) (H : Heap) (n : Nat) (R W : List Nat) : SR → Prop
  | .at c' H' n' => GoJ P B c H n c' H' n' R W
  | .fin out H' n' => FJ P B c H n out H' n' R W
theorem GoJ.srj {c c' : CF} {H H' : Heap} {n n' : Nat} {R R' W W' : List Nat} {r : SR} (h : GoJ P B c H n c' H' n' R W) (k : SRJ P B c' H' n' R' W' r) : SRJ P B c H n (R ++ R') (W ++ W') r := by
  cases r with
  | «at» => exact h.trans k
  | fin => exact h.fj k
theorem iterH_sound (hF : ∀ g, F g = true → okFn P g = true) (hmix : P.follows .mixedOrders = true) {c c' : CF} {H H' : Heap} {n n' : Nat} {f : Operand} {params : Array Tmp} {assign body : Code} {k : List Item} {keys W : List Nat} {out : Value} {ups : Heap} {p : Prop} (hu : Under H n) (hm : c.mode = .run) (ht : c.todo = .code (.rangeFunc f params assign body) :: k)
    (h : iterH P F B c H n f params assign body k keys out ups n' W = some (c', H', p)) (hp : p) : ∃ R, GoJ P B c H n c' H' n' R W := by
  unfold iterH at h
  split at h
  · rename_i fv hfv
    split at h
    · rename_i H1 l ds R1 ho
      split at h
      · rename_i g args R2 hc
        split at h
        · rename_i c1 he
          simp only [Option.some.injEq, Prod.mk.injEq] at h
          obtain ⟨rfl, rfl, rfl⟩ := h
          have hu1 : Under H1 (l + 1) := hu.shape (openLoop_sound (P := P) (B := B) hu ho).1
          have hrec := RJ.recS hu1 hp
          refine ⟨R1 ++ R2 ++ keys, ?_⟩
          have : fstep P F noOrc (recOne c1 H1 (l + 1) ⟨.ret out, ups ++ H1, n', keys, W⟩) c H n = some (.go { c with todo := .endRangeFunc l :: k, defers := ds ++ c.defers } (ups ++ H1) n' (R1 ++ R2 ++ keys) W) := by
            unfold fstep
            simp only [hm, ht, hfv, ho, hc, he, recOne_eq]
          exact fstep_sound hF hmix (noOrc_ok P B) hrec hu this
        · cases h
      · cases h
    · cases h
  · cases h
end
end Go.CE

namespace Go.CE
open Go Go.RowKit

def distinct : List Nat → Bool
  | [] => true
  | a :: l => l.all (fun b => !(Nat.beq a b)) && distinct l
theorem distinct_inj {l : List Nat} (h : distinct l = true) : ∀ (i j : Nat) a, l[i]? = some a → l[j]? = some a → i = j := by
  induction l with
  | nil => intro i j a hi; simp at hi
  | cons b l ih =>
    simp only [distinct, Bool.and_eq_true] at h
    have hne : ∀ a ∈ l, a ≠ b := by
      intro a ha e
      have := List.all_eq_true.1 h.1 a ha
      rw [e] at this
      simp at this
    intro i j a hi hj
    cases i with
    | zero =>
      cases j with
      | zero => rfl
      | succ j =>
        simp only [List.getElem?_cons_zero, Option.some.injEq, List.getElem?_cons_succ] at hi hj
        exact absurd hi.symm (hne a (List.mem_of_getElem? hj))
    | succ i =>
      cases j with
      | zero =>
        simp only [List.getElem?_cons_zero, Option.some.injEq, List.getElem?_cons_succ] at hi hj
        exact absurd hj.symm (hne a (List.mem_of_getElem? hi))
      | succ j =>
        simp only [List.getElem?_cons_succ] at hi hj
        rw [ih h.2 i j a hi hj]
section
variable {P : Program} {F : FuncId → Bool} {B : Lo}
end
def nav : Code → List Nat → Code
  | c, [] => c
  | .seq a b, k :: l => bif Nat.beq k 0 then nav a l else nav b l
  | .cond _ a b, k :: l => bif Nat.beq k 0 then nav a l else nav b l
  | .block _ a, _ :: l => nav a l
  | .loop a, _ :: l => nav a l
  | .scope a, _ :: l => nav a l
  | .rangeFunc _ _ a b, k :: l => bif Nat.beq k 0 then nav a l else nav b l
  | c, _ => c
def bodyOf (P : Program) (f : FuncId) : Code := match nth P.funcs.toList f with
  | some fn => match fn.body with
    | some c => c
    | none => .skip
  | none => .skip
inductive It where
  | code (l : List Nat)
  | inBlock (k : Nat)
  | inLoop (l : List Nat)
  | inScope (l : List Nat)
def it (b : Code) : It → Item
  | .code l => .code (nav b l)
  | .inBlock k => .inBlock k
  | .inLoop l => .inLoop (nav b l)
  | .inScope l => .inScope (nav b l)
def entryC (P : Program) (f : FuncId) (len : Nat) (args : List Value) : CF := ⟨f, ofList len args, [.code (bodyOf P f)], [], .run, none⟩
end Go.CE

namespace Go.CE
open Go Go.RowKit

theorem wq_in {x : Int} (h1 : -9223372036854775808 ≤ x) (h2 : x ≤ 9223372036854775807) : wq x = x := by
  rw [wq_eq]
  exact IntWalk.i64_in _ ⟨h1, h2⟩
theorem wrap_in {x : Int} (h1 : -9223372036854775808 ≤ x) (h2 : x ≤ 9223372036854775807) : IntKind.i64.wrap x = x := IntWalk.i64_in _ ⟨h1, h2⟩
theorem ltq_t {a b : Int} (h : a < b) : ltq a b = true := by rw [ltq_eq]; simpa using h
theorem ltq_f {a b : Int} (h : b ≤ a) : ltq a b = false := by rw [ltq_eq]; simpa using h
theorem nltq_t {a b : Int} (h : b ≤ a) : (!ltq a b) = true := by rw [ltq_f h]; rfl
theorem nltq_f {a b : Int} (h : a < b) : (!ltq a b) = false := by rw [ltq_t h]; rfl
theorem eqq_t {a b : Int} (h : a = b) : eqq a b = true := by rw [eqq_eq]; simpa using h
theorem eqq_f {a b : Int} (h : a ≠ b) : eqq a b = false := by rw [eqq_eq]; simpa using h

section
variable {P : Program} {B : Lo}
end
end Go.CE
namespace Go.CE
open Go Go.RowKit
section
variable {P : Program} {B : Lo}
end
end Go.CE

namespace Go.CE
open Go Go.RowKit

theorem TRv.mono {fm fm' : Nat → Option Obj} (h : ∀ b x, fm b = some x → fm' b = some x) {t v : Value} (ht : TRv fm t v) : TRv fm' t v := by
  induction ht with
  | simple h => exact .simple h
  | agg h1 _ ih => exact .agg h1 ih
  | tuple h1 _ ih => exact .tuple h1 ih
  | iface _ ih => exact .iface ih
  | func h1 h2 _ _ ih1 ih2 => exact .func h1 h2 ih1 ih2
  | slice h1 h2 h3 h4 _ ih => exact .slice h1 h2 (h _ _ h3) h4 ih
  | nil => exact .nil
  | empty h => exact .empty h
  | ptr h1 h2 _ ih => exact .ptr (h _ _ h1) h2 ih
theorem TRv.simple_eq {fm : Nat → Option Obj} {t v : Value} (h : CE.simple t = true) (ht : TRv fm t v) : v = t := by
  cases ht with
  | simple _ => rfl
  | func h1 h2 _ _ =>
    simp only [CE.simple, Bool.and_eq_true, beq_iff_eq] at h
    have e1 := Array.eq_empty_of_size_eq_zero h.1
    have e2 := Array.eq_empty_of_size_eq_zero h.2
    subst e1 e2
    rw [Array.eq_empty_of_size_eq_zero h1.symm, Array.eq_empty_of_size_eq_zero h2.symm]
  | agg _ _ => cases h
  | tuple _ _ => cases h
  | iface _ => cases h
  | slice _ _ _ _ _ => cases h
  | nil => cases h
  | empty _ => cases h
  | ptr _ _ _ => cases h
def pushS (r : Nat) (v : Value) : Value := bif simple v then v else topV r v
def pushT (r : Nat) : Nat → Value → Value
  | 0, v => pushS r v
  | f + 1, v => match v with
    | .agg xs => .agg (xs.map (pushT r f))
    | .tuple xs => .tuple (xs.map (pushT r f))
    | .iface t x => .iface t (pushT r f x)
    | .func (.func g) xs ys => .func (.func g) (xs.map (pushT r f)) (ys.map (pushT r f))
    | v => pushS r v
def okT : Nat → Value → Bool
  | 0, v => simple v || isTop v
  | f + 1, v => match v with
    | .agg xs => xs.all (okT f)
    | .tuple xs => xs.all (okT f)
    | .iface _ x => okT f x
    | .func (.func _) xs ys => xs.all (okT f) && ys.all (okT f)
    | v => simple v || isTop v
section
variable {μ : Mu} {r : Nat} {im : Img}
theorem pushS_VR (hr : μ r = some im) {v v' : Value} (ho : (simple v || isTop v) = true) (h : TRv im.fm v v') : VR μ (pushS r v) v' := by
  unfold pushS
  cases hs : simple v with
  | true => rw [h.simple_eq hs]; exact vr_simple hs
  | false =>
    rw [hs] at ho
    exact .top (by simpa using ho) hr h
theorem pushT_VR (hr : μ r = some im) : ∀ (f : Nat) (v v' : Value), okT f v = true → TRv im.fm v v' → VR μ (pushT r f v) v'
  | 0, v, v', ho, h => pushS_VR hr ho h
  | f + 1, v, v', ho, h => by
    have arr : ∀ {xs xs' : Array Value}, xs.all (okT f) = true → xs.size = xs'.size → (∀ (i : Nat) v v', xs[i]? = some v → xs'[i]? = some v' → TRv im.fm v v') → (xs.map (pushT r f)).size = xs'.size ∧ ∀ (i : Nat) v v', (xs.map (pushT r f))[i]? = some v → xs'[i]? = some v' → VR μ v v' := by
      intro xs xs' ha hs hx
      refine ⟨by simpa using hs, fun i v v' hv hv' => ?_⟩
      rw [Array.getElem?_map] at hv
      cases hy : xs[i]? with
      | none => rw [hy] at hv; cases hv
      | some y =>
        rw [hy] at hv
        simp only [Option.map_some, Option.some.injEq] at hv
        subst hv
        exact pushT_VR hr f y v' (Array.all_eq_true'.1 ha y (Array.mem_of_getElem? hy)) (hx i y v' hy hv')
    cases v with
    | agg xs =>
      cases h with
      | simple h => cases h
      | agg h1 h2 => exact .agg (arr ho h1 h2).1 (arr ho h1 h2).2
    | tuple xs =>
      cases h with
      | simple h => cases h
      | tuple h1 h2 => exact .tuple (arr ho h1 h2).1 (arr ho h1 h2).2
    | iface t x =>
      cases h with
      | simple h => cases h
      | iface h => exact .iface (pushT_VR hr f x _ ho h)
    | func fn xs ys =>
      cases fn with
      | func g =>
        have ho : (xs.all (okT f) && ys.all (okT f)) = true := ho
        simp only [Bool.and_eq_true] at ho
        cases h with
        | simple hs =>
          simp only [simple, Bool.and_eq_true, beq_iff_eq] at hs
          have e1 := Array.eq_empty_of_size_eq_zero hs.1
          have e2 := Array.eq_empty_of_size_eq_zero hs.2
          subst e1 e2
          exact .func (by simp) (by simp) (fun i v v' hv => by simp at hv) (fun i v v' hv => by simp at hv)
        | func h1 h2 h3 h4 => exact .func (arr ho.1 h1 h3).1 (arr ho.2 h2 h4).1 (arr ho.1 h1 h3).2 (arr ho.2 h2 h4).2
      | _ => exact pushS_VR hr (by exact ho) h
    | _ => exact pushS_VR hr ho h
end
def plainT : Nat → Value → Bool
  | 0, v => simple v
  | f + 1, v => match v with
    | .agg xs => xs.all (plainT f)
    | .tuple xs => xs.all (plainT f)
    | .iface _ x => plainT f x
    | v => simple v
theorem plainT_VR {μ : Mu} {fm : Nat → Option Obj} : ∀ (f : Nat) (v v' : Value), plainT f v = true → TRv fm v v' → VR μ v v'
  | 0, v, v', ho, h => by rw [h.simple_eq ho]; exact vr_simple ho
  | f + 1, v, v', ho, h => by
    have arr : ∀ {xs xs' : Array Value}, xs.all (plainT f) = true → (∀ (i : Nat) v v', xs[i]? = some v → xs'[i]? = some v' → TRv fm v v') → ∀ (i : Nat) v v', xs[i]? = some v → xs'[i]? = some v' → VR μ v v' :=
      fun ha hx i v v' hv hv' => plainT_VR f v v' (Array.all_eq_true'.1 ha v (Array.mem_of_getElem? hv)) (hx i v v' hv hv')
    cases v with
    | agg xs =>
      cases h with
      | simple h => cases h
      | agg h1 h2 => exact .agg h1 (arr ho h2)
    | tuple xs =>
      cases h with
      | simple h => cases h
      | tuple h1 h2 => exact .tuple h1 (arr ho h2)
    | iface t x =>
      cases h with
      | simple h => cases h
      | iface h => exact .iface (plainT_VR f x _ ho h)
    | _ =>
      rw [TRv.simple_eq (by exact ho) h]; exact vr_simple (by exact ho)
def isRegB : Option Obj → Bool
  | some (.coro _) => true
  | _ => false
theorem isRegB_spec {o : Option Obj} (h : isRegB o = true) : ∃ x, o = some x ∧ isReg x := by
  cases o with
  | none => cases h
  | some x => cases x <;> first | exact ⟨_, rfl, trivial⟩ | cases h
def topSl : Value → Option (Nat × Nat × Array Value)
  | .func (.via r ⟨[]⟩ 0 true) ⟨[.func (.via n ⟨[]⟩ 0 false) ⟨[]⟩ cs]⟩ ⟨[]⟩ => some (r, n, cs)
  | _ => none
def topPt : Value → Option (Nat × Nat × Array Value)
  | .func (.via r ⟨[]⟩ 0 true) ⟨[.func (.via off ⟨[]⟩ 1 true) ⟨[]⟩ cs]⟩ ⟨[]⟩ => some (r, off, cs)
  | _ => none
theorem topSl_eq {v : Value} {r n : Nat} {cs : Array Value} (h : topSl v = some (r, n, cs)) : v = topV r (slT n cs) := by
  unfold topSl at h
  split at h
  · simp only [Option.some.injEq, Prod.mk.injEq] at h
    obtain ⟨rfl, rfl, rfl⟩ := h
    rfl
  · cases h
theorem topPt_eq {v : Value} {r off : Nat} {cs : Array Value} (h : topPt v = some (r, off, cs)) : v = topV r (ptT off cs) := by
  unfold topPt at h
  split at h
  · simp only [Option.some.injEq, Prod.mk.injEq] at h
    obtain ⟨rfl, rfl, rfl⟩ := h
    rfl
  · cases h
theorem VR.top_inv {μ : Mu} {r : Nat} {t v' : Value} (h : VR μ (topV r t) v') : ∃ im, μ r = some im ∧ TRv im.fm t v' := by
  cases h with
  | top _ h1 h2 => exact ⟨_, h1, h2⟩
theorem TRv.slice_inv {fm : Nat → Option Obj} {n : Nat} {cs : Array Value} {v' : Value} (h : TRv fm (slT n cs) v') : ((∃ b o c' arr t fl, v' = .slice (some ⟨b, o, none⟩) n c' ∧ n ≤ c' ∧ c' ≤ maxLen ∧ fm b = some (.cells arr t fl) ∧ (∀ i, i < cs.size → o + i < arr.size) ∧ (∀ (i : Nat) v v', cs[i]? = some v → arr[o + i]? = some v' → TRv fm v v')) ∨
    (n = 0 ∧ cs = #[] ∧ ∃ a c', v' = .slice a 0 c' ∧ c' ≤ maxLen)) := by
  cases h with
  | simple h => cases h
  | slice h1 h2 h3 h5 h6 => exact .inl ⟨_, _, _, _, _, _, rfl, h1, h2, h3, h5, h6⟩
  | nil => exact .inr ⟨rfl, rfl, none, 0, rfl, Nat.zero_le _⟩
  | empty h => exact .inr ⟨rfl, rfl, _, _, rfl, h⟩
theorem TRv.ptr_inv {fm : Nat → Option Obj} {off : Nat} {cs : Array Value} {v' : Value} (h : TRv fm (ptT off cs) v') : ∃ b o arr t fl, v' = .pointer (some ⟨b, o + off, none⟩) ∧ fm b = some (.cells arr t fl) ∧ (∀ i, i < cs.size → o + i < arr.size) ∧ (∀ (i : Nat) v v', cs[i]? = some v → arr[o + i]? = some v' → TRv fm v v') := by
  cases h with
  | simple h => cases h
  | ptr h1 h2 h3 => exact ⟨_, _, _, _, _, rfl, h1, h2, h3⟩
end Go.CE

namespace Go.CE
open Go Go.RowKit

def TRvs (fm : Nat → Option Obj) (xs xs' : Array Value) : Prop := xs.size = xs'.size ∧ ∀ (i : Nat) v v', xs[i]? = some v → xs'[i]? = some v' → TRv fm v v'
def fmOr (fm : Nat → Option Obj) (w w' : World) (b : Nat) : Option Obj := if b < w.heap.size then fm b else w'.heap[b]?
def PureC (P : Program) (J : World → Prop) (g : FuncId) (targs : Array Value) (out : Value) : Prop :=
  ∀ (fm : Nat → Option Obj) (w : World) (args' : Array Value), J w → (∀ b x, fm b = some x → w.heap[b]? = some x) → TRvs fm targs args' →
    Calls P g args' w fun e w' => ∃ v', e = .returned v' ∧ Below w.heap.size w w' ∧ TRv (fmOr fm w w') out v'
structure Fz where
  k : Nat
  rs : List Nat
  cs : Array Value
def fzGet : List Fz → Nat → Option Fz
  | [], _ => none
  | x :: l, k => bif Nat.beq x.k k then some x else fzGet l k
def CellR (rs : List Nat) (v v1 : Value) : Prop := (simple v = true ∧ v1 = v) ∨ ∃ r ∈ rs, v = topV r v1 ∧ isTop v1 = true
def CellsT (rs : List Nat) (cs cs1 : Array Value) : Prop := cs.size = cs1.size ∧ ∀ (i : Nat) v v1, cs[i]? = some v → cs1[i]? = some v1 → CellR rs v v1
theorem cellsT_simple {rs : List Nat} {cs : Array Value} (h : cs.all simple = true) : CellsT rs cs cs := ⟨rfl, fun i v v1 h1 h2 => by
  rw [h1] at h2; cases h2
  exact .inl ⟨Array.all_eq_true'.1 h v (Array.mem_of_getElem? h1), rfl⟩⟩
def isNil : Value → Bool
  | .slice none 0 0 => true
  | _ => false
theorem isNil_eq {v : Value} (h : isNil v = true) : v = .slice none 0 0 := by
  unfold isNil at h
  split at h
  · rfl
  · cases h
def stripS (H : Heap) (fz : List Fz) (v : Value) : Option (Value × List Nat × List Prop) := bif isNil v then some (slT 0 #[], [], []) else bif simple v then some (v, [], []) else match v with
  | .func (.via r ⟨[]⟩ 0 true) ⟨[t]⟩ ⟨[]⟩ => bif isRegB (hget H r) then some (t, [r], []) else none
  | .slice (some ⟨k, 0, none⟩) n _ => match fzGet fz k, hget H k with
    | some x, some (.cells cs _ (0, 0)) => bif x.rs.all fun r => isRegB (hget H r) then some (slT n x.cs, k :: x.rs, [CellsT x.rs cs x.cs]) else none
    | _, _ => none
  | .pointer (some ⟨k, o, none⟩) => match fzGet fz k, hget H k with
    | some x, some (.cells cs _ (0, 0)) => bif x.rs.all fun r => isRegB (hget H r) then some (ptT o x.cs, k :: x.rs, [CellsT x.rs cs x.cs]) else none
    | _, _ => none
  | _ => none
def stripL (f : Value → Option (Value × List Nat × List Prop)) : List Value → Option (List Value × List Nat × List Prop)
  | [] => some ([], [], [])
  | v :: l => match f v with
    | some (t, R, L) => match stripL f l with
      | some (ts, R2, L2) => some (t :: ts, R ++ R2, L ++ L2)
      | none => none
    | none => none
def stripV (H : Heap) (fz : List Fz) : Nat → Value → Option (Value × List Nat × List Prop)
  | 0, v => stripS H fz v
  | f + 1, v => match v with
    | .agg xs => match stripL (stripV H fz f) xs.toList with
      | some (l, R, L) => some (.agg l.toArray, R, L)
      | none => none
    | .tuple xs => match stripL (stripV H fz f) xs.toList with
      | some (l, R, L) => some (.tuple l.toArray, R, L)
      | none => none
    | .iface t x => match stripV H fz f x with
      | some (x, R, L) => some (.iface t x, R, L)
      | none => none
    | .func (.func g) xs ys => match stripL (stripV H fz f) xs.toList with
      | some (l, R, L) => match stripL (stripV H fz f) ys.toList with
        | some (m, R2, L2) => some (.func (.func g) l.toArray m.toArray, R ++ R2, L ++ L2)
        | none => none
      | none => none
    | v => stripS H fz v
theorem allP_append {a b : List Prop} (h : AllP (a ++ b)) : AllP a ∧ AllP b := by
  induction a with
  | nil => exact ⟨trivial, h⟩
  | cons x a ih => exact ⟨⟨h.1, (ih h.2).1⟩, (ih h.2).2⟩
noncomputable def fmU (μ : Mu) (H : Heap) (w : World) (R : List Nat) (b : Nat) : Option Obj :=
  open Classical in if ∃ i ∈ R, ∃ o im, hget H i = some o ∧ μ i = some im ∧ ((isReg o ∧ im.fm b ≠ none) ∨ (live o ∧ im.blk = b)) then w.heap[b]? else none
section
variable {B : Nat} {S : Nat → Prop} {μ : Mu} {H : Heap} {w : World} {fz : List Fz}
theorem fmU_world {R : List Nat} {b : Nat} {x : Obj} (h : fmU μ H w R b = some x) : w.heap[b]? = some x := by
  unfold fmU at h
  split at h
  · exact h
  · cases h
theorem fmU_mono {R R' : List Nat} (hs : ∀ i ∈ R, i ∈ R') {b : Nat} {x : Obj} (h : fmU μ H w R b = some x) : fmU μ H w R' b = some x := by
  have hw := fmU_world h
  unfold fmU at h ⊢
  split at h
  · rename_i hc
    obtain ⟨i, hi, r⟩ := hc
    rw [if_pos ⟨i, hs i hi, r⟩]; exact hw
  · cases h
theorem fmU_reg (hok : Ok B S μ (hget H) w) {R : List Nat} {r : Nat} (hr : r ∈ R) (hS : S r) (hg : isRegB (hget H r) = true) {im : Img} (him : μ r = some im) {b : Nat} {x : Obj} (hx : im.fm b = some x) : fmU μ H w R b = some x := by
  obtain ⟨o, ho, hreg⟩ := isRegB_spec hg
  obtain ⟨im', him', hf⟩ := hok.reg r o hS ho hreg
  rw [him] at him'; cases him'
  unfold fmU
  rw [if_pos ⟨r, hr, o, im, ho, him, .inl ⟨hreg, by rw [hx]; simp⟩⟩]
  exact hf b x hx
theorem fmU_own {R : List Nat} {k : Nat} (hk : k ∈ R) {o : Obj} (hg : hget H k = some o) (hl : live o) {im : Img} (him : μ k = some im) : fmU μ H w R im.blk = w.heap[im.blk]? := by
  unfold fmU
  rw [if_pos ⟨k, hk, o, im, hg, him, .inr ⟨hl, rfl⟩⟩]
theorem own_cells (hok : Ok B S μ (hget H) w) {k : Nat} (hS : S k) {cs : Array Value} {t : TypeId} (hg : hget H k = some (.cells cs t (0, 0))) : ∃ im arr, μ k = some im ∧ im.rw = true ∧ im.off = 0 ∧ w.heap[im.blk]? = some (.cells arr t (0, 0)) ∧ cs.size ≤ arr.size ∧ arr.size = im.cap ∧ ∀ (i : Nat) v, cs[i]? = some v → ∃ v', arr[i]? = some v' ∧ VR μ v v' := by
  obtain ⟨im, him, hor⟩ := hok.rel k _ hS hg trivial
  rcases hor with ⟨_, h1, h2, arr, h3, h4, h5, h6⟩ | ⟨hz, _⟩
  · exact ⟨im, arr, him, h1, h2, h3, h4, h5, h6⟩
  · exact absurd rfl hz
theorem cellR_TRv (hok : Ok B S μ (hget H) w) {R rs : List Nat} (hsub : ∀ r ∈ rs, r ∈ R) (hS : ∀ r ∈ R, S r) (hreg : (rs.all fun r => isRegB (hget H r)) = true) {v v1 v' : Value} (h : CellR rs v v1) (hv : VR μ v v') : TRv (fmU μ H w R) v1 v' := by
  rcases h with ⟨h1, rfl⟩ | ⟨r, hr, rfl, _⟩
  · rw [simple_eq h1 hv]; exact .simple h1
  · obtain ⟨im, him, ht⟩ := hv.top_inv
    exact ht.mono fun b x hx => fmU_reg hok (hsub r hr) (hS r (hsub r hr)) (List.all_eq_true.1 hreg r hr) him hx
theorem stripS_sound (hok : Ok B S μ (hget H) w) {v v' t : Value} {R : List Nat} {L : List Prop} (h : stripS H fz v = some (t, R, L)) (hL : AllP L) (hS : ∀ r ∈ R, S r) (hv : VR μ v v') : TRv (fmU μ H w R) t v' := by
  unfold stripS at h
  cases hn : isNil v with
  | true =>
    rw [hn] at h
    simp only [cond_true, Option.some.injEq, Prod.mk.injEq] at h
    obtain ⟨rfl, rfl, rfl⟩ := h
    have := isNil_eq hn
    subst this
    cases hv
    exact .nil
  | false =>
  rw [hn] at h
  simp only [cond_false] at h
  cases hs : simple v with
  | true =>
    rw [hs] at h
    simp only [cond_true, Option.some.injEq, Prod.mk.injEq] at h
    obtain ⟨rfl, rfl, rfl⟩ := h
    rw [simple_eq hs hv]; exact .simple hs
  | false =>
    rw [hs] at h
    simp only [cond_false] at h
    split at h
    · rename_i r t0
      cases hg : isRegB (hget H r) with
      | false => rw [hg] at h; cases h
      | true =>
        rw [hg] at h
        simp only [cond_true, Option.some.injEq, Prod.mk.injEq] at h
        obtain ⟨rfl, rfl, rfl⟩ := h
        obtain ⟨im, him, ht⟩ := VR.top_inv (r := r) (t := t0) hv
        exact ht.mono fun b x hx => fmU_reg hok (by simp) (hS r (by simp)) hg him hx
    · rename_i k n _
      split at h
      · rename_i x cs ty hx hg
        cases hr : (x.rs.all fun r => isRegB (hget H r)) with
        | false => rw [hr] at h; cases h
        | true =>
          rw [hr] at h
          simp only [cond_true, Option.some.injEq, Prod.mk.injEq] at h
          obtain ⟨rfl, rfl, rfl⟩ := h
          obtain ⟨⟨h2, h3⟩, _⟩ := hL
          have hkS := hS k (by simp)
          obtain ⟨im, arr, him, _, hoff, harr, hle, _, hcells⟩ := own_cells hok hkS hg
          cases hv with
          | slice har a b _ =>
            obtain ⟨im2, him2, _, rfl⟩ := har
            rw [him] at him2; cases him2
            rw [hoff]
            refine TRv.slice (o := 0) a b ((fmU_own (by simp) hg trivial him).trans harr) (fun i hi => by omega) fun i v v' hv hv' => ?_
            simp only [Nat.zero_add] at hv'
            have hi : i < cs.size := by rw [h2]; exact (Array.getElem?_eq_some_iff.1 hv).1
            obtain ⟨u, hu1, hu2⟩ := hcells i cs[i] (by simp [hi])
            rw [hv'] at hu1; cases hu1
            exact cellR_TRv hok (fun r hr => List.mem_cons_of_mem _ hr) hS hr (h3 i _ _ (by simp [hi]) hv) hu2
      · cases h
    · rename_i k o
      split at h
      · rename_i x cs ty hx hg
        cases hr : (x.rs.all fun r => isRegB (hget H r)) with
        | false => rw [hr] at h; cases h
        | true =>
          rw [hr] at h
          simp only [cond_true, Option.some.injEq, Prod.mk.injEq] at h
          obtain ⟨rfl, rfl, rfl⟩ := h
          obtain ⟨⟨h2, h3⟩, _⟩ := hL
          have hkS := hS k (by simp)
          obtain ⟨im, arr, him, _, hoff, harr, hle, _, hcells⟩ := own_cells hok hkS hg
          cases hv with
          | ptr har =>
            obtain ⟨im2, him2, _, rfl⟩ := har
            rw [him] at him2; cases him2
            rw [hoff]
            refine TRv.ptr (o := 0) ((fmU_own (by simp) hg trivial him).trans harr) (fun i hi => by omega) fun i v v' hv hv' => ?_
            simp only [Nat.zero_add] at hv'
            have hi : i < cs.size := by rw [h2]; exact (Array.getElem?_eq_some_iff.1 hv).1
            obtain ⟨u, hu1, hu2⟩ := hcells i cs[i] (by simp [hi])
            rw [hv'] at hu1; cases hu1
            exact cellR_TRv hok (fun r hr => List.mem_cons_of_mem _ hr) hS hr (h3 i _ _ (by simp [hi]) hv) hu2
      · cases h
    · cases h
theorem stripL_sound {f : Value → Option (Value × List Nat × List Prop)} (hf : ∀ v v' t R L, f v = some (t, R, L) → AllP L → (∀ r ∈ R, S r) → VR μ v v' → TRv (fmU μ H w R) t v') : ∀ (l : List Value) (ts : List Value) (R : List Nat) (L : List Prop) (l' : List Value), stripL f l = some (ts, R, L) → AllP L → (∀ r ∈ R, S r) → l.length = l'.length → (∀ (i : Nat) v v', l[i]? = some v → l'[i]? = some v' → VR μ v v') →
    ts.length = l'.length ∧ ∀ (i : Nat) v v', ts[i]? = some v → l'[i]? = some v' → TRv (fmU μ H w R) v v'
  | [], ts, R, L, l', h, hL, hS, hl, hv => by
    simp only [stripL, Option.some.injEq, Prod.mk.injEq] at h
    obtain ⟨rfl, rfl, rfl⟩ := h
    exact ⟨hl, fun i v v' h => by simp at h⟩
  | v :: l, ts, R, L, [], h, hL, hS, hl, hv => by simp at hl
  | v :: l, ts, R, L, v' :: l', h, hL, hS, hl, hv => by
    simp only [stripL] at h
    split at h
    · rename_i t R1 L1 h1
      split at h
      · rename_i ts2 R2 L2 h2
        simp only [Option.some.injEq, Prod.mk.injEq] at h
        obtain ⟨rfl, rfl, rfl⟩ := h
        obtain ⟨a, b⟩ := allP_append hL
        have k1 := hf v v' t R1 L1 h1 a (fun r hr => hS r (List.mem_append_left _ hr)) (hv 0 v v' rfl rfl)
        obtain ⟨k2, k3⟩ := stripL_sound hf l ts2 R2 L2 l' h2 b (fun r hr => hS r (List.mem_append_right _ hr)) (by simpa using hl) fun i u u' x y => hv (i + 1) u u' (by simpa using x) (by simpa using y)
        refine ⟨by simp [k2], fun i u u' x y => ?_⟩
        cases i with
        | zero =>
          simp only [List.getElem?_cons_zero, Option.some.injEq] at x y
          subst x y
          exact k1.mono fun b x hx => fmU_mono (fun i hi => List.mem_append_left _ hi) hx
        | succ i =>
          exact (k3 i u u' (by simpa using x) (by simpa using y)).mono fun b x hx => fmU_mono (fun i hi => List.mem_append_right _ hi) hx
      · cases h
    · cases h
theorem stripV_sound (hok : Ok B S μ (hget H) w) : ∀ (f : Nat) (v v' t : Value) (R : List Nat) (L : List Prop), stripV H fz f v = some (t, R, L) → AllP L → (∀ r ∈ R, S r) → VR μ v v' → TRv (fmU μ H w R) t v'
  | 0, v, v', t, R, L, h, hL, hS, hv => stripS_sound hok h hL hS hv
  | f + 1, v, v', t, R, L, h, hL, hS, hv => by
    have arr : ∀ {xs xs' : Array Value} {l : List Value} {R : List Nat} {L : List Prop}, stripL (stripV H fz f) xs.toList = some (l, R, L) → AllP L → (∀ r ∈ R, S r) → xs.size = xs'.size → (∀ (i : Nat) v v', xs[i]? = some v → xs'[i]? = some v' → VR μ v v') → l.toArray.size = xs'.size ∧ ∀ (i : Nat) v v', l.toArray[i]? = some v → xs'[i]? = some v' → TRv (fmU μ H w R) v v' := by
      intro xs xs' l R L h hL hS hs hx
      obtain ⟨a, b⟩ := stripL_sound (fun v v' t R L => stripV_sound hok f v v' t R L) xs.toList l R L xs'.toList h hL hS (by simpa using hs) fun i v v' x y => hx i v v' (by simpa using x) (by simpa using y)
      exact ⟨by simpa using a, fun i v v' x y => b i v v' (by simpa using x) (by simpa using y)⟩
    cases v with
    | agg xs =>
      simp only [stripV] at h
      split at h
      · rename_i l R1 L1 hl
        simp only [Option.some.injEq, Prod.mk.injEq] at h
        obtain ⟨rfl, rfl, rfl⟩ := h
        cases hv with
        | agg h1 h2 => exact .agg (arr hl hL hS h1 h2).1 (arr hl hL hS h1 h2).2
      · cases h
    | tuple xs =>
      simp only [stripV] at h
      split at h
      · rename_i l R1 L1 hl
        simp only [Option.some.injEq, Prod.mk.injEq] at h
        obtain ⟨rfl, rfl, rfl⟩ := h
        cases hv with
        | tuple h1 h2 => exact .tuple (arr hl hL hS h1 h2).1 (arr hl hL hS h1 h2).2
      · cases h
    | iface ty x =>
      simp only [stripV] at h
      split at h
      · rename_i l R1 L1 hl
        simp only [Option.some.injEq, Prod.mk.injEq] at h
        obtain ⟨rfl, rfl, rfl⟩ := h
        cases hv with
        | iface hv => exact .iface (stripV_sound hok f _ _ _ _ _ hl hL hS hv)
      · cases h
    | func fn xs ys =>
      cases fn with
      | func g =>
        simp only [stripV] at h
        split at h
        · rename_i l R1 L1 hl
          split at h
          · rename_i m R2 L2 hm
            simp only [Option.some.injEq, Prod.mk.injEq] at h
            obtain ⟨rfl, rfl, rfl⟩ := h
            obtain ⟨a, b⟩ := allP_append hL
            cases hv with
            | func h1 h2 h3 h4 =>
              have k1 := arr hl a (fun r hr => hS r (List.mem_append_left _ hr)) h1 h3
              have k2 := arr hm b (fun r hr => hS r (List.mem_append_right _ hr)) h2 h4
              exact .func k1.1 k2.1 (fun i v v' x y => (k1.2 i v v' x y).mono fun b x hx => fmU_mono (fun i hi => List.mem_append_left _ hi) hx)
                (fun i v v' x y => (k2.2 i v v' x y).mono fun b x hx => fmU_mono (fun i hi => List.mem_append_right _ hi) hx)
          · cases h
        · cases h
      | _ => exact stripS_sound (fz := fz) hok (by exact h) hL hS hv
    | _ => exact stripS_sound (fz := fz) hok (by exact h) hL hS hv
end
theorem Post.region {B n : Nat} {S : Nat → Prop} {μ : Mu} {H : Heap} {w w' : World} (hok : Ok B S μ (hget H) w) (hS : ∀ i, S i → i < n) (hf : μ n = none) (hbel : Below w.heap.size w w') (fm : Nat → Option Obj) (hfm : ∀ b x, fm b = some x → w'.heap[b]? = some x)
    (hfr : ∀ b x, fm b = some x → w.heap.size ≤ b ∨ ∃ k kim ko, S k ∧ hget H k = some ko ∧ isReg ko ∧ μ k = some kim ∧ kim.fm b = some x) : Post B S n (n + 1) [] μ (upd μ n ⟨0, 0, 0, false, fm⟩) H ((n, regO) :: H) w w' := by
  have hp := Post.ofBelow (n := n) hok hbel
  have hne : ∀ i, S i → i ≠ n := fun i hi => by have := hS i hi; omega
  have hmu : ∀ i, S i → upd μ n ⟨0, 0, 0, false, fm⟩ i = μ i := fun i hi => by simp [upd, hne i hi]
  have hg : ∀ i, S i → hget ((n, regO) :: H) i = hget H i := fun i hi => by rw [hget_cons, if_neg (hne i hi)]
  have hgn : hget ((n, regO) :: H) n = some regO := by rw [hget_cons, if_pos rfl]
  have isn : ∀ i, (n ≤ i ∧ i < n + 1) → i = n := fun i hi => by omega
  refine ⟨⟨fun i o hi ho hl => ?_, fun i o im hi ho hl him => ?_, fun i j oi oj a b hi hj hij hoi hoj hli hlj ha hb hra hrb => ?_, fun i o hi ho hr => ?_, fun i j oi oj a b x hi hj hoi hoj hri hlj ha hb hrb hx => ?_⟩, by omega, fun i hi => ?_, fun i hi _ => ?_, hbel.size, fun b hb _ => hbel.block b hb, fun i hi => by simp at hi,
    fun i im o h1 h2 ho hl him => ?_, fun i im o hi ho hr him b x hx => ?_, hbel.os, hbel.tape, hbel.output⟩
  · rcases hi with hi | hi
    · rw [hg i hi] at ho
      obtain ⟨im, him, hr⟩ := hp.ok.rel i o (.inl hi) ho hl
      exact ⟨im, by rw [hmu i hi]; exact him, hr.keep (upd_ext hf) rfl⟩
    · rw [isn i hi, hgn] at ho; cases ho; exact hl.elim
  · rcases hi with hi | hi
    · rw [hg i hi] at ho
      rw [hmu i hi] at him
      exact hp.ok.low i o im (.inl hi) ho hl him
    · rw [isn i hi, hgn] at ho; cases ho; exact hl.elim
  · rcases hi with hi | hi
    · rcases hj with hj | hj
      · rw [hg i hi] at hoi
        rw [hg j hj] at hoj
        rw [hmu i hi] at ha
        rw [hmu j hj] at hb
        exact hok.inj i j oi oj a b hi hj hij hoi hoj hli hlj ha hb hra hrb
      · rw [isn j hj, hgn] at hoj; cases hoj; exact hlj.elim
    · rw [isn i hi, hgn] at hoi; cases hoi; exact hli.elim
  · rcases hi with hi | hi
    · rw [hg i hi] at ho
      obtain ⟨im, him, h⟩ := hp.ok.reg i o (.inl hi) ho hr
      exact ⟨im, by rw [hmu i hi]; exact him, h⟩
    · rw [isn i hi]
      exact ⟨_, upd_self, hfm⟩
  · have hjS : S j := hj.elim id fun h => by rw [isn j h, hgn] at hoj; cases hoj; exact hlj.elim
    rw [hg j hjS] at hoj
    rw [hmu j hjS] at hb
    rcases hi with hi | hi
    · rw [hg i hi] at hoi
      rw [hmu i hi] at ha
      exact hok.sep i j oi oj a b x hi hjS hoi hoj hri hlj ha hb hrb hx
    · rw [isn i hi, upd_self] at ha; cases ha
      rcases hfr _ _ hx with h | ⟨k, kim, ko, h1, h2, h3, h4, h5⟩
      · have := (hok.low j oj b hjS hoj hlj hb).1
        omega
      · exact hok.sep k j ko oj kim b x h1 hjS h2 hoj h3 hlj h4 hb hrb h5
  · simp only [upd]; rw [if_neg (by omega)]
  · rw [hget_cons, if_neg (by omega)]
  · rw [isn i ⟨h1, h2⟩, hgn] at ho; cases ho; exact hl.elim
  · have hin := isn i (hi.elim id fun h => by simp at h)
    subst hin
    rw [upd_self] at him; cases him
    rcases hfr b x hx with h | ⟨k, kim, ko, h1, h2⟩
    · exact .inl h
    · exact .inr (.inl ⟨k, kim, ko, h1, hS k h1, h2⟩)
end Go.CE

namespace Go.CE
open Go Go.RowKit

inductive HintT where
  | old (h : Hint)
  | tidx (k : Nat) (es : Array Value)
  | tslc (k m' : Nat) (cs' : Array Value)
  | pure (out : Value) (fz : List Fz)
  | bin (v : Value)
  | call (keys : List Nat) (out : OO) (ups : Heap) (n' : Nat) (W : List Nat)
  | eval (s : Rs)
def treeOp (P : Program) (T : Tm) (o : Oper) : Option (Value × Nat) := match o.op with
  | .call c => match c.callee with
    | .builtin .len => match c.args.toList, c.argTypes.toList with
      | [x], [t] => match evC T x with
        | some v => match topSl v, und P t with
          | some (r, k, _), some (.slice _) => some (.int .i64 k, r)
          | _, _ => none
        | none => none
      | _, _ => none
    | _ => none
  | .fieldAddr s x f => match evC T x with
    | some v => match topPt v with
      | some (r, off, cs) => match cFieldAddr P s f (.pointer (some ⟨0, off, none⟩)) with
        | some (.pointer (some ⟨0, off', none⟩)) => some (topV r (ptT off' cs), r)
        | _ => none
      | none => none
    | none => none
  | .load t x => match evC T x with
    | some v => match topPt v with
      | some (r, off, cs) => match cPart P t cs off with
        | some v => bif okT 4 v then some (pushT r 4 v, r) else none
        | none => none
      | none => none
    | none => none
  | _ => none
def BinTo (P : Program) (op : BinOp) (t : TypeId) (a b v : Value) : Prop := ∀ (x y : Operand) (w : World), (do eqGuard op t x y a b; binOp op t a b : Sem Value).run P w = .ok v w
def opT (P : Program) (F : FuncId → Bool) (J : World → Prop) (B : Lo) (T : Tm) (o : Oper) (H : Heap) (n : Nat) : Option HintT → Option Told
  | none => match treeOp P T o with
    | some (v, r) => bif Nat.blt r n && isRegB (hget H r) then some ⟨⟨.ret v, H, n, [r], []⟩, none⟩ else none
    | none => opH P F B T o H n none
  | some (.old h) => opH P F B T o H n (some h)
  | some (.tidx k es) => match o.op with
    | .indexAddr t x i => match evC T x, evC T i with
      | some v, some (.int _ q) => match topSl v, und P t with
        | some (r, m, cs), some (.slice e) => match szOf P e with
          | some z => bif Nat.blt r n && isRegB (hget H r) then some ⟨⟨.ret (topV r (ptT 0 es)), H, n, [r], []⟩, some (q = (k : Int) ∧ k < m ∧ cs.extract (k * z) (k * z + z) = es)⟩ else none
          | none => none
        | _, _ => none
      | _, _ => none
    | _ => none
  | some (.tslc k m' cs') => match o.op with
    | .slice t x (some lo) none none => match evC T x, evC T lo with
      | some v, some (.int _ q) => match topSl v, und P t with
        | some (r, m, cs), some (.slice e) => match szOf P e with
          | some z => bif Nat.blt r n && isRegB (hget H r) then some ⟨⟨.ret (topV r (slT m' cs')), H, n, [r], []⟩, some (q = (k : Int) ∧ k < m ∧ m' = m - k ∧ cs.extract (k * z) cs.size = cs')⟩ else none
          | none => none
        | _, _ => none
      | _, _ => none
    | _ => none
  | some (.eval s) => some ⟨s, some (opS P F noOrc (fun _ _ _ => none) T o H n = some s)⟩
  | some (.bin v) => match o.op with
    | .binOp op t x y _ => match evC T x, evC T y with
      | some a, some b => bif af a && af b && af v then some ⟨⟨.ret v, H, n, [], []⟩, some (BinTo P op t a b v)⟩ else none
      | _, _ => none
    | _ => none
  | some (.call keys out ups n' W) => match o.op with
    | .call _ => match copR P F (evC T) o H n with
      | some ⟨.enter g args, H1, n1, R, W1⟩ => bif Nat.beq n1 n && W1.isEmpty then
          match enterC P g args with
          | some c1 => some ⟨⟨out, ups ++ H1, n', R ++ keys, W⟩, some (FJ P B c1 H1 n out (ups ++ H1) n' keys W)⟩
          | none => none
        else none
      | some ⟨.round l fn tm a b, H1, n1, R, W1⟩ => bif Nat.beq n1 n && W1.isEmpty && Nat.ble tm.size 16000 then some ⟨⟨out, ups ++ H1, n', R ++ keys, W⟩, some (FJ P B ⟨fn, ofList tm.size tm.toList, [.code a, .beginRound, .code b], [], .run, some l⟩ H1 n out (ups ++ H1) n' keys W)⟩ else none
      | _ => none
    | _ => none
  | some (.pure out fz) => match o.op with
    | .call _ => match copR P F (evC T) o H n with
      | some ⟨.enter g args, H1, n1, R, W1⟩ => bif Nat.beq n1 n && W1.isEmpty then
          match stripL (stripV H1 fz 3) args.toList with
          | some (ts, R2, L) => bif R2.all fun i => Nat.blt i n then
              bif plainT 2 out then some ⟨⟨.ret out, H1, n, R ++ R2, []⟩, some (AllP L ∧ PureC P J g ts.toArray out)⟩
              else bif (R2.all fun i => isRegB (hget H1 i)) && okT 4 out then some ⟨⟨.ret (pushT n 4 out), (n, regO) :: H1, n + 1, R ++ R2, []⟩, some (AllP L ∧ PureC P J g ts.toArray out)⟩ else none
            else none
          | none => none
        else none
      | _ => none
    | _ => none
section
variable {P : Program} {F : FuncId → Bool} {J : World → Prop} {B : Lo} {T : Tm} {o : Oper} {H : Heap} {n : Nat}
theorem callJ_does (hF : ∀ g, F g = true → okFn P g = true) {c : Call} (hop : o.op = .call c) (hu : Under H n) {g : FuncId} {args : Array Value} {H1 H2 : Heap} {R keys W : List Nat} {n' : Nat} {out : OO} (hcr : copR P F (evC T) o H n = some ⟨.enter g args, H1, n, R, []⟩) (hcj : CallJ P B g args H1 n out H2 n' keys W) :
    Does P B o (evC T) H n out H2 n' (R ++ keys) W ∧ Shape H n H2 n' (R ++ keys) W := by
  have horc : OrcS P B (fun g' a' H' m' => open Classical in if g' = g ∧ a' = args ∧ H' = H1 ∧ m' = n then some ⟨out, H2, n', keys, W⟩ else none) := by
    intro g' a' H' m' s _ h
    simp only at h
    split at h
    · rename_i q
      obtain ⟨rfl, rfl, rfl, rfl⟩ := q
      simp only [Option.some.injEq] at h
      subst h
      exact hcj
    · cases h
  have := opS_sound hF recS_none horc hu (T := T) (o := o) (s := ⟨out, H2, n', R ++ keys, W⟩) (by simp [opS, hop, hcr])
  exact this
theorem FJ.callJ {g : FuncId} {args : Array Value} {c0 : CF} {H' : Heap} {n' : Nat} {R W : List Nat} {out : OO} (hc : enterC P g args = some c0) (h : FJ P B c0 H n out H' n' R W) : CallJ P B g args H n out H' n' R W :=
  ⟨h.shape, fun S μ w args' cs hok hB hS hf ha hR => h.sem S μ w (Frame.enter P g args' .normal) cs hok hB hS hf (enterC_FrR hc ha) hR⟩
theorem FJ.recS {c : CF} {H1 : Heap} {n n' : Nat} {out : OO} {ups : Heap} {W keys : List Nat} (h : FJ P B c H1 n out (ups ++ H1) n' keys W) : RecS P B (recOne c H1 n ⟨out, ups ++ H1, n', keys, W⟩) := by
  intro c' H' m' s _ hs
  unfold recOne at hs
  split at hs
  · rename_i q
    obtain ⟨rfl, rfl, rfl⟩ := q
    simp only [Option.some.injEq] at hs
    subst hs
    exact h
  · cases hs
theorem pure_calls (hJ : ∀ w, B.has w → J w) {g : FuncId} {args : Array Value} {fz : List Fz} {H1 : Heap} {ts : List Value} {R2 : List Nat} {L : List Prop} {out : Value} (hst : stripL (stripV H1 fz 3) args.toList = some (ts, R2, L)) (hL : AllP L) (hp : PureC P J g ts.toArray out)
    {S : Nat → Prop} {μ : Mu} {w : World} {args' : Array Value} (hok : Ok B.B S μ (hget H1) w) (hB : B.has w) (hv : VRs μ args args') (hS : ∀ r ∈ R2, S r) : Calls P g args' w fun e w' => ∃ v', e = .returned v' ∧ Below w.heap.size w w' ∧ TRv (fmOr (fmU μ H1 w R2) w w') out v' := by
  obtain ⟨a, b⟩ := stripL_sound (fun v v' t R L h1 h2 h3 h4 => stripV_sound hok 3 v v' t R L h1 h2 h3 h4) args.toList ts R2 L args'.toList hst hL hS (by simpa using hv.1) fun i v v' x y => hv.2 i v v' (by simpa using x) (by simpa using y)
  exact hp (fmU μ H1 w R2) w args' (hJ w hB) (fun b x h => fmU_world h) ⟨by simpa using a, fun i v v' x y => b i v v' (by simpa using x) (by simpa using y)⟩
theorem pure_plain (hJ : ∀ w, B.has w → J w) {g : FuncId} {args : Array Value} {fz : List Fz} {H1 : Heap} {ts : List Value} {R2 : List Nat} {L : List Prop} {out : Value} (hst : stripL (stripV H1 fz 3) args.toList = some (ts, R2, L)) (hL : AllP L) (hp : PureC P J g ts.toArray out) (hpl : plainT 2 out = true) (hlt : (R2.all fun i => Nat.blt i n) = true) :
    CallJ P B g args H1 n (.ret out) H1 n R2 [] := by
  refine ⟨Shape.same _ _ _, fun S μ w args' cs hok hB hS _ ha hR => ?_⟩
  obtain ⟨e, w1, fr, ⟨v', rfl, hb, ht⟩, hc, hf, hl⟩ := pure_calls hJ hst hL hp hok hB ha (fun r hr => hR r hr (Nat.le_of_ble_eq_true (List.all_eq_true.1 hlt r hr))) cs
  refine ⟨.ret v', w1, μ, Post.ofBelow hok hb, .ret (plainT_VR 2 out v' hpl ht), fun _ => ⟨fr, hc, by rw [hf]; rfl, hl⟩, fun c cs' e => ?_⟩
  subst e
  exact Steps.trans hc (.one (step_leave_returned hl))
theorem pure_region (hJ : ∀ w, B.has w → J w) {g : FuncId} {args : Array Value} {fz : List Fz} {H1 : Heap} {ts : List Value} {R2 : List Nat} {L : List Prop} {out : Value} (hst : stripL (stripV H1 fz 3) args.toList = some (ts, R2, L)) (hL : AllP L) (hp : PureC P J g ts.toArray out) (hlt : (R2.all fun i => Nat.blt i n) = true)
    (hreg : (R2.all fun i => isRegB (hget H1 i)) = true) (ho : okT 4 out = true) : CallJ P B g args H1 n (.ret (pushT n 4 out)) ((n, regO) :: H1) (n + 1) R2 [] := by
  refine ⟨Shape.new _ _ _ _, fun S μ w args' cs hok hB hS hf ha hR => ?_⟩
  have hSR : ∀ r ∈ R2, S r := fun r hr => hR r hr (Nat.le_of_ble_eq_true (List.all_eq_true.1 hlt r hr))
  obtain ⟨e, w1, fr, ⟨v', rfl, hb, ht⟩, hc, hfn, hl⟩ := pure_calls hJ hst hL hp hok hB ha hSR cs
  have hfm : ∀ b x, fmOr (fmU μ H1 w R2) w w1 b = some x → w1.heap[b]? = some x := by
    intro b x h
    unfold fmOr at h
    split at h
    · rename_i hlt
      rw [hb.block b hlt]; exact fmU_world h
    · exact h
  have hpost := Post.region (n := n) hok hS (hf n (Nat.le_refl _) (by omega)) hb (fmOr (fmU μ H1 w R2) w w1) hfm fun b x h => by
    unfold fmOr at h
    split at h
    · refine .inr ?_
      have hw := fmU_world h
      unfold fmU at h
      split at h
      · rename_i hc
        obtain ⟨i, hi, o, im, ho, him, hcase⟩ := hc
        obtain ⟨o', ho', hr'⟩ := isRegB_spec (List.all_eq_true.1 hreg i hi)
        rw [ho] at ho'; cases ho'
        rcases hcase with ⟨_, hne⟩ | ⟨hl, _⟩
        · cases hx : im.fm b with
          | none => exact absurd hx hne
          | some y =>
            obtain ⟨im', him', hf'⟩ := hok.reg i o (hSR i hi) ho hr'
            rw [him] at him'; cases him'
            have := hf' b y hx
            rw [hw] at this; cases this
            exact ⟨i, im, o, hSR i hi, ho, hr', him, hx⟩
        · exact absurd hl (by cases o <;> first | exact id | exact hr'.elim)
      · cases h
    · rename_i hge
      exact .inl (Nat.le_of_not_lt hge)
  refine ⟨.ret v', w1, _, hpost, .ret (pushT_VR upd_self 4 out v' ho ht), fun _ => ⟨fr, hc, by rw [hfn]; rfl, hl⟩, fun c cs' e => ?_⟩
  subst e
  exact Steps.trans hc (.one (step_leave_returned hl))
theorem does_tree {r : Nat} {v : Value} (hlt : r < n) (hreg : isRegB (hget H r) = true) (hd : ∀ c, o.op ≠ .defer c)
    (h : ∀ (μ : Mu) (w : World) (ρ : Operand → Value) (im : Img), μ r = some im → (∀ b x, im.fm b = some x → w.heap[b]? = some x) → (∀ x ∈ o.op.operands, ∀ v, evC T x = some v → VR μ v (ρ x)) → ∃ v', (execOp ρ o).run P w = .ok (.value v') w ∧ VR μ v v') :
    Does P B o (evC T) H n (.ret v) H n [r] [] := fun S μ w fr _ _ _ _ _ hok hB _ _ hev hR hm ht ho hw => by
  obtain ⟨x, hx, hr⟩ := isRegB_spec hreg
  obtain ⟨im, him, hf⟩ := hok.reg r x (hR r (by simp) hlt) hx hr
  obtain ⟨v', h1, h2⟩ := h μ w fr.eval im him hf hev
  exact ⟨.ret v', w, μ, Post.refl hok, .ret h2, opTo_value hm ht ho hw hd h1⟩
theorem cPart_tree {fm : Nat → Option Obj} {w : World} (hw : ∀ b x, fm b = some x → w.heap[b]? = some x) {off : Nat} {cs : Array Value} {u v : Value} {t : TypeId} (hu : TRv fm (ptT off cs) u) (h : cPart P t cs off = some v) : ∃ v', (Instr.loadAt t u).run P w = .ok v' w ∧ TRv fm v v' := by
  obtain ⟨b, o, arr, ty, fl, rfl, h1, h2, h3⟩ := hu.ptr_inv
  have hb := hw _ _ h1
  have hcell : ∀ i, i < cs.size → ∃ v', w.cell? ⟨b, o + i, none⟩ = some v' ∧ ∀ v, cs[i]? = some v → TRv fm v v' := by
    intro i hi
    have hlt := h2 i hi
    exact ⟨arr[o + i], by simp [World.cell?, hb, hlt], fun v hv => h3 i v _ hv (by simp [hlt])⟩
  unfold cPart at h
  cases hag : aggT P t with
  | none => rw [hag] at h; cases h
  | some g =>
    rw [hag] at h
    cases g with
    | true =>
      cases hz : szOf P t with
      | none => rw [hz] at h; cases h
      | some z =>
        rw [hz] at h
        dsimp only at h
        cases hb2 : Nat.ble (off + z) cs.size with
        | false => rw [hb2] at h; cases h
        | true =>
          rw [hb2] at h
          simp only [cond_true, Option.some.injEq] at h
          subst h
          have hle := Nat.le_of_ble_eq_true hb2
          have hr := run_loadCells (P := P) w ⟨b, o + off, none⟩ z (fun j => (w.cell? ⟨b, o + (off + j), none⟩).getD undef) (fun j hj => by
            obtain ⟨v', hv', _⟩ := hcell (off + j) (by omega)
            rw [add_none, show o + off + j = o + (off + j) by omega, hv']; rfl)
          refine ⟨.agg _, by simp [Instr.loadAt, Instr.sureAddr, loadVar, aggT_run hag, szOf_run hz, hr]; rfl, .agg (by simp; omega) fun i v v' hv hv' => ?_⟩
          have hi : i < z := by
            have := (Array.getElem?_eq_some_iff.1 hv).1
            simp at this; omega
          obtain ⟨u, h4, h5⟩ := hcell (off + i) (by omega)
          simp [hi, h4] at hv'
          subst hv'
          refine h5 v ?_
          rw [Array.getElem?_extract] at hv
          split at hv
          · exact hv
          · cases hv
    | false =>
      simp only at h
      have hi := (Array.getElem?_eq_some_iff.1 h).1
      obtain ⟨v', hv', ht⟩ := hcell off hi
      exact ⟨v', by simp [Instr.loadAt, Instr.sureAddr, loadVar, aggT_run hag, run_load, hv'], ht v h⟩
theorem treeOp_sound {v : Value} {r : Nat} (e : treeOp P T o = some (v, r)) (hlt : r < n) (hreg : isRegB (hget H r) = true) : Does P B o (evC T) H n (.ret v) H n [r] [] := by
  unfold treeOp at e
  split at e
  · rename_i c hop
    split at e
    · rename_i hc
      split at e
      · rename_i x t ha ht
        split at e
        · rename_i u hx
          split at e
          · rename_i r0 k cs el htop hue
            rw [und_eq] at hue
            simp only [Option.some.injEq, Prod.mk.injEq] at e
            obtain ⟨rfl, rfl⟩ := e
            refine does_tree hlt hreg (fun c h => by rw [hop] at h; cases h) fun μ w ρ im him hf hev => ?_
            have ea : c.args = #[x] := by rw [← ha]
            have et : c.argTypes = #[t] := by rw [← ht]
            have hv := hev x (by simp [hop, Op.operands, Call.operands, hc, ea]) _ hx
            rw [topSl_eq htop] at hv
            obtain ⟨im', _, htr⟩ := hv.top_inv
            have hlen : ∃ a c, ρ x = .slice a k c := by
              rcases htr.slice_inv with ⟨b, o', c', arr, t', fl, h1, _⟩ | ⟨rfl, _, a', c', h1, _⟩
              · exact ⟨_, _, h1⟩
              · exact ⟨_, _, h1⟩
            obtain ⟨a, cp, hv⟩ := hlen
            refine ⟨.int .i64 k, ?_, .int _ _⟩
            simp [execOp, hop, resolve, hc, invoke, builtin, ea, et, hv, Builtin.len_, run_underlying hue, goInt]
          · cases e
        · cases e
      · cases e
    · cases e
  · rename_i s x f hop
    split at e
    · rename_i u hx
      split at e
      · rename_i r0 off cs htop
        split at e
        · rename_i off' hc
          simp only [Option.some.injEq, Prod.mk.injEq] at e
          obtain ⟨rfl, rfl⟩ := e
          refine does_tree hlt hreg (fun c h => by rw [hop] at h; cases h) fun μ w ρ im him hf hev => ?_
          have hv := hev x (by simp [hop, Op.operands]) _ hx
          rw [topPt_eq htop] at hv
          obtain ⟨im', him', htr⟩ := hv.top_inv
          rw [him] at him'; cases him'
          obtain ⟨b, o', arr, ty, fl, h1, h2, h3, h4⟩ := htr.ptr_inv
          have hc2 : ∃ d, off' = off + d ∧ cFieldAddr P s f (.pointer (some ⟨b, o' + off, none⟩)) = some (.pointer (some ⟨b, o' + off + d, none⟩)) := by
            unfold cFieldAddr at hc ⊢
            simp only at hc ⊢
            split at hc
            · split at hc
              · split at hc
                · simp only [Option.some.injEq, Value.pointer.injEq, Addr.mk.injEq, true_and, and_true] at hc
                  rename_i fd hfd _ _ hz
                  refine ⟨fd.offset, hc.symm, ?_⟩
                  simp_all
                · cases hc
              · cases hc
            · cases hc
          obtain ⟨d, rfl, hc2⟩ := hc2
          obtain ⟨_, hr⟩ := cFieldAddr_raw (P := P) hc2 w
          refine ⟨.pointer (some ⟨b, o' + off + d, none⟩), by simp [execOp, hop, h1, hr], .top rfl him ?_⟩
          rw [Nat.add_assoc]
          exact .ptr h2 h3 h4
        · cases e
      · cases e
    · cases e
  · rename_i t x hop
    split at e
    · rename_i u hx
      split at e
      · rename_i r0 off cs htop
        split at e
        · rename_i v0 hc
          cases hok : okT 4 v0 with
          | false => rw [hok] at e; cases e
          | true =>
            rw [hok] at e
            simp only [cond_true, Option.some.injEq, Prod.mk.injEq] at e
            obtain ⟨rfl, rfl⟩ := e
            refine does_tree hlt hreg (fun c h => by rw [hop] at h; cases h) fun μ w ρ im him hf hev => ?_
            have hv := hev x (by simp [hop, Op.operands]) _ hx
            rw [topPt_eq htop] at hv
            obtain ⟨im', him', htr⟩ := hv.top_inv
            rw [him] at him'; cases him'
            obtain ⟨v', h1, h2⟩ := cPart_tree hf htr hc
            exact ⟨v', by simp [execOp, hop, h1], pushT_VR him 4 v0 v' hok h2⟩
        · cases e
      · cases e
    · cases e
  · cases e
theorem sliceLo_run {P : Program} {t e : TypeId} {b off m c z k : Nat} {q : Int} {kk : IntKind} (hu : und P t = some (.slice e)) (hz : szOf P e = some z) (hq : q = (k : Int)) (hk : k < m) (hc : m ≤ c) (w : World) :
    (Instr.sliceAt t (.slice (some ⟨b, off, none⟩) m c) (some (.int kk q)) none none).run P w = .ok (.slice (some ⟨b, off + k * z, none⟩) (m - k) (c - k)) w := by
  rw [und_eq] at hu
  subst hq
  have hb : bnds m (some (.int kk (k : Int))) none = some (k, m) := by
    simp only [bnds, bnd, decide_eq_true (show (0 : Int) ≤ (k : Int) by omega), decide_eq_true (show (k : Int) ≤ (m : Int) by omega), Bool.and_self, cond_true, Int.toNat_natCast]
  obtain ⟨hr, _, _⟩ := bnds_run (P := P) (μ := fun _ => none) (sl := true) (lo' := some (.int kk (k : Int))) (hi' := none) hb (show VR _ _ _ from .int _ _) trivial hc w
  simp only [Instr.sliceAt, Instr.slice, Sem.run_bind, run_underlying hu, Result.andThen_ok, hr, szOf_run hz, Sem.run_pure, Option.map_some, add_none]
  rw [if_neg (by omega)]
theorem opT_sound (hF : ∀ g, F g = true → okFn P g = true) (hJ : ∀ w, B.has w → J w) (hu : Under H n) {h : Option HintT} {a : Told} (e : opT P F J B T o H n h = some a) (hp : ∀ p, a.p = some p → p) :
    Does P B o (evC T) H n a.s.out a.s.H a.s.n a.s.R a.s.W ∧ Shape H n a.s.H a.s.n a.s.R a.s.W := by
  unfold opT at e
  split at e
  · split at e
    · rename_i v r htr
      cases hq : (Nat.blt r n && isRegB (hget H r)) with
      | false => rw [hq] at e; cases e
      | true =>
        rw [hq] at e
        simp only [cond_true, Option.some.injEq] at e
        subst e
        simp only [Bool.and_eq_true] at hq
        exact ⟨treeOp_sound htr (Nat.le_of_ble_eq_true hq.1) hq.2, Shape.same _ _ _⟩
    · exact opH_sound hF hu e hp
  · exact opH_sound hF hu e hp
  · rename_i k es
    split at e
    · rename_i t x i hop
      split at e
      · rename_i u kk q hx hi
        split at e
        · rename_i r m cs el htop hue
          split at e
          · rename_i z hz
            cases hq : (Nat.blt r n && isRegB (hget H r)) with
            | false => rw [hq] at e; cases e
            | true =>
              rw [hq] at e
              simp only [cond_true, Option.some.injEq] at e
              subst e
              simp only [Bool.and_eq_true] at hq
              obtain ⟨hlt, hreg⟩ := hq
              obtain ⟨hqk, hkm, hes⟩ := hp _ rfl
              refine ⟨does_tree (Nat.le_of_ble_eq_true hlt) hreg (fun c h => by rw [hop] at h; cases h) fun μ w ρ im him hf hev => ?_, Shape.same _ _ _⟩
              have hv := hev x (by simp [hop, Op.operands]) _ hx
              have hiv := int_VR (hev i (by simp [hop, Op.operands]) _ hi)
              rw [topSl_eq htop] at hv
              obtain ⟨im', him', htr⟩ := hv.top_inv
              rw [him] at him'; cases him'
              have hcase := htr.slice_inv
              rcases hcase with ⟨b, o', c', arr, ty, fl, h1, h2, h3, h4, h5, h6⟩ | ⟨rfl, _⟩
              · have hess : k * z + es.size ≤ cs.size ∨ es.size = 0 := by rw [← hes]; simp; omega
                refine ⟨.pointer (some ⟨b, o' + k * z, none⟩), by simp [execOp, hop, h1, hiv, index_run hue hz hqk hkm], .top rfl him ?_⟩
                refine TRv.ptr (o := o' + k * z) (off := 0) h4 (fun i hi => ?_) fun i v v' hv hv' => ?_
                · have := h5 (k * z + i) (by omega)
                  omega
                · rw [← hes, Array.getElem?_extract] at hv
                  split at hv
                  · refine h6 (k * z + i) v v' hv ?_
                    rw [← hv', Nat.add_assoc]
                  · cases hv
              · omega
          · cases e
        · cases e
      · cases e
    · cases e
  · rename_i k m' cs'
    split at e
    · rename_i t x lo hop
      split at e
      · rename_i u kk q hx hi
        split at e
        · rename_i r m cs el htop hue
          split at e
          · rename_i z hz
            cases hq : (Nat.blt r n && isRegB (hget H r)) with
            | false => rw [hq] at e; cases e
            | true =>
              rw [hq] at e
              simp only [cond_true, Option.some.injEq] at e
              subst e
              simp only [Bool.and_eq_true] at hq
              obtain ⟨hlt, hreg⟩ := hq
              obtain ⟨hqk, hkm, hm', hes⟩ := hp _ rfl
              refine ⟨does_tree (Nat.le_of_ble_eq_true hlt) hreg (fun c h => by rw [hop] at h; cases h) fun μ w ρ im him hf hev => ?_, Shape.same _ _ _⟩
              have hv := hev x (by simp [hop, Op.operands]) _ hx
              have hiv := int_VR (hev lo (by simp [hop, Op.operands]) _ hi)
              rw [topSl_eq htop] at hv
              obtain ⟨im', him', htr⟩ := hv.top_inv
              rw [him] at him'; cases him'
              have hcase := htr.slice_inv
              rcases hcase with ⟨b, o', c', arr, ty, fl, h1, h2, h3, h4, h5, h6⟩ | ⟨rfl, _⟩
              · refine ⟨.slice (some ⟨b, o' + k * z, none⟩) (m - k) (c' - k), by simp [execOp, hop, h1, hiv, sliceLo_run hue hz hqk hkm h2], .top rfl him ?_⟩
                rw [hm']
                refine TRv.slice (o := o' + k * z) (by omega) (by omega) h4 (fun i hi => ?_) fun i v v' hv hv' => ?_
                · rw [← hes, Array.size_extract] at hi
                  have := h5 (k * z + i) (by omega)
                  omega
                · rw [← hes, Array.getElem?_extract] at hv
                  split at hv
                  · refine h6 (k * z + i) v v' hv ?_
                    rw [← hv', Nat.add_assoc]
                  · cases hv
              · omega
          · cases e
        · cases e
      · cases e
    · cases e
  · rename_i s
    simp only [Option.some.injEq] at e
    subst e
    exact opS_sound hF recS_none (noOrc_ok P B) hu (hp _ rfl)
  · rename_i v
    split at e
    · rename_i op t x y yt hop
      split at e
      · rename_i a b hx hy
        cases hq : (af a && af b && af v) with
        | false => rw [hq] at e; cases e
        | true =>
          rw [hq] at e
          simp only [cond_true, Option.some.injEq] at e
          subst e
          simp only [Bool.and_eq_true] at hq
          have hb := hp _ rfl
          refine ⟨does_val (fun c h => by rw [hop] at h; cases h) fun μ w ρ _ hev => ?_, Shape.same _ _ _⟩
          have e1 := af_eq hq.1.1 (hev x (by simp [hop, Op.operands]) _ hx)
          have e2 := af_eq hq.1.2 (hev y (by simp [hop, Op.operands]) _ hy)
          refine ⟨v, ?_, vr_af hq.2⟩
          simp only [execOp, hop, e1, e2]
          rw [Sem.run_bind, hb x y w]
          rfl
      · cases e
    · cases e
  · rename_i keys out ups n' W
    split at e
    · rename_i c hop
      split at e
      · rename_i g args H1 n1 R W1 hcr
        cases hn : (Nat.beq n1 n && W1.isEmpty) with
        | false => rw [hn] at e; cases e
        | true =>
          rw [hn] at e
          simp only [cond_true] at e
          simp only [Bool.and_eq_true, List.isEmpty_iff] at hn
          obtain ⟨hn1, rfl⟩ := hn
          have hn1 := Nat.eq_of_beq_eq_true hn1
          subst hn1
          split at e
          · rename_i c1 hc1
            simp only [Option.some.injEq] at e
            subst e
            exact callJ_does hF hop hu hcr ((hp _ rfl).callJ hc1)
          · cases e
      · rename_i l fn tm cda cdb H1 n1 R W1 hcr
        cases hn : (Nat.beq n1 n && W1.isEmpty && Nat.ble tm.size 16000) with
        | false => rw [hn] at e; cases e
        | true =>
          rw [hn] at e
          simp only [cond_true, Option.some.injEq] at e
          subst e
          simp only [Bool.and_eq_true, List.isEmpty_iff] at hn
          obtain ⟨⟨hn1, rfl⟩, hsz⟩ := hn
          have hn1 := Nat.eq_of_beq_eq_true hn1
          subst hn1
          have hrec := FJ.recS (hp _ rfl)
          have := opS_sound hF hrec (noOrc_ok P B) hu (T := T) (o := o) (s := ⟨out, ups ++ H1, n', R ++ keys, W⟩) (by
            simp [opS, hop, hcr, hsz, recOne_eq])
          exact this
      · cases e
    · cases e
  · rename_i out fz
    split at e
    · rename_i c hop
      split at e
      · rename_i g args H1 n1 R W1 hcr
        cases hn : (Nat.beq n1 n && W1.isEmpty) with
        | false => rw [hn] at e; cases e
        | true =>
          rw [hn] at e
          simp only [cond_true] at e
          simp only [Bool.and_eq_true, List.isEmpty_iff] at hn
          obtain ⟨hn1, rfl⟩ := hn
          have hn1 := Nat.eq_of_beq_eq_true hn1
          subst hn1
          split at e
          · rename_i ts R2 L hst
            cases hlt : (R2.all fun i => Nat.blt i n1) with
            | false => rw [hlt] at e; cases e
            | true =>
              rw [hlt] at e
              simp only [cond_true] at e
              cases hpl : plainT 2 out with
              | true =>
                rw [hpl] at e
                simp only [cond_true, Option.some.injEq] at e
                subst e
                obtain ⟨hL, hpc⟩ := hp _ rfl
                exact callJ_does hF hop hu hcr (pure_plain hJ hst hL hpc hpl hlt)
              | false =>
                rw [hpl] at e
                simp only [cond_false] at e
                cases hq : ((R2.all fun i => isRegB (hget H1 i)) && okT 4 out) with
                | false => rw [hq] at e; cases e
                | true =>
                  rw [hq] at e
                  simp only [cond_true, Option.some.injEq] at e
                  subst e
                  simp only [Bool.and_eq_true] at hq
                  obtain ⟨hL, hpc⟩ := hp _ rfl
                  exact callJ_does hF hop hu hcr (pure_region hJ hst hL hpc hlt hq.1 hq.2)
          · cases e
      · cases e
    · cases e
end
end Go.CE
