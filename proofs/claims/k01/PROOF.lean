import PyProof.Rows.All
import Wide.All
import OpenK.AllK
import Wide.FinOn
import HandS.ForMost
import HandS.ForExc
import HandS.Wide
import HandS.WideBits
import HandS.ExcInit
import HandS.IsInst
import HandS.Defaults
import HandS.ExcField
import HandS.More
import KE.KExcIs
import KE.KExcMake
import HandS.MakeKw
import HandS.Style
import PyProof.StrOps2
import PySem.Challenge.RW_depthquestions_k01_errors_by_their_class
set_option Elab.async false
set_option linter.all false
set_option maxRecDepth 100000
set_option maxHeartbeats 4000000
namespace DQ
open PySem PySem.Spec PyProof.Rows L2
def topS (i : Nat) : Stmt := PySem.Challenge.pw_depthquestions_k01_errors_by_their_class.main.body.getD i (.Pass ⟨0, 0, 0, 0⟩)
abbrev sHash : Stmt := topS 17
abbrev sRandom : Stmt := topS 18
abbrev sCell : Stmt := topS 19
abbrev sGenerator : Stmt := topS 20
theorem scHash : FnScope ["seed", "index", "mixed"] ["seed", "index"] (defScope sHash) := ⟨rfl, rfl, rfl, by decide +kernel, rfl, by decide +kernel, by decide +kernel⟩
theorem scRandom : FnScope ["generator", "bound", "drawn", "turn"] ["generator", "bound"] (defScope sRandom) := ⟨rfl, rfl, rfl, by decide +kernel, rfl, by decide +kernel, by decide +kernel⟩
theorem scCell : FnScope ["script", "index"] ["script", "index"] (defScope sCell) := ⟨rfl, rfl, rfl, by decide +kernel, rfl, by decide +kernel, by decide +kernel⟩
theorem scGenerator : FnScope ["script", "index", "seed"] ["script", "index"] (defScope sGenerator) := ⟨rfl, rfl, rfl, by decide +kernel, rfl, by decide +kernel, by decide +kernel⟩
theorem opr_mono {X : Cx} {f : Value → Value → Sem Value} {r r' : R2} (h : OpR X f r) (m : ∀ x y H Q, r' x y H Q → r x y H Q) : OpR X f r' := fun pins s σ H x y v u Q I rx ry q => h pins s σ H x y v u Q I rx ry (m x y H Q q)
/-- a remainder: a letter in its range -/
def rModL : R2 := fun x y H Q => ∃ i j, x = .int i ∧ y = .int j ∧ 0 < j ∧ ∀ r : Int, 0 ≤ r → r < j → r = i % j → Q (.int r) H
theorem op_modL {X : Cx} : OpR X (binaryOp .Mod) rModL := opr_mono op_mod fun x y H Q ⟨i, j, e1, e2, hj, q⟩ => ⟨i, j, e1, e2, hj, q _ (Int.emod_nonneg _ (by omega)) (Int.emod_lt_of_pos _ hj) rfl⟩
section
variable {P : Program} {w : World} {K : PySem.W.Frag} {mg : Str → Option Value} {base : Heap}
/-- the hash: some number below its modulus -/
def spHash : Sp := fun vs H Q _ => ∃ a b : Int, vs = [.int a, .int b] ∧ 0 ≤ a ∧ a < 2147483648 ∧ 0 ≤ b ∧ b ≤ 1073741824 ∧ ∀ r : Int, 0 ≤ r → r < 2147483647 → Q (.int r) H
theorem ok_hash {f : Addr} {fd : FuncData} (F : Fun K "_law_hash" "_law_hash" sHash f fd) (mi : mg "int" = none) : FnOk P w K mg base CX0 1 f fd ["seed", "index"] spHash := by
  refine F.ok scHash (fun vs H Q E h => ?_) (fun cdv A outer s H vs Q E hr h => ?_)
  · obtain ⟨a, b, rfl, _⟩ := h
    rfl
  · obtain ⟨a, b, rfl, ha, ha2, hb, hb2, q⟩ := h
    refine ⟨_, pss_cons (ps_set (i := 2) scHash.nd rfl (.inl rfl)
        (pe_op op_modL (pe_callTy call_int1 (by rfl) mi (by decide +kernel) (pa_cons
          (pe_op op_add (pe_op op_add (pe_op op_add (pe_op op_mul (pv 0) pe_int) (pe_op op_mul (pe_op op_mul pe_int (pv 1)) (pv 1))) (pe_op op_mul pe_int (pv 1))) pe_int) pa_nil)) pe_int))
      (pss_cons (ps_set (i := 2) scHash.nd rfl (.inl rfl)
        (pe_op op_modL (pe_callTy call_int1 (by rfl) mi (by decide +kernel) (pa_cons
          (pe_op op_add (pe_op op_add (pe_op op_mul (pv 2) (pv 2)) (pe_op op_mul pe_int (pv 1))) pe_int) pa_nil)) pe_int))
      (pss_one (ps_ret (pe_op op_modL (pe_callTy call_int1 (by rfl) mi (by decide +kernel) (pa_cons (pe_op op_mul (pv 2) pe_int) pa_nil)) pe_int)))), ?_⟩
    -- seed * c + c * index * index + c * index + c
    refine ⟨_, rfl, _, _, rfl, rfl, .inl ⟨by omega, by omega⟩, ?_⟩
    refine ⟨_, rfl, _, _, rfl, rfl, .inl ⟨by omega, by omega⟩, ?_⟩
    refine ⟨_, rfl, _, _, rfl, rfl, .inl ⟨by omega, by omega⟩, ?_⟩
    refine ⟨_, _, rfl, rfl, _, rfl, _, _, rfl, rfl, .inl ⟨by omega, by omega⟩, ?_⟩
    refine ⟨_, _, rfl, rfl, _, _, rfl, rfl, .inl ⟨_, rfl, _, _, rfl, rfl, by decide, fun m h0 h1 _ => ?_⟩⟩
    -- mixed * mixed + c * index + c
    refine ⟨_, rfl, _, rfl, _, _, rfl, rfl, .inl ⟨by omega, by omega⟩, ?_⟩
    refine ⟨_, rfl, _, _, rfl, rfl, .inl ⟨by omega, by omega⟩, ?_⟩
    refine ⟨_, _, rfl, rfl, _, _, rfl, rfl, .inl ⟨_, rfl, _, _, rfl, rfl, by decide, fun n h2 h3 _ => ?_⟩⟩
    refine ⟨_, rfl, _, _, rfl, rfl, .inl ⟨by omega, by omega⟩, .inl ⟨_, rfl, _, _, rfl, rfl, by decide, fun r h4 h5 _ => q r h4 h5⟩⟩
/-- the generator at g: three numbers, the count of hashed draws at most n -/
def Gen (H : Hp) (g : Addr) (n : Int) : Prop := ∃ a b c : Int, H g = some (.lst [.int a, .int b, .int c]) ∧ 0 ≤ a ∧ a.natAbs < 2 ^ 2000 ∧ 0 ≤ b ∧ b < 2147483647 ∧ 0 ≤ c ∧ c ≤ n
theorem Gen.mono {H : Hp} {g : Addr} {n m : Int} (h : Gen H g n) (k : n ≤ m) : Gen H g m := by
  obtain ⟨a, b, c, e, h1, h2, h3, h4, h5, h6⟩ := h
  exact ⟨a, b, c, e, h1, h2, h3, h4, h5, by omega⟩
/-- all but what stands at g is as it was -/
def But (g : Addr) (H H' : Hp) : Prop := ∀ b, b ≠ g → H' b = H b
def spRandom : Sp := fun vs H Q _ => ∃ (g : Addr) (m n : Int), vs = [.ref g, .int m] ∧ Gen H g n ∧ 1 ≤ m ∧ m < 618970019642690137449562112 ∧ n + 3 ≤ 1073741824 ∧
  ∀ (r : Int) (H' : Hp), 0 ≤ r → r < m → Gen H' g (n + 3) → But g H H' → Q (.int r) H'
/-- how great the drawn number is after so many turns -/
def top : Nat → Int
  | 0 => 1
  | 1 => 4294967296
  | 2 => 18446744073709551616
  | _ => 79228162514264337593543950336
theorem top_next {d : Int} {i : Nat} (d0 : 0 ≤ d) (h : d < top i) (hi : i < 3) : d < 79228162514264337593543950336 ∧ ∀ r : Int, r < 2147483647 → d * 2147483587 + r < top (i + 1) := by
  match i, hi with
  | 0, _ => simp only [top] at h ⊢; exact ⟨by omega, fun r hr => by omega⟩
  | 1, _ => simp only [top] at h ⊢; exact ⟨by omega, fun r hr => by omega⟩
  | 2, _ => simp only [top] at h ⊢; exact ⟨by omega, fun r hr => by omega⟩
theorem gen_set {H : Hp} {g : Addr} {o : HO} : But g H (upd H g o) := fun _ h => upd_ne h
theorem ok_random {f fh : Addr} {fd fdh : FuncData} (F : Fun K "_law_random" "_law_random" sRandom f fd) (G : FnOk P w K mg base CX0 1 fh fdh ["seed", "index"] spHash) (bh : Binds K fdh ["seed", "index"] []) (kh : PySem.W.keepIn K (.ref fh) = true) (mh : mg "_law_hash" = some (.ref fh))
    (mi : mg "int" = none) (mr : mg "range" = none) : FnOk P w K mg base CX0 2 f fd ["generator", "bound"] spRandom := by
  refine F.ok scRandom (fun vs H Q E h => ?_) (fun cdv A outer s H vs Q E hr h => ?_)
  · obtain ⟨g, m, n, rfl, _⟩ := h
    rfl
  obtain ⟨g, m, n, rfl, ⟨a, b, c, eg, a0, a1, b0, b1, c0, c1⟩, m1, m2, hn, q⟩ := h
  have nd := scRandom.nd
  refine ⟨_, pss_cons (ps_if (pt_cmpR op_gt (pe_ix ix_list (pv 0) pe_int (fun _ _ => rfl)) pe_int (nomark _))
      (pss_cons (ps_set (i := 2) nd rfl (.inl rfl) (pe_op op_modL (pe_callTy call_int1 (by rfl) mi (by decide +kernel) (pa_cons (pe_ix ix_list (pv 0) pe_int (fun _ _ => rfl)) pa_nil)) (pv 1)))
      (pss_cons (ps_asg (pe_op op_fdivW (pe_ix ix_list (pv 0) pe_int (fun _ _ => rfl)) (pv 1)) (pg_sub (pv 0) pe_int set_list))
      (pss_one (ps_ret (pv 2))))) pss_nil)
    (pss_cons (ps_set (i := 2) nd rfl (.inl rfl) pe_int)
    (pss_cons (ps_for PassesOwn.never rfl (pi_range1 (by rfl) mr (pa_cons (pe_op op_add pe_int (pe_op op_fdiv (pe_bits (pv 1)) pe_int)) pa_nil)) (pg_name (i := 3) nd rfl (.inl rfl))
      (pss_cons (ps_asg (pe_op op_add (pe_ix ix_list (pv 0) pe_int (fun _ _ => rfl)) pe_int) (pg_sub (pv 0) pe_int set_list))
      (pss_one (ps_set (i := 2) nd rfl (.inl rfl) (pe_op op_add (pe_op op_mulW (pv 2) pe_int)
        (pe_call G (hr.mono (by decide)) rfl mh kh bh .nil pass0 (pa_cons (pe_ix ix_list (pv 0) pe_int (fun _ _ => rfl)) (pa_cons (pe_ix ix_list (pv 0) pe_int (fun _ _ => rfl)) pa_nil))))))))
    (pss_one (ps_ret (pe_op op_modL (pe_callTy call_int1 (by rfl) mi (by decide +kernel) (pa_cons (pv 2) pa_nil)) (pv 1)))))), ?_⟩
  have L : SqL K H g [.int a, .int b, .int c] := SqL.of eg
  refine ⟨_, rfl, g, _, _, _, rfl, rfl, L, rfl, _, _, rfl, rfl, _, rfl, ite2 (fun ha => ?_) fun ha => ?_⟩
  · -- digits of the seed
    refine ⟨_, rfl, g, _, _, _, rfl, rfl, L, rfl, .inl ⟨_, rfl, _, rfl, _, _, rfl, rfl, by omega, fun r r0 r1 _ => ?_⟩⟩
    refine ⟨_, rfl, g, _, _, _, rfl, rfl, L, rfl, _, rfl, _, _, rfl, rfl, wide_div (b := 90) (by omega) (by omega) (by decide) (by decide), _, rfl, g, _, _, _, rfl, rfl, eg, rfl, ?_⟩
    refine ⟨_, rfl, ?_⟩
    refine q r _ r0 r1 ⟨_, _, _, upd_same, Int.ediv_nonneg a0 (by omega), ?_, b0, b1, c0, by omega⟩ gen_set
    have h1 : a / m ≤ a := Int.ediv_le_self _ a0
    have h2 : 0 ≤ a / m := Int.ediv_nonneg a0 (by omega)
    exact wide_le h2 h1 a1
  · -- hashed
    have hb1 := intBits_le (a := m) (k := 89) (by omega)
    have hb0 : (0 : Int) ≤ ((Builtin.Int.intBits m : Nat) : Int) := Int.natCast_nonneg _
    have hb2 : ((Builtin.Int.intBits m : Nat) : Int) / 30 ≤ 2 := by omega
    have hb3 : 0 ≤ ((Builtin.Int.intBits m : Nat) : Int) / 30 := by omega
    refine ⟨_, rfl, _, rfl, _, _, rfl, rfl, ⟨by decide, by decide⟩, _, _, rfl, rfl, _, rfl, by omega, by omega, ?_⟩
    generalize ((Builtin.Int.intBits m : Nat) : Int) / 30 = z at hb2 hb3
    refine for_range (lo := 0) (n := (1 + z).toNat) (fun i σ H1 => ∃ (d : Int) (y : Option V), σ = [some (.ref g), some (.int m), some (.int d), y] ∧ 0 ≤ d ∧ d < top i ∧ (∃ c' : Int, H1 g = some (.lst [.int a, .int b, .int c']) ∧ 0 ≤ c' ∧ c' ≤ c + i) ∧ But g H H1)
      ⟨0, none, rfl, by decide, by decide, ⟨c, eg, c0, by omega⟩, fun _ _ => rfl⟩ (fun i σ H1 hi hP => ?_) (fun σ H1 hP => ?_)
    · obtain ⟨d, y, rfl, d0, d1, ⟨c', e1, c2, c3⟩, bt⟩ := hP
      have L1 : SqL K H1 g [.int a, .int b, .int c'] := SqL.of e1
      -- generator[2] = generator[2] + 1
      refine ⟨_, rfl, g, _, _, _, rfl, rfl, L1, rfl, _, _, rfl, rfl, _, rfl, g, _, _, _, rfl, rfl, e1, rfl, ?_⟩
      have L2 : SqL K (upd H1 g (.lst [.int a, .int b, .int (c' + 1)])) g [.int a, .int b, .int (c' + 1)] := SqL.of upd_same
      have hd := top_next d0 d1 (show i < 3 by omega)
      refine ⟨_, rfl, d, 2147483587, rfl, rfl, wide_mul (a := 96) (b := 32) (by omega) (by decide) (by decide) (by decide) (by decide), ?_⟩
      refine ⟨_, rfl, g, _, _, _, rfl, rfl, L2, rfl, _, rfl, g, _, _, _, rfl, rfl, L2, rfl, ?_⟩
      refine ⟨_, _, rfl, b0, by omega, by omega, by omega, fun r r0 r1 => ?_⟩
      refine ⟨_, _, rfl, rfl, _, _, rfl, by omega, hd.2 r r1, ⟨c' + 1, upd_same, by omega, by omega⟩, fun x hx => ?_⟩
      · rw [upd_ne hx]
        exact bt x hx
    · obtain ⟨d, y, rfl, d0, d1, ⟨c', e1, c2, c3⟩, bt⟩ := hP
      refine ⟨_, rfl, .inl ⟨_, rfl, _, rfl, _, _, rfl, rfl, by omega, fun r r0 r1 _ => ?_⟩⟩
      exact q r _ r0 r1 ⟨a, b, c', e1, a0, a1, b0, b1, c2, by omega⟩ bt
theorem same_new {H : Hp} {p : Addr} {o : HO} (h : H p = none) : Same H (upd H p o) := fun b x e => by
  rw [upd_ne (ne_of_none e h)]
  exact e
def spCell (K : PySem.W.Frag) : Sp := fun vs H Q _ => ∃ (a : Addr) (ns : List Int) (i : Nat), vs = [.ref a, .int i] ∧ SqL K H a (ns.map V.int) ∧ ∀ (r : Int) (H' : Hp), Same H H' → Q (.int r) H'
theorem ok_cell {f : Addr} {fd : FuncData} (F : Fun K "_law_cell" "_law_cell" sCell f fd) (ml : mg "len" = none) (ms : mg "sum" = none) : FnOk P w K mg base CX0 1 f fd ["script", "index"] (spCell K) := by
  refine F.ok scCell (fun vs H Q E h => ?_) (fun cdv A outer s H vs Q E hr h => ?_)
  · obtain ⟨a, ns, i, rfl, _⟩ := h
    rfl
  obtain ⟨a, ns, i, rfl, L, q⟩ := h
  refine ⟨_, pss_cons (ps_if (pt_cmpR op_lt (pv 1) (pe_callB call_len_seq (by rfl) ml PySem.boot_len (pa_cons (pv 0) pa_nil)) (nomark _)) (pss_one (ps_ret (pe_ix ix_list (pv 0) (pv 1) (fun _ _ => rfl)))) pss_nil)
    (pss_one (ps_ret (pe_op op_modL (pe_callB (cr_sum rfl) (by rfl) ms (by decide +kernel) (pa_cons (pe_slice sl_list (pv 0) po_none (po_some pe_int)) pa_nil)) pe_int))), ?_⟩
  refine ⟨_, rfl, _, rfl, a, _, rfl, .inl L, _, _, rfl, rfl, _, rfl, ite2 (fun hi => ?_) fun _ => ?_⟩
  · have hl : i < ns.length := by
      have e := of_decide_eq_true hi
      rw [List.length_map] at e
      omega
    refine ⟨_, rfl, _, rfl, a, _, _, _, rfl, rfl, L, atI_nat (v := .int ns[i]) ?_, q _ _ (Same.refl _)⟩
    rw [List.getElem?_map, List.getElem?_eq_getElem hl]
    rfl
  · refine ⟨_, rfl, 1, rfl, a, _, rfl, L, fun p hp => ?_⟩
    have e : cutV (ns.map V.int) none (some 1) = (ns.take (HT.sIx (ns.map V.int).length (ns.map V.int).length (some 1) - HT.sIx (ns.map V.int).length 0 none) |>.map V.int) := by
      unfold cutV
      rw [HT.sIx_none, List.drop_zero, List.map_take]
    rw [e]
    exact ⟨p, _, rfl, SqL.of upd_same, _, _, rfl, rfl, by decide, fun r _ _ _ => q r _ (same_new hp)⟩
theorem op_powW {X : Cx} : OpR X (binaryOp .Pow) (rI (fun i j => 0 ≤ j ∧ (Builtin.Int.intBits i : Int) * j ≤ 2 ^ 27) fun i j => .int (i ^ j.toNat)) := opI fun _ _ _ _ _ _ _ hc q => pow_int hc.1 hc.2 q
def spGenerator (K : PySem.W.Frag) : Sp := fun vs H Q _ => ∃ (a : Addr) (ns : List Int) (i : Nat), vs = [.ref a, .int i] ∧ i ≤ 100 ∧ SqL K H a (ns.map V.int) ∧ ∀ (p : Addr) (H' : Hp), Same H H' → H p = none → Gen H' p (1000 * i) → Q (.ref p) H'
theorem ok_generator {f fc : Addr} {fd fdc : FuncData} (F : Fun K "_law_generator" "_law_generator" sGenerator f fd) (G : FnOk P w K mg base CX0 1 fc fdc ["script", "index"] (spCell K)) (bc : Binds K fdc ["script", "index"] []) (kc : PySem.W.keepIn K (.ref fc) = true) (mc : mg "_law_cell" = some (.ref fc))
    (mi : mg "int" = none) (mm : mg "max" = none) : FnOk P w K mg base CX0 2 f fd ["script", "index"] (spGenerator K) := by
  refine F.ok scGenerator (fun vs H Q E h => ?_) (fun cdv A outer s H vs Q E hr h => ?_)
  · obtain ⟨a, ns, i, rfl, _⟩ := h
    rfl
  obtain ⟨a, ns, i, rfl, hi, L, q⟩ := h
  refine ⟨_, pss_cons (ps_set (i := 2) scGenerator.nd rfl (.inl rfl) (pe_call G (hr.mono (by decide)) rfl mc kc bc .nil pass0 (pa_cons (pv 0) (pa_cons (pv 1) pa_nil))))
    (pss_one (ps_ret (pe_lst (pa_cons (pe_op op_modL (pe_callTy call_int1 (by rfl) mi (by decide +kernel) (pa_cons (pe_callB (call_max2 rfl) (by rfl) mm (by decide +kernel) (pa_cons (pe_op op_sub (pv 2) (pe_op op_pow pe_int pe_int)) (pa_cons pe_int pa_nil))) pa_nil)) (pe_op op_powW (pe_op op_pow pe_int pe_int) pe_int))
      (pa_cons (pe_op op_modL (pe_callTy call_int1 (by rfl) mi (by decide +kernel) (pa_cons (pv 2) pa_nil)) pe_int) (pa_cons (pe_op op_mul pe_int (pv 1)) pa_nil)))))), ?_⟩
  refine ⟨_, rfl, _, rfl, a, ns, i, rfl, L, fun seed H1 s1 => ?_⟩
  refine ⟨_, rfl, _, _, rfl, rfl, ⟨by decide, by decide, by decide⟩, _, _, rfl, rfl, _, _, rfl, .inl ⟨_, rfl, ?_⟩⟩
  refine ⟨_, _, rfl, rfl, ⟨by decide, by decide, by decide⟩, _, _, rfl, rfl, ⟨by decide, by decide +kernel⟩, ?_⟩
  refine ⟨_, _, rfl, rfl, by decide +kernel, fun x x0 x1 _ => ?_⟩
  refine ⟨_, rfl, .inl ⟨_, rfl, _, _, rfl, rfl, by decide, fun y y0 y1 _ => ?_⟩⟩
  refine ⟨_, rfl, _, _, rfl, rfl, .inl ⟨by decide, by decide⟩, ?_⟩
  refine ⟨by show 3 ≤ sizeLine; decide, fun p hp => ?_⟩
  refine q p _ (s1.trans (same_new hp)) (s1.free hp) ⟨x, y, _, upd_same, x0, ?_, y0, y1, by omega, by omega⟩
  exact wide_le x0 (Int.le_of_lt x1) (by decide +kernel)
end
end DQ

set_option Elab.async false
set_option linter.all false
set_option maxRecDepth 100000
set_option maxHeartbeats 4000000
/-! an own error class called with keywords: its __new__ takes them and forgets them, its __init__ binds them -/
namespace PySem.ErrKw
open PySem PySem.W PySem.Calls PyProof.Rows PySem.HandSPX
section
variable {prog : Program} {w : World} {A : Around} {E : Value → Shared → Prop} {R : Result → Shared → Prop} {hp : Heap} {gs : Array GenState} {dr : Drawn} {tk : Nat} {os : OsState}
variable {cn cq : Str} {C Nd : Addr} {bases tail tailB : List Value} {hd : Bool} {sl : List Str} {subs : List Value} {abs : Bool} {col : Option Bool} {dict : Option Addr} {z0 z1 z2 z3 z5 : Option Value} {B nw ini : String} {us : List Value} {kw : List (Str × Value)}
theorem kw_check {M : Model} (F : ExcBaseFacts B nw ini tailB) (same : ∀ Y : String, tail.contains (.type Y) = tailB.contains (.type Y)) {Q : Unit → Shared → Prop}
    (hC : hp.get? C = some (excClassObj cn cq C Nd bases tail hd sl subs abs col dict z0 z1 z2 z3 z5 nw)) (hQ : Q () ⟨hp, gs, dr, tk, os⟩) : wpAny M A (checkBuiltinCall nw ⟨.ref C :: us, kw⟩) Q E ⟨hp, gs, dr, tk, os⟩ := by
  have hasB : (Value.ref C :: tail).contains (.type B) = true := by
    rw [List.contains_cons, same, F.hasB, Bool.or_true]
  have star := F.noStar
  simp only [checkBuiltinCall, F.newKind, F.newSplit, F.newRow]
  repeat (first
    | refine wpAny_loadPart_at hC ?_
    | (refine wpAny_isSubtype_exc hC ?_; rw [hasB])
    | refine wpAny_staticBase_exc hC ?_
    | refine wpAny_madeBy_exc hC ?_
    | simp only [bne_self_eq_false, Bool.false_eq_true, if_false]
    | wp_step)
  exact hQ
theorem kw_new (F : ExcBaseFacts B nw ini tailB) (same : ∀ Y : String, tail.contains (.type Y) = tailB.contains (.type Y))
    (hC : hp.get? C = some (excClassObj cn cq C Nd bases tail hd sl subs abs col dict z0 z1 z2 z3 z5 nw))
    (hR : R (.ok (.ret (.ref (hp.objs.size + 1)))) ⟨(hp.push (W.kdv_tup us)).push (excO C hp.objs.size), gs, dr, tk, os⟩) (small : us.length ≤ sizeLine) :
    codeAny (model prog w) A (.builtin nw ⟨.ref C :: us, kw⟩) R ⟨hp, gs, dr, tk, os⟩ := by
  have ends := F.ends
  have has : ∀ {Y : String} {b : Bool}, tailB.contains (.type Y) = b → (Value.ref C :: tail).contains (.type Y) = b := fun {Y b} e => by
    rw [List.contains_cons, same, e]
    rfl
  have i1 := has F.hasB
  have i2 := has F.noAttr
  have i3 := has F.noName
  refine codeAny_builtinAt F.entry ?_
  unfold Builtin.«BaseException.__new__»
  refine wpAt_bind ?_
  refine (show wpAt _ _ _ (stack >>= _) _ _ _ from wpAt_bind (wpAt_stack fun p below => wpAt_of_wpAny ?_))
  wp_walk
  refine wpAt_of_wpAny ?_
  rw [F.owner]
  repeat (first
    | with_reducible refine wpAny_madeHere_exc F.canon hC ?_
    | with_reducible refine wpAny_loadPart_at hC ?_
    | (with_reducible refine wpAny_isSubtype_exc hC ?_; first | rw [i1] | rw [i2] | rw [i3])
    | wp_step)
  show R _ _
  rw [Heap.size_push]
  exact hR
theorem kw_type (F : ExcBaseFacts B nw ini tailB) (same : ∀ Y : String, tail.contains (.type Y) = tailB.contains (.type Y)) {fI : Addr} {Q : Fin → Shared → Prop}
    (hC : hp.get? C = some (excClassObj cn cq C Nd bases tail hd sl subs abs col dict z0 z1 z2 z3 z5 nw)) (look : Looks (model prog w) hp (typeLookup (.ref C) "__init__") (some (.ref fI))) (bind : ∀ self, Looks (model prog w) hp (bindSpecial (.ref fI) self) (.ref fI, [self])) (small : us.length ≤ sizeLine)
    (hQ : codeAny (model prog w) A (.call (.ref fI) ⟨.ref (hp.objs.size + 1) :: us, kw⟩) (fun r s' => match r with | .ok (.ret v) => v = .none ∧ Q (.done (.ret (.ref (hp.objs.size + 1)))) s' | .ok _ => False | .error e => E e s') ⟨(hp.push (W.kdv_tup us)).push (excO C hp.objs.size), gs, dr, tk, os⟩) :
    wpAny (model prog w) A (Builtin.«type.__call__» ⟨.ref C :: us, kw⟩) Q E ⟨hp, gs, dr, tk, os⟩ := by
  repeat (first
    | with_reducible refine wpAny_loadPart_at hC ?_
    | with_reducible refine wpAny_madeBy_exc hC ?_
    | wp_step)
  refine codeAny_call_builtin_code (Code.quiet_builtin _ F.quiet) (kw_check F same hC (kw_new F same hC ?_ small))
  show wpAny _ _ _ _ _ _
  have grown : ∀ b o, hp.get? b = some o → ((hp.push (W.kdv_tup us)).push (excO C hp.objs.size)).get? b = some o := fun b o z => Heap.get?_push_of_some _ (Heap.get?_push_of_some _ z)
  have made : ((hp.push (W.kdv_tup us)).push (excO C hp.objs.size)).get? (hp.objs.size + 1) = some (excO C hp.objs.size) := by heap_get
  have itself : (Value.ref C :: tail).contains (.ref C) = true := by simp
  have hC2 := grown _ _ hC
  unfold isInstance
  repeat (first
    | with_reducible refine wpAny_loadPart_at made ?_
    | (with_reducible refine wpAny_isSubtype_exc hC2 ?_; rw [itself])
    | wp_step)
  refine (show wpAny _ _ (typeLookup (.ref C) _) _ _ _ from (look.keeps grown).at ?_)
  refine wpAny_holding (wpAny_bind (((bind (.ref (hp.objs.size + 1))).keeps grown).at ?_))
  refine wpAny_bind (wpAny_call (codeAny_mono hQ fun r s' z => ?_))
  match r, z with
  | .error _, z => exact z
  | .ok (.ret _), ⟨rfl, z⟩ =>
    first
      | exact wpAny_pure (wpAny_pure z)
      | (wp_walk; exact z)
  | .ok .next, z => exact z.elim
  | .ok .brk, z => exact z.elim
  | .ok .cont, z => exact z.elim
theorem kw_check_call {M : Model} {Q : Unit → Shared → Prop} (hC : hp.get? C = some (excClassObj cn cq C Nd bases tail hd sl subs abs col dict z0 z1 z2 z3 z5 nw)) (hQ : Q () ⟨hp, gs, dr, tk, os⟩) :
    wpAny M A (checkBuiltinCall "type.__call__" ⟨.ref C :: us, kw⟩) Q E ⟨hp, gs, dr, tk, os⟩ := by
  have sub := tc_sub
  have isTy : (⟨hp, gs, dr, tk, os⟩ : Shared).TypeIs (.ref C) "type" := ⟨_, hC, rfl⟩
  simp only [checkBuiltinCall, tc_kind, tc_split]
  repeat (any_goals (first
    | assumption
    | with_reducible refine wpAny_loadPart_at hC ?_
    | with_reducible refine wpAny_onRaise ?_
    | with_reducible refine wpAny_map ?_
    | wp_step))
theorem kw_call (F : ExcBaseFacts B nw ini tailB) (same : ∀ Y : String, tail.contains (.type Y) = tailB.contains (.type Y)) {fI : Addr}
    (hC : hp.get? C = some (excClassObj cn cq C Nd bases tail hd sl subs abs col dict z0 z1 z2 z3 z5 nw)) (look : Looks (model prog w) hp (typeLookup (.ref C) "__init__") (some (.ref fI))) (bind : ∀ self, Looks (model prog w) hp (bindSpecial (.ref fI) self) (.ref fI, [self])) (small : us.length ≤ sizeLine)
    (hR : codeAny (model prog w) (A.under (.builtin "type.__call__" ⟨.ref C :: us, kw⟩)) (.call (.ref fI) ⟨.ref (hp.objs.size + 1) :: us, kw⟩) (InitBack (hp.objs.size + 1) R) ⟨(hp.push (W.kdv_tup us)).push (excO C hp.objs.size), gs, dr, tk, os⟩) :
    codeAny (model prog w) A (.call (.ref C) ⟨us, kw⟩) R ⟨hp, gs, dr, tk, os⟩ := by
  have l1 := tc_lookup
  have l2 := tc_bind (.ref C)
  have isTy : (⟨hp, gs, dr, tk, os⟩ : Shared).TypeIs (.ref C) "type" := ⟨_, hC, rfl⟩
  refine codeAny_of_tree (show wpAny _ _ (callAny (.ref C) _) _ _ _ from ?_)
  repeat (any_goals (first
    | assumption
    | with_reducible refine wpAny_loadPart_at hC ?_
    | wp_step))
  refine ⟨rfl, codeAny_call_builtin_at (Code.quiet_builtin _ (by decide +kernel)) entry_typeCall (kw_check_call hC (kw_type F same hC look bind small (codeAny_mono hR fun r s' z => ?_)))⟩
  match r, z with
  | .error _, z => exact z
  | .ok (.ret _), z => exact z
  | .ok .next, z => exact z
  | .ok .brk, z => exact z
  | .ok .cont, z => exact z
end
end PySem.ErrKw

set_option Elab.async false
set_option linter.all false
set_option maxRecDepth 100000
set_option maxHeartbeats 4000000
namespace DQ
open PySem PySem.Spec PyProof.Rows L2
/-! ### errors of own classes as values -/
/-- C(e, ..): a new error at a, C's own __init__ keeping sp -/
def tErr (C : Addr) (sp : Sp) (dvs : List V) (ta : TA) : TE := fun σ H Q => ta σ H fun vs H1 => vs.length ≤ 1000 ∧ ∀ a, H1 a = none → sp (.ref a :: (vs ++ dvs)) (upd H1 a (exo a C none)) (fun v H2 => v = .non ∧ Q (.ref a) H2) (fun _ _ _ => False)
section
variable {X : Cx} {x : Str} {C fI : Addr} {k : Nat} {fd : FuncData} {ps : List Str} {sp : Sp} {ds : List Value} {dvs : List V} {CX : CXT} {e : Expr} {es : List Expr} {ta : TA} {p pos : Pos}
theorem run_err {pins : List (Addr × Obj)} {σ : L2.St} {H1 : Hp} {s1 : Shared} {Q : VK} {us : List Value} {vs : List V} (T : OexC X.K C) (iC : PySem.W.findIn X.K (.ref C) "__init__" = some (some (.ref fI))) (tI : PySem.W.typeIn X.K (.ref fI) = some (.type "function"))
    (F1 : FnOk X.prog X.w X.K X.mg X.base CX k fI fd ps sp) (hr : Room (k + 1) X.A) (hb : Binds X.K fd ps ds) (hd : Vals dvs ds) (hx : Passes CX X (fun _ _ _ => False)) (I1 : Inv X pins σ H1 s1) (r1 : Vals vs us) (hz : vs.length ≤ 1000)
    (q1 : ∀ a, H1 a = none → sp (.ref a :: (vs ++ dvs)) (upd H1 a (exo a C none)) (fun v H2 => v = .non ∧ Q (.ref a) H2) (fun _ _ _ => False)) :
    wpAny (model X.prog X.w) X.A (call (.ref C) us) (EP X pins σ Q) X.xe s1 := by
  obtain ⟨nm, q, N, bs, bm, sn, sub, ab, col, dd, k0, k1, k2, k3, k5, hC, hbm⟩ := T.cls
  obtain ⟨hp, g, dr, tk, os⟩ := s1
  have room : hp.objs.size ≤ hp.objs.size + 1 := Nat.le_succ _
  have hq := q1 (hp.objs.size + 1) (I1.hok.fresh room)
  let h2 := (hp.push (PySem.W.kdv_tup us)).push (PySem.HandSPX.excO C hp.objs.size)
  have at2 : h2.get? (hp.objs.size + 1) = some (PySem.HandSPX.excO C hp.objs.size) := by heap_get
  have I2 : Inv X pins σ (upd H1 (hp.objs.size + 1) (exo (hp.objs.size + 1) C none)) ⟨h2, g, dr, tk, os⟩ :=
    Inv.laid (t' := tk) (a := hp.objs.size + 1) (o := exo (hp.objs.size + 1) C none) (h' := h2) I1 (fun b o z => Heap.get?_push_of_some _ (Heap.get?_push_of_some _ z)) room (exo_ok at2)
  have r2 : Vals (V.ref (hp.objs.size + 1) :: (vs ++ dvs)) (Value.ref (hp.objs.size + 1) :: (us ++ ds)) := .cons rfl (r1.append hd)
  have many : (Value.ref (hp.objs.size + 1) :: us ++ ds).length = ps.length := (r2.length.symm.trans (F1.len _ _ _ _ hq))
  have small : us.length ≤ sizeLine := by
    rw [← Paired.length r1, sizeLine_eq]
    omega
  have run := F1.run _ X.stack _ _ ⟨Value.ref (hp.objs.size + 1) :: us, []⟩ _ _ _ (fun _ _ _ => False) (hr.make C us []) (I2.env0.make C us []) (hb _ (Value.ref (hp.objs.size + 1) :: us) I2.kIn many) r2 hq
  refine wpAny_call (PySem.HandSPX.call_own F.excBase_ValueError (fun Y => PySem.HandSPX.refsVE_contains Y bm hbm) (I1.kIn _ _ hC) (PySem.W.looks_findIn I1.kIn iC) (fun self => PySem.W.bind_fn I1.kIn self tI) small (codeAny_mono run fun r s' z => ?_))
  match r, z with
  | .error er, z => exact hx pins σ _ _ er s' I2 z
  | .ok (.ret u), z =>
    obtain ⟨v, H', I3, rv, ev, q3⟩ := I2.after z
    subst ev
    exact ⟨rv, V.ref (hp.objs.size + 1), H', I3, rfl, q3⟩
  | .ok .next, z => exact False.elim z
  | .ok .brk, z => exact False.elim z
  | .ok .cont, z => exact False.elim z
theorem pe_err (T : OexC X.K C) (iC : PySem.W.findIn X.K (.ref C) "__init__" = some (some (.ref fI))) (tI : PySem.W.typeIn X.K (.ref fI) = some (.type "function"))
    (F1 : FnOk X.prog X.w X.K X.mg X.base CX k fI fd ps sp) (hr : Room (k + 1) X.A) (hb : Binds X.K fd ps ds) (hd : Vals dvs ds) (hx : Passes CX X (fun _ _ _ => False)) (hg : Gl X x) (hm : X.mg x = some (.ref C)) (ha : PA X (e :: es) ta)
    (hdb : (x == ("__debug__" : Str)) = false := by decide) (he : starEach (e :: es) X.env = (false, eval e X.env) :: starEach es X.env := by rfl) (hpl : (backTo pos (starEach es X.env)).any (·.1) = false := by rfl) :
    PE X (.Call (.Name x p) (e :: es) [] pos) (tErr C sp dvs ta) := ⟨fun pins s σ H Q I h => by
  refine wpAny_Call_Name_kw (ld_glob I hg hm (PySem.W.callWith_K (h₀ := X.base) I.ok.mod.kin T.kC (thn (ha.run pos pins s σ H _ I h) fun us s1 h1 => ?_) he hpl) hdb)
  obtain ⟨vs, H1, I1, r1, hz, q1⟩ := h1
  exact ⟨I1.kIn, run_err T iC tI F1 hr hb hd hx I1 r1 hz q1⟩⟩
theorem pe_err0 (T : OexC X.K C) (iC : PySem.W.findIn X.K (.ref C) "__init__" = some (some (.ref fI))) (tI : PySem.W.typeIn X.K (.ref fI) = some (.type "function"))
    (F1 : FnOk X.prog X.w X.K X.mg X.base CX k fI fd ps sp) (hr : Room (k + 1) X.A) (hb : Binds X.K fd ps ds) (hd : Vals dvs ds) (hx : Passes CX X (fun _ _ _ => False)) (hg : Gl X x) (hm : X.mg x = some (.ref C))
    (hdb : (x == ("__debug__" : Str)) = false := by decide) : PE X (.Call (.Name x p) [] [] pos) (tErr C sp dvs tNil) := ⟨fun pins s σ H Q I h =>
  wpAny_Call_Name_kw (ld_glob I hg hm (PySem.W.callWith_K0 I.kIn T.kC (run_err (us := []) T iC tI F1 hr hb hd hx I .nil h.1 h.2)) hdb)⟩
/-- e.n of an error that was made -/
def tErrFld (K : PySem.W.Frag) (n : Str) (te : TE) : TE := fun σ H Q => te σ H fun x H1 => ∃ (a C d : Addr) (fs : List (Str × V)) (v : V), x = .ref a ∧ H1 a = some (exo a C (some d)) ∧ H1 d = some (exd d fs) ∧ XfC K C ∧ PySem.W.findIn K (.ref C) n = some none ∧ fs.lookup n = some v ∧ Q v H1
theorem err_inst {P : Program} {w : World} {H : Hp} {h : Heap} {a C : Addr} {d : Option Addr} (ok : HOk P w H h) (ea : H a = some (exo a C d)) (ed : ∀ dx, d = some dx → ∃ fs, H dx = some (exd dx fs)) : ∃ ox od, PySem.W.InstAt h a ox C od := by
  obtain ⟨t1, ho⟩ := exo_at ok ea
  cases d with
  | none => exact ⟨_, none, ho, rfl, rfl, trivial⟩
  | some dx =>
    obtain ⟨fs, e⟩ := ed dx rfl
    obtain ⟨mA, ⟨od, es, ep, hd, hr⟩, _⟩ := exd_at ok e
    exact ⟨_, some od, ho, rfl, rfl, hd⟩
theorem pe_errFld {te : TE} {n : Str} (he : PE X e te) (hb : attributeBase e n X.env (eval e X.env) = eval e X.env := by rfl) : PE X (.Attribute e n pos) (tErrFld X.K n te) := ⟨fun pins s σ H Q I h => by
  refine attr_of hb (thn (he.run pins s σ H _ I h) fun u s1 h1 => ?_)
  obtain ⟨x, H1, I1, rx, a, C, d, fs, v, rfl, ea, ed, T, hno, l, q⟩ := h1
  obtain rfl : u = Value.ref a := rx
  obtain ⟨t1, ho⟩ := exo_at I1.hok ea
  obtain ⟨mA, hns, hr⟩ := exd_at I1.hok ed
  obtain ⟨od, hod, hl⟩ := lookIn_ns hns
  obtain ⟨u, hu, ru⟩ := RelO.some_of (v := v) (o := mA n) (by rw [← l]; exact hr n)
  exact HandSPX.exc_get I1.kIn ⟨ho, rfl, rfl, hod⟩ T.ga T.gg T.exC (PySem.W.findObj_own T.hdC hno rfl (by rw [hl, hu])) (handed_of ru) ⟨v, H1, I1.tok _, ru, q⟩⟩
/-- what isinstance asks of the class of an error -/
structure ErrC (K : PySem.W.Frag) (C : Addr) : Prop where
  cls : (PySem.W.clsIn K C).isSome = true
  ga : PySem.W.findIn K (.ref C) "__getattribute__" = some (some (.builtin "BaseException.__getattribute__"))
  gg : PySem.W.findIn K (.ref C) "__getattr__" = some none
  sub : PySem.W.subIn K (.ref C) (.type "BaseException") = some true
  ca : PySem.W.findIn K (.ref C) "__class__" = some (some (.builtin "object.__class__"))
  cg : PySem.W.specialIn K (.builtin "object.__class__") "__get__" = some (some (.builtin "getset_descriptor.__get__"))
  ct : PySem.W.takesIn K (.builtin "object.__class__") = some true
  mo : PySem.W.mroIn K C (.type "object") = some true
def rErrIs (K : PySem.W.Frag) : List V → Hp → VK → Prop := fun xs H Q => ∃ (a C : Addr) (d : Option Addr) (c : V) (u : Value) (b : Bool), xs = [.ref a, c] ∧ H a = some (exo a C d) ∧ (∀ dx, d = some dx → ∃ fs, H dx = some (exd dx fs)) ∧ ErrC K C ∧ ClsV c u ∧ PySem.W.kitOne K (.ref C) u = some b ∧ Q (.bl b) H
theorem call_errIs : CallR X (.builtin "isinstance") (rErrIs X.K) := by
  intro pins s σ H xs us Q I r h
  obtain ⟨a, C, d, c, u, b, rfl, ea, ed, T, k, e, q⟩ := h
  obtain ⟨u1, u2, rfl, r1, r2⟩ := vals2 r
  obtain rfl : u1 = Value.ref a := r1
  obtain rfl := k.eq r2
  obtain ⟨ox, od, J⟩ := err_inst I.hok ea ed
  exact PySem.W.kia_one (PySem.W.kitx_exc T.cls T.ga T.gg T.sub T.ca T.cg T.ct T.mo) I.kIn J e (fun z => nomatch z) fun tk => ⟨.bl b, H, I.tok tk, rfl, q⟩
/-! two errors of one class without an __eq__ of its own are unequal unless they are one -/
theorem err_apart {prog : Program} {w : World} {A : Around} {E : Value → Shared → Prop} {s : Shared} {K : PySem.W.Frag} {a b D : Addr} {oa ob : Obj} {da db : Option Obj} {Q : Value → Shared → Prop} (hu : A.units < cLine) (hK : K.In s.heap) (I : PySem.W.InstAt s.heap a oa D da) (J : PySem.W.InstAt s.heap b ob D db)
    (mo : PySem.W.mroIn K D (.type "object") = some true) (eq : PySem.W.findIn K (.ref D) "__eq__" = some (some (.builtin "object.__eq__"))) (ne : a ≠ b) (h : Q (.bool false) s) : wpAny (model prog w) A (compareOp .Eq (.ref a) (.ref b)) Q E s := by
  have nt : ∀ {o : Obj} {c : Addr} {dd : Option Obj}, PySem.W.InstAt s.heap c o D dd → o.cls ≠ .type "tuple" := fun z e => by
    rw [z.2] at e
    cases e
  have half : ∀ {c c' : Addr} {o o' : Obj} {d d' : Option Obj}, PySem.W.InstAt s.heap c o D d → PySem.W.InstAt s.heap c' o' D d' → c ≠ c' → wpAny (model prog w) A (tryCompare (.ref c) "__eq__" (.ref c')) (fun r s' => r = none ∧ s' = s) E s := fun z z' n => by
    unfold tryCompare
    refine wpAny_bind (HN.ifBound_objEq hK z eq (wpAny_call (codeAny_call_builtin F.cmp_object.eq.plain F.cmpEntry_eq (PySem.W.check_slot F.cmpKind_eq F.cmpSplit_eq (z.type.andThen (PySem.W.looks_mroIn hK mo)) (F.cmpArgs_eq _ _) (objEq_entry_other n z.1 z'.1 (nt z) ?_)))))
    exact wpAny_pure ⟨rfl, rfl⟩
  show wpAny _ _ (richCompare .Eq _ _) _ _ _
  simp only [richCompare, cmpInfo_Eq, oneThing_ref]
  refine wpAny_holding (wpAny_bind (wpAny_cRoomFor hu ?_))
  refine wpAny_bind (I.type.here (wpAny_bind (J.type.here ?_)))
  rw [if_neg (by simp)]
  refine wpAny_bind (wpAny_pure ?_)
  simp only [Bool.false_eq_true, if_false, Bool.not_false, if_true]
  refine wpAny_bind (m := tryCompare (.ref a) _ (.ref b)) (wpAny_mono (half I J ne) (fun r s1 z => ?_) fun _ _ e => e)
  obtain ⟨rfl, rfl⟩ := z
  refine wpAny_bind (m := tryCompare (.ref b) _ (.ref a)) (wpAny_mono (half J I ne.symm) (fun r s2 z => ?_) fun _ _ e => e)
  obtain ⟨rfl, rfl⟩ := z
  exact wpAny_bind (wpAny_rule (wpAny_bind (wpAny_isSame_ref_other ne I.1 J.1 (nt I) (wpAny_pure h))))
def rErrEq (K : PySem.W.Frag) : R2 := fun x y H Q => ∃ (a b D : Addr) (d d' : Option Addr), x = .ref a ∧ y = .ref b ∧ a ≠ b ∧ H a = some (exo a D d) ∧ H b = some (exo b D d') ∧ (∀ dx, d = some dx → ∃ fs, H dx = some (exd dx fs)) ∧ (∀ dx, d' = some dx → ∃ fs, H dx = some (exd dx fs)) ∧
  PySem.W.mroIn K D (.type "object") = some true ∧ PySem.W.findIn K (.ref D) "__eq__" = some (some (.builtin "object.__eq__")) ∧ Q (.bl false) H
theorem op_errEq (hu : X.A.units < cLine) : OpR X (compareOp .Eq) (rErrEq X.K) := by
  intro pins s σ H x y v u Q I rx ry h
  obtain ⟨a, b, D, d, d', rfl, rfl, ne, ea, eb, ed, ed', mo, eq, q⟩ := h
  obtain rfl : v = Value.ref a := rx
  obtain rfl : u = Value.ref b := ry
  obtain ⟨oa, da, Ia⟩ := err_inst I.hok ea ed
  obtain ⟨ob, db, Ib⟩ := err_inst I.hok eb ed'
  exact err_apart hu I.kIn Ia Ib mo eq ne ⟨.bl false, H, I, rfl, q⟩
/-- C() of a class without an __init__ of its own -/
theorem pe_errB (T : OexC X.K C) (iC : PySem.W.findIn X.K (.ref C) "__init__" = some (some (.builtin "ValueError.__init__"))) (hg : Gl X x) (hm : X.mg x = some (.ref C)) (hdb : (x == ("__debug__" : Str)) = false := by decide) :
    PE X (.Call (.Name x p) [] [] pos) (fun σ H Q => ∀ a, H a = none → Q (.ref a) (upd H a (exo a C none))) := ⟨fun pins s σ H Q I h => by
  refine wpAny_Call_Name_kw (ld_glob I hg hm (PySem.W.callWith_K0 I.kIn T.kC ?_) hdb)
  obtain ⟨nm, q, N, bs, bm, sn, sub, ab, col, dd, k0, k1, k2, k3, k5, hC, hbm⟩ := T.cls
  obtain ⟨hp, g, dr, tk, os⟩ := s
  refine PySem.W.call_B F.excBase_ValueError (fun Y => PySem.HandSPX.refsVE_contains Y bm hbm) (I.kIn _ _ hC) (PySem.W.looks_findIn I.kIn iC) (Nat.zero_le _) fun h' k e1 e2 => ?_
  exact ⟨.ref (hp.objs.size + 1), _, Inv.laid (t' := tk) (o := exo (hp.objs.size + 1) C none) I k (Nat.le_succ _) (exo_ok e1), rfl, h _ (I.hok.fresh (Nat.le_succ _))⟩⟩
/-- C(k = v, ..): keywords alone -/
def tErrK (C : Addr) (m : Nat) (sp : Sp) (gV : List V → List V → List V) (tk : TA) : TE := fun σ H Q => tk σ H fun zs H1 => zs.length = m ∧ ∀ a, H1 a = none → sp (gV [.ref a] zs) (upd H1 a (exo a C none)) (fun v H2 => v = .non ∧ Q (.ref a) H2) (fun _ _ _ => False)
theorem pe_errK {ks : List Str} {kws : List Keyword} {tk : TA} {g : List Value → List Value → List Value} {gV : List V → List V → List V} (T : OexC X.K C) (iC : PySem.W.findIn X.K (.ref C) "__init__" = some (some (.ref fI))) (tI : PySem.W.typeIn X.K (.ref fI) = some (.type "function"))
    (F1 : FnOk X.prog X.w X.K X.mg X.base CX k fI fd ps sp) (hr : Room (k + 1) X.A) (hb : KBn X.K fd ps 1 ks g gV) (hx : Passes CX X (fun _ _ _ => False)) (hg : Gl X x) (hm : X.mg x = some (.ref C)) (hkw : PK X kws tk)
    (hall : (backToKw pos (keywordEach kws X.env)).all (·.1.isSome) = true := by rfl) (hks : (backToKw pos (keywordEach kws X.env)).filterMap (·.1) = ks := by rfl) (hdb : (x == ("__debug__" : Str)) = false := by decide)
    (hpl : ((backTo pos (starEach [] X.env)).any (·.1) || (backToKw pos (keywordEach kws X.env)).any (·.1.isNone)) = false := by rfl) :
    PE X (.Call (.Name x p) [] kws pos) (tErrK C ks.length sp gV tk) := ⟨fun pins s σ H Q I h => by
  refine wpAny_Call_Name_kw (ld_glob I hg hm (PySem.W.callWith_KW0 (h₀ := X.base) I.ok.mod.kin T.kC hall (thn (hkw.run pos pins s σ H _ I h) fun ws s1 h1 => ?_) hpl) hdb)
  obtain ⟨zs, H1, I1, rz, lz, q1⟩ := h1
  refine ⟨I1.kIn, ?_⟩
  rw [hks]
  obtain ⟨nm, q, N, bs, bm, sn, sub, ab, col, dd, k0, k1, k2, k3, k5, hC, hbm⟩ := T.cls
  obtain ⟨hp, gg, dr, tk, os⟩ := s1
  have room : hp.objs.size ≤ hp.objs.size + 1 := Nat.le_succ _
  have hq := q1 (hp.objs.size + 1) (I1.hok.fresh room)
  let h2 := (hp.push (PySem.W.kdv_tup [])).push (PySem.HandSPX.excO C hp.objs.size)
  have at2 : h2.get? (hp.objs.size + 1) = some (PySem.HandSPX.excO C hp.objs.size) := by heap_get
  have I2 : Inv X pins σ (upd H1 (hp.objs.size + 1) (exo (hp.objs.size + 1) C none)) ⟨h2, gg, dr, tk, os⟩ :=
    Inv.laid (t' := tk) (a := hp.objs.size + 1) (o := exo (hp.objs.size + 1) C none) (h' := h2) I1 (fun b o z => Heap.get?_push_of_some _ (Heap.get?_push_of_some _ z)) room (exo_ok at2)
  have r2 := hb.rel (vs := [V.ref (hp.objs.size + 1)]) (us := [Value.ref (hp.objs.size + 1)]) (.cons rfl .nil) rz
  have e2 : ws.length = ks.length := rz.length.symm.trans lz
  have run := F1.run _ X.stack _ _ ⟨[Value.ref (hp.objs.size + 1)], ks.zip ws⟩ _ _ _ (fun _ _ _ => False) (hr.make C [] (ks.zip ws)) (I2.env0.make C [] (ks.zip ws)) (hb.to _ [Value.ref (hp.objs.size + 1)] ws I2.kIn rfl e2) r2 hq
  show wpAny _ _ (call (.ref C) [] (ks.zip ws)) _ _ _
  refine wpAny_call (PySem.ErrKw.kw_call F.excBase_ValueError (fun Y => PySem.HandSPX.refsVE_contains Y bm hbm) (I1.kIn _ _ hC) (PySem.W.looks_findIn I1.kIn iC) (fun self => PySem.W.bind_fn I1.kIn self tI) (Nat.zero_le _) (codeAny_mono run fun r s' z => ?_))
  match r, z with
  | .error er, z => exact hx pins σ _ _ er s' I2 z
  | .ok (.ret u), z =>
    obtain ⟨v, H', I3, rv, ev, q3⟩ := I2.after z
    subst ev
    exact ⟨rv, V.ref (hp.objs.size + 1), H', I3, rfl, q3⟩
  | .ok .next, z => exact False.elim z
  | .ok .brk, z => exact False.elim z
  | .ok .cont, z => exact False.elim z⟩
end
end DQ

set_option Elab.async false
set_option linter.all false
set_option maxRecDepth 100000
set_option maxHeartbeats 4000000
namespace DQ
open PySem PySem.Spec PyProof.Rows L2
abbrev sInit (i : Nat) : Stmt := inClass (topS i) 0
/-- what the written part says of an own error class with a field -/
structure ErrAt (K : PySem.W.Frag) (mg : Str → Option Value) (name qual : Str) (st : Stmt) (C : Addr) : Prop where
  g : mg name = some (.ref C)
  T : OexC K C
  xf : XfC K C
  noV : PySem.W.findIn K (.ref C) "value" = some none
  er : ErrC K C
  eq : PySem.W.findIn K (.ref C) "__eq__" = some (some (.builtin "object.__eq__"))
  init : ∃ (fI : Addr) (fd : FuncData), PySem.W.findIn K (.ref C) "__init__" = some (some (.ref fI)) ∧ PySem.W.typeIn K (.ref fI) = some (.type "function") ∧ FunD K "__init__" qual (defArgs st) (defBody st) (defScope st) [V.non] [] fI fd
def spInit (K : PySem.W.Frag) : Sp := fun vs H Q _ => ∃ (a C : Addr) (v : V), vs = [.ref a, v] ∧ OexC K C ∧ PySem.W.findIn K (.ref C) "value" = some none ∧ H a = some (exo a C none) ∧ ∀ d, H d = none → d ≠ a → Q .non (upd (upd H d (exd d [("value", v)])) a (exo a C (some d)))
def iA (p1 p2 p3 : Pos) : Arguments := { posonlyargs := [], args := [{ arg := "self", annotation := none, pos := p1 }, { arg := "value", annotation := none, pos := p2 }], vararg := none, kwonlyargs := [], kw_defaults := [], kwarg := none, defaults := [.Constant .none 0 p3] }
def iB (q1 q2 q3 q4 : Pos) : List Stmt := [.Assign [.Attribute (.Name "self" q1) "value" q2] (.Name "value" q3) q4]
def iS : Scope := { kind := .function, names := [("self", .local), ("value", .local)], isGenerator := false, isCoroutine := false, more := [] }
/-- the one text that all these __init__ have -/
def InitText (st : Stmt) : Prop := ∃ p1 p2 p3 q1 q2 q3 q4 : Pos, defArgs st = iA p1 p2 p3 ∧ defBody st = iB q1 q2 q3 q4 ∧ defScope st = iS
theorem it2 : InitText (sInit 2) := ⟨_, _, _, _, _, _, _, rfl, rfl, rfl⟩
theorem it3 : InitText (sInit 3) := ⟨_, _, _, _, _, _, _, rfl, rfl, rfl⟩
theorem it4 : InitText (sInit 4) := ⟨_, _, _, _, _, _, _, rfl, rfl, rfl⟩
theorem it5 : InitText (sInit 5) := ⟨_, _, _, _, _, _, _, rfl, rfl, rfl⟩
theorem it6 : InitText (sInit 6) := ⟨_, _, _, _, _, _, _, rfl, rfl, rfl⟩
theorem it7 : InitText (sInit 7) := ⟨_, _, _, _, _, _, _, rfl, rfl, rfl⟩
theorem it8 : InitText (sInit 8) := ⟨_, _, _, _, _, _, _, rfl, rfl, rfl⟩
theorem it9 : InitText (sInit 9) := ⟨_, _, _, _, _, _, _, rfl, rfl, rfl⟩
theorem it10 : InitText (sInit 10) := ⟨_, _, _, _, _, _, _, rfl, rfl, rfl⟩
theorem it11 : InitText (sInit 11) := ⟨_, _, _, _, _, _, _, rfl, rfl, rfl⟩
theorem it12 : InitText (sInit 12) := ⟨_, _, _, _, _, _, _, rfl, rfl, rfl⟩
theorem it13 : InitText (sInit 13) := ⟨_, _, _, _, _, _, _, rfl, rfl, rfl⟩
section
variable {P : Program} {w : World} {K : PySem.W.Frag} {mg : Str → Option Value} {base : Heap} {st : Stmt} {qual : Str} {fI : Addr} {fd : FuncData}
theorem scInit : FnScope ["self", "value"] ["self", "value"] iS := ⟨rfl, rfl, rfl, by decide +kernel, rfl, by decide +kernel, by decide +kernel⟩
theorem ok_init (t : InitText st) (F : FunD K "__init__" qual (defArgs st) (defBody st) (defScope st) [V.non] [] fI fd) : FnOk P w K mg base CX0 1 fI fd ["self", "value"] (spInit K) := by
  obtain ⟨p1, p2, p3, q1, q2, q3, q4, e1, e2, e3⟩ := t
  rw [e1, e2, e3] at F
  refine F.ok scInit (fun vs H Q E h => ?_) (fun cdv A outer s H vs Q E hr h => ?_)
  · obtain ⟨a, C, v, rfl, _⟩ := h
    rfl
  obtain ⟨a, C, v, rfl, T, no, ea, q⟩ := h
  refine ⟨_, PSs.nox (pss_one (ps_ost (pv 0) (pv 1))), ?_⟩
  exact ⟨_, rfl, _, rfl, a, C, rfl, T, no, .inl ⟨ea, fun d hd ne => q d hd ne⟩⟩
theorem binds_two (t : InitText st) (F : FunD K "__init__" qual (defArgs st) (defBody st) (defScope st) [V.non] [] fI fd) : Binds K fd ["self", "value"] [] := by
  obtain ⟨p1, p2, p3, q1, q2, q3, q4, e1, e2, e3⟩ := t
  rw [e1, e2, e3] at F
  obtain ⟨ds, r, b⟩ := F.binds1 (ps := ["self", "value"]) 2 1 (by simp) rfl fun T kV doc pm an cdv ct us its l1 l2 => match us, l1, its, l2 with
    | [_, _], _, [_], _ => ⟨_, rfl, rfl⟩
  cases r
  exact b
theorem binds_one (t : InitText st) (F : FunD K "__init__" qual (defArgs st) (defBody st) (defScope st) [V.non] [] fI fd) : ∃ ds, Vals [V.non] ds ∧ Binds K fd ["self", "value"] ds := by
  obtain ⟨p1, p2, p3, q1, q2, q3, q4, e1, e2, e3⟩ := t
  rw [e1, e2, e3] at F
  obtain ⟨ds, r, b⟩ := F.binds1 (ps := ["self", "value"]) 1 0 (by simp) rfl fun T kV doc pm an cdv ct us its l1 l2 => match us, l1, its, l2 with
    | [_], _, [_], _ => ⟨_, rfl, rfl⟩
  exact ⟨ds, r, b⟩
theorem binds_kw (t : InitText st) (F : FunD K "__init__" qual (defArgs st) (defBody st) (defScope st) [V.non] [] fI fd) : KBn K fd ["self", "value"] 1 ["value"] (fun us ws => us ++ ws) (fun vs zs => vs ++ zs) := by
  obtain ⟨p1, p2, p3, q1, q2, q3, q4, e1, e2, e3⟩ := t
  rw [e1, e2, e3] at F
  obtain ⟨its, b⟩ := F.kbindsD (ps := ["self", "value"]) 1 ["value"] (fun us _ ws => us ++ ws) (by simp) (fun r1 _ r3 => r1.append r3) fun T kV doc pm an cdv ct us its ws l1 l2 l3 => match us, l1, its, l2, ws, l3 with
    | [_], _, [_], _, [_], _ => ⟨_, rfl, rfl⟩
  exact ⟨b.to, b.rel⟩
/-- a made error: at a, of the class at C, value in its field -/
def Made (H : Hp) (a C : Addr) (v : V) : Prop := ∃ d, a ≠ d ∧ H a = some (exo a C (some d)) ∧ H d = some (exd d [("value", v)])
theorem Made.same {H H' : Hp} {a C : Addr} {v : V} (m : Made H a C v) (s : Same H H') : Made H' a C v := by
  obtain ⟨d, ne, e1, e2⟩ := m
  exact ⟨d, ne, s _ _ e1, s _ _ e2⟩
end
theorem made_same {H1 : Hp} {a d C : Addr} {v : V} (ha : H1 a = none) (hd : upd H1 a (exo a C none) d = none) (ne : d ≠ a) : Same H1 (upd (upd (upd H1 a (exo a C none)) d (exd d [("value", v)])) a (exo a C (some d))) ∧ Made (upd (upd (upd H1 a (exo a C none)) d (exd d [("value", v)])) a (exo a C (some d))) a C v := by
  have hd1 : H1 d = none := by
    rw [upd_ne ne] at hd
    exact hd
  refine ⟨fun b o q => ?_, d, ne.symm, upd_same, ?_⟩
  · rw [upd_ne (ne_of_none q ha), upd_ne (ne_of_none q hd1), upd_ne (ne_of_none q ha)]
    exact q
  · rw [upd_ne ne, upd_same]
/-- what making an error asks, by what is wanted of it -/
theorem init_read {K : PySem.W.Frag} {C : Addr} {H1 : Hp} {v : V} {Q : VK} (T : OexC K C) (noV : PySem.W.findIn K (.ref C) "value" = some none) (h : ∀ a H2, Same H1 H2 → H1 a = none → Made H2 a C v → Q (.ref a) H2) :
    ∀ a, H1 a = none → spInit K [.ref a, v] (upd H1 a (exo a C none)) (fun v H2 => v = .non ∧ Q (.ref a) H2) (fun _ _ _ => False) := fun a ha =>
  ⟨a, C, v, rfl, T, noV, upd_same, fun d hd ne => ⟨rfl, h a _ (made_same ha hd ne).1 ha (made_same ha hd ne).2⟩⟩
/-- the rules at hand for one class -/
structure ErrUse (P : Program) (w : World) (K : PySem.W.Frag) (mg : Str → Option Value) (base : Heap) (name : Str) (C : Addr) : Prop where
  g : mg name = some (.ref C)
  T : OexC K C
  xf : XfC K C
  noV : PySem.W.findIn K (.ref C) "value" = some none
  er : ErrC K C
  eq : PySem.W.findIn K (.ref C) "__eq__" = some (some (.builtin "object.__eq__"))
  ok : ∃ (fI : Addr) (fd : FuncData) (ds : List Value), PySem.W.findIn K (.ref C) "__init__" = some (some (.ref fI)) ∧ PySem.W.typeIn K (.ref fI) = some (.type "function") ∧ FnOk P w K mg base CX0 1 fI fd ["self", "value"] (spInit K) ∧
    Binds K fd ["self", "value"] [] ∧ Vals [V.non] ds ∧ Binds K fd ["self", "value"] ds ∧ KBn K fd ["self", "value"] 1 ["value"] (fun us ws => us ++ ws) (fun vs zs => vs ++ zs)
theorem ErrAt.use {P : Program} {w : World} {K : PySem.W.Frag} {mg : Str → Option Value} {base : Heap} {name qual : Str} {st : Stmt} {C : Addr} (E : ErrAt K mg name qual st C) (t : InitText st) : ErrUse P w K mg base name C := by
  obtain ⟨fI, fd, iC, tI, F⟩ := E.init
  obtain ⟨ds, r, b⟩ := binds_one t F
  exact ⟨E.g, E.T, E.xf, E.noV, E.er, E.eq, fI, fd, ds, iC, tI, ok_init t F, binds_two t F, r, b, binds_kw t F⟩
theorem pe_ref {X : Cx} {x : Str} {C : Addr} {pos : Pos} (hg : Gl X x) (hm : X.mg x = some (.ref C)) (hd : (x == ("__debug__" : Str)) = false := by decide) : PE X (.Name x pos) (tC (.ref C)) := pe_glob (v := .ref C) hg hm rfl hd
theorem if_ne {x y : V} {A B : Prop} (h : x ≠ y) (b : B) : if decide (x = y) = true then A else B := by
  rw [decide_eq_false h]
  exact iteF b
theorem if_eq {x y : V} {A B : Prop} (h : x = y) (b : A) : if decide (x = y) = true then A else B := by
  rw [decide_eq_true h]
  exact iteT b
section
variable {P : Program} {w : World} {K : PySem.W.Frag} {mg : Str → Option Value} {base : Heap}

abbrev sFirst : Stmt := topS 21
theorem scFirst : FnScope ["which", "value"] ["which", "value"] (defScope sFirst) := ⟨rfl, rfl, rfl, by decide +kernel, rfl, by decide +kernel, by decide +kernel⟩
/-- an error of the class with this number, that bears the value -/
def spFirst (cl : Nat → Addr) : Sp := fun vs H Q _ => ∃ (i : Nat) (v : V), vs = [.int i, v] ∧ 0 ≤ i ∧ i < 6 ∧ ∀ a H2, Same H H2 → H a = none → Made H2 a (cl i) v → Q (.ref a) H2
theorem ok_first {cl : Nat → Addr} {f : Addr} {fd : FuncData} (F : Fun K "_law_first" "_law_first" sFirst f fd) (E0 : ErrUse P w K mg base "InvalidStore" (cl 0)) (E1 : ErrUse P w K mg base "InvalidQuestion" (cl 1)) (E2 : ErrUse P w K mg base "InvalidName" (cl 2)) (E3 : ErrUse P w K mg base "InvalidItem" (cl 3)) (E4 : ErrUse P w K mg base "InvalidFact" (cl 4)) (E5 : ErrUse P w K mg base "InvalidNumber" (cl 5)) : FnOk P w K mg base CX0 3 f fd ["which", "value"] (spFirst cl) := by
  obtain ⟨f0, d0, _, i0, t0, o0, b0, _, _, _⟩ := E0.ok
  obtain ⟨f1, d1, _, i1, t1, o1, b1, _, _, _⟩ := E1.ok
  obtain ⟨f2, d2, _, i2, t2, o2, b2, _, _, _⟩ := E2.ok
  obtain ⟨f3, d3, _, i3, t3, o3, b3, _, _, _⟩ := E3.ok
  obtain ⟨f4, d4, _, i4, t4, o4, b4, _, _, _⟩ := E4.ok
  obtain ⟨f5, d5, _, i5, t5, o5, b5, _, _, _⟩ := E5.ok
  refine F.ok scFirst (fun vs H Q E h => ?_) (fun cdv A outer s H vs Q E hr h => ?_)
  · obtain ⟨i, v, rfl, _⟩ := h
    rfl
  obtain ⟨i, v, rfl, h0, h1, q⟩ := h
  refine ⟨_, (pss_cons (ps_if (pt_cmpR op_eq (pv 0) pe_int (nomark _)) (pss_one (ps_ret (pe_err E0.T i0 t0 o0 hr b0 .nil pass0 (by rfl) E0.g (pa_cons (pv 1) pa_nil)))) pss_nil)
    (pss_cons (ps_if (pt_cmpR op_eq (pv 0) pe_int (nomark _)) (pss_one (ps_ret (pe_err E1.T i1 t1 o1 hr b1 .nil pass0 (by rfl) E1.g (pa_cons (pv 1) pa_nil)))) pss_nil)
    (pss_cons (ps_if (pt_cmpR op_eq (pv 0) pe_int (nomark _)) (pss_one (ps_ret (pe_err E2.T i2 t2 o2 hr b2 .nil pass0 (by rfl) E2.g (pa_cons (pv 1) pa_nil)))) pss_nil)
    (pss_cons (ps_if (pt_cmpR op_eq (pv 0) pe_int (nomark _)) (pss_one (ps_ret (pe_err E3.T i3 t3 o3 hr b3 .nil pass0 (by rfl) E3.g (pa_cons (pv 1) pa_nil)))) pss_nil)
    (pss_cons (ps_if (pt_cmpR op_eq (pv 0) pe_int (nomark _)) (pss_one (ps_ret (pe_err E4.T i4 t4 o4 hr b4 .nil pass0 (by rfl) E4.g (pa_cons (pv 1) pa_nil)))) pss_nil)
    (pss_cons (ps_if (pt_cmpR op_eq (pv 0) pe_int (nomark _)) (pss_one (ps_ret (pe_err E5.T i5 t5 o5 hr b5 .nil pass0 (by rfl) E5.g (pa_cons (pv 1) pa_nil)))) pss_nil)
    (pss_one (ps_ret pe_non)))))))), ?_⟩
  match i, h0, h1 with
  | 0, _, _ =>
    refine ⟨_, rfl, rfl, _, rfl, if_eq rfl ?_⟩
    exact ⟨_, rfl, by show 1 ≤ 1000; decide, init_read E0.T E0.noV fun a H2 s2 n2 m2 => q a H2 s2 n2 m2⟩
  | 1, _, _ =>
    refine ⟨_, rfl, rfl, _, rfl, if_ne (by decide) ?_⟩
    refine ⟨_, rfl, rfl, _, rfl, if_eq rfl ?_⟩
    exact ⟨_, rfl, by show 1 ≤ 1000; decide, init_read E1.T E1.noV fun a H2 s2 n2 m2 => q a H2 s2 n2 m2⟩
  | 2, _, _ =>
    refine ⟨_, rfl, rfl, _, rfl, if_ne (by decide) ?_⟩
    refine ⟨_, rfl, rfl, _, rfl, if_ne (by decide) ?_⟩
    refine ⟨_, rfl, rfl, _, rfl, if_eq rfl ?_⟩
    exact ⟨_, rfl, by show 1 ≤ 1000; decide, init_read E2.T E2.noV fun a H2 s2 n2 m2 => q a H2 s2 n2 m2⟩
  | 3, _, _ =>
    refine ⟨_, rfl, rfl, _, rfl, if_ne (by decide) ?_⟩
    refine ⟨_, rfl, rfl, _, rfl, if_ne (by decide) ?_⟩
    refine ⟨_, rfl, rfl, _, rfl, if_ne (by decide) ?_⟩
    refine ⟨_, rfl, rfl, _, rfl, if_eq rfl ?_⟩
    exact ⟨_, rfl, by show 1 ≤ 1000; decide, init_read E3.T E3.noV fun a H2 s2 n2 m2 => q a H2 s2 n2 m2⟩
  | 4, _, _ =>
    refine ⟨_, rfl, rfl, _, rfl, if_ne (by decide) ?_⟩
    refine ⟨_, rfl, rfl, _, rfl, if_ne (by decide) ?_⟩
    refine ⟨_, rfl, rfl, _, rfl, if_ne (by decide) ?_⟩
    refine ⟨_, rfl, rfl, _, rfl, if_ne (by decide) ?_⟩
    refine ⟨_, rfl, rfl, _, rfl, if_eq rfl ?_⟩
    exact ⟨_, rfl, by show 1 ≤ 1000; decide, init_read E4.T E4.noV fun a H2 s2 n2 m2 => q a H2 s2 n2 m2⟩
  | 5, _, _ =>
    refine ⟨_, rfl, rfl, _, rfl, if_ne (by decide) ?_⟩
    refine ⟨_, rfl, rfl, _, rfl, if_ne (by decide) ?_⟩
    refine ⟨_, rfl, rfl, _, rfl, if_ne (by decide) ?_⟩
    refine ⟨_, rfl, rfl, _, rfl, if_ne (by decide) ?_⟩
    refine ⟨_, rfl, rfl, _, rfl, if_ne (by decide) ?_⟩
    refine ⟨_, rfl, rfl, _, rfl, if_eq rfl ?_⟩
    exact ⟨_, rfl, by show 1 ≤ 1000; decide, init_read E5.T E5.noV fun a H2 s2 n2 m2 => q a H2 s2 n2 m2⟩

abbrev sSecond : Stmt := topS 22
theorem scSecond : FnScope ["which", "value"] ["which", "value"] (defScope sSecond) := ⟨rfl, rfl, rfl, by decide +kernel, rfl, by decide +kernel, by decide +kernel⟩
/-- an error of the class with this number, that bears the value -/
def spSecond (cl : Nat → Addr) : Sp := fun vs H Q _ => ∃ (i : Nat) (v : V), vs = [.int i, v] ∧ 6 ≤ i ∧ i < 12 ∧ ∀ a H2, Same H H2 → H a = none → Made H2 a (cl i) v → Q (.ref a) H2
theorem ok_second {cl : Nat → Addr} {f : Addr} {fd : FuncData} (F : Fun K "_law_second" "_law_second" sSecond f fd) (E6 : ErrUse P w K mg base "InvalidList" (cl 6)) (E7 : ErrUse P w K mg base "InvalidText" (cl 7)) (E8 : ErrUse P w K mg base "InvalidPaper" (cl 8)) (E9 : ErrUse P w K mg base "InvalidFlag" (cl 9)) (E10 : ErrUse P w K mg base "Unlike" (cl 10)) (E11 : ErrUse P w K mg base "TooMany" (cl 11)) : FnOk P w K mg base CX0 3 f fd ["which", "value"] (spSecond cl) := by
  obtain ⟨f0, d0, _, i0, t0, o0, b0, _, _, _⟩ := E6.ok
  obtain ⟨f1, d1, _, i1, t1, o1, b1, _, _, _⟩ := E7.ok
  obtain ⟨f2, d2, _, i2, t2, o2, b2, _, _, _⟩ := E8.ok
  obtain ⟨f3, d3, _, i3, t3, o3, b3, _, _, _⟩ := E9.ok
  obtain ⟨f4, d4, _, i4, t4, o4, b4, _, _, _⟩ := E10.ok
  obtain ⟨f5, d5, _, i5, t5, o5, b5, _, _, _⟩ := E11.ok
  refine F.ok scSecond (fun vs H Q E h => ?_) (fun cdv A outer s H vs Q E hr h => ?_)
  · obtain ⟨i, v, rfl, _⟩ := h
    rfl
  obtain ⟨i, v, rfl, h0, h1, q⟩ := h
  refine ⟨_, (pss_cons (ps_if (pt_cmpR op_eq (pv 0) pe_int (nomark _)) (pss_one (ps_ret (pe_err E6.T i0 t0 o0 hr b0 .nil pass0 (by rfl) E6.g (pa_cons (pv 1) pa_nil)))) pss_nil)
    (pss_cons (ps_if (pt_cmpR op_eq (pv 0) pe_int (nomark _)) (pss_one (ps_ret (pe_err E7.T i1 t1 o1 hr b1 .nil pass0 (by rfl) E7.g (pa_cons (pv 1) pa_nil)))) pss_nil)
    (pss_cons (ps_if (pt_cmpR op_eq (pv 0) pe_int (nomark _)) (pss_one (ps_ret (pe_err E8.T i2 t2 o2 hr b2 .nil pass0 (by rfl) E8.g (pa_cons (pv 1) pa_nil)))) pss_nil)
    (pss_cons (ps_if (pt_cmpR op_eq (pv 0) pe_int (nomark _)) (pss_one (ps_ret (pe_err E9.T i3 t3 o3 hr b3 .nil pass0 (by rfl) E9.g (pa_cons (pv 1) pa_nil)))) pss_nil)
    (pss_cons (ps_if (pt_cmpR op_eq (pv 0) pe_int (nomark _)) (pss_one (ps_ret (pe_err E10.T i4 t4 o4 hr b4 .nil pass0 (by rfl) E10.g (pa_cons (pv 1) pa_nil)))) pss_nil)
    (pss_cons (ps_if (pt_cmpR op_eq (pv 0) pe_int (nomark _)) (pss_one (ps_ret (pe_err E11.T i5 t5 o5 hr b5 .nil pass0 (by rfl) E11.g (pa_cons (pv 1) pa_nil)))) pss_nil)
    (pss_one (ps_ret pe_non)))))))), ?_⟩
  match i, h0, h1 with
  | 6, _, _ =>
    refine ⟨_, rfl, rfl, _, rfl, if_eq rfl ?_⟩
    exact ⟨_, rfl, by show 1 ≤ 1000; decide, init_read E6.T E6.noV fun a H2 s2 n2 m2 => q a H2 s2 n2 m2⟩
  | 7, _, _ =>
    refine ⟨_, rfl, rfl, _, rfl, if_ne (by decide) ?_⟩
    refine ⟨_, rfl, rfl, _, rfl, if_eq rfl ?_⟩
    exact ⟨_, rfl, by show 1 ≤ 1000; decide, init_read E7.T E7.noV fun a H2 s2 n2 m2 => q a H2 s2 n2 m2⟩
  | 8, _, _ =>
    refine ⟨_, rfl, rfl, _, rfl, if_ne (by decide) ?_⟩
    refine ⟨_, rfl, rfl, _, rfl, if_ne (by decide) ?_⟩
    refine ⟨_, rfl, rfl, _, rfl, if_eq rfl ?_⟩
    exact ⟨_, rfl, by show 1 ≤ 1000; decide, init_read E8.T E8.noV fun a H2 s2 n2 m2 => q a H2 s2 n2 m2⟩
  | 9, _, _ =>
    refine ⟨_, rfl, rfl, _, rfl, if_ne (by decide) ?_⟩
    refine ⟨_, rfl, rfl, _, rfl, if_ne (by decide) ?_⟩
    refine ⟨_, rfl, rfl, _, rfl, if_ne (by decide) ?_⟩
    refine ⟨_, rfl, rfl, _, rfl, if_eq rfl ?_⟩
    exact ⟨_, rfl, by show 1 ≤ 1000; decide, init_read E9.T E9.noV fun a H2 s2 n2 m2 => q a H2 s2 n2 m2⟩
  | 10, _, _ =>
    refine ⟨_, rfl, rfl, _, rfl, if_ne (by decide) ?_⟩
    refine ⟨_, rfl, rfl, _, rfl, if_ne (by decide) ?_⟩
    refine ⟨_, rfl, rfl, _, rfl, if_ne (by decide) ?_⟩
    refine ⟨_, rfl, rfl, _, rfl, if_ne (by decide) ?_⟩
    refine ⟨_, rfl, rfl, _, rfl, if_eq rfl ?_⟩
    exact ⟨_, rfl, by show 1 ≤ 1000; decide, init_read E10.T E10.noV fun a H2 s2 n2 m2 => q a H2 s2 n2 m2⟩
  | 11, _, _ =>
    refine ⟨_, rfl, rfl, _, rfl, if_ne (by decide) ?_⟩
    refine ⟨_, rfl, rfl, _, rfl, if_ne (by decide) ?_⟩
    refine ⟨_, rfl, rfl, _, rfl, if_ne (by decide) ?_⟩
    refine ⟨_, rfl, rfl, _, rfl, if_ne (by decide) ?_⟩
    refine ⟨_, rfl, rfl, _, rfl, if_ne (by decide) ?_⟩
    refine ⟨_, rfl, rfl, _, rfl, if_eq rfl ?_⟩
    exact ⟨_, rfl, by show 1 ≤ 1000; decide, init_read E11.T E11.noV fun a H2 s2 n2 m2 => q a H2 s2 n2 m2⟩
abbrev sFlags : Stmt := topS 23
theorem scFlags : FnScope ["error", "found"] ["error"] (defScope sFlags) := ⟨rfl, rfl, rfl, by decide +kernel, rfl, by decide +kernel, by decide +kernel⟩
/-- of which of the fourteen classes the error is -/
def flags (i : Nat) : List Bool := (List.range 14).map fun j => decide (j = i)
/-- an error (with or without a field) of the class with a number -/
def ErrOf (K : PySem.W.Frag) (cl : Nat → Addr) (H : Hp) (a : Addr) (i : Nat) : Prop := ErrC K (cl i) ∧ ∃ d, H a = some (exo a (cl i) d) ∧ ∀ dx, d = some dx → ∃ fs, H dx = some (exd dx fs)
def spFlags (K : PySem.W.Frag) (cl : Nat → Addr) : Sp := fun vs H Q _ => ∃ (a : Addr) (i : Nat), vs = [.ref a] ∧ i < 14 ∧ ErrOf K cl H a i ∧ ∀ p H', Same H H' → H p = none → H' p = some (.lst ((flags i).map V.bl)) → Q (.ref p) H'
theorem ok_flags {cl : Nat → Addr} {f : Addr} {fd : FuncData} (F : Fun K "_law_flags" "_law_flags" sFlags f fd) (mI : mg "isinstance" = none) (kit : ∀ i j, i < 14 → j < 14 → PySem.W.kitOne K (.ref (cl i)) (.ref (cl j)) = some (decide (j = i))) (g0 : mg "InvalidStore" = some (.ref (cl 0))) (g1 : mg "InvalidQuestion" = some (.ref (cl 1))) (g2 : mg "InvalidName" = some (.ref (cl 2))) (g3 : mg "InvalidItem" = some (.ref (cl 3))) (g4 : mg "InvalidFact" = some (.ref (cl 4))) (g5 : mg "InvalidNumber" = some (.ref (cl 5))) (g6 : mg "InvalidList" = some (.ref (cl 6))) (g7 : mg "InvalidText" = some (.ref (cl 7))) (g8 : mg "InvalidPaper" = some (.ref (cl 8))) (g9 : mg "InvalidFlag" = some (.ref (cl 9))) (g10 : mg "Unlike" = some (.ref (cl 10))) (g11 : mg "TooMany" = some (.ref (cl 11))) (g12 : mg "NothingToUndo" = some (.ref (cl 12))) (g13 : mg "NothingToRedo" = some (.ref (cl 13))) : FnOk P w K mg base CX0 1 f fd ["error"] (spFlags K cl) := by
  refine F.ok scFlags (fun vs H Q E h => ?_) (fun cdv A outer s H vs Q E hr h => ?_)
  · obtain ⟨a, i, rfl, _⟩ := h
    rfl
  obtain ⟨a, i, rfl, hi, ⟨T, d, ea, ed⟩, q⟩ := h
  have hk := fun j hj => kit i j hi hj
  refine ⟨_, pss_cons (ps_set (i := 1) scFlags.nd rfl (.inl rfl) (pe_lst (pa_cons (pe_callB call_errIs (by rfl) mI (by decide +kernel) (pa_cons (pv 0) (pa_cons (pe_ref (by rfl) g0) pa_nil))) (pa_cons (pe_callB call_errIs (by rfl) mI (by decide +kernel) (pa_cons (pv 0) (pa_cons (pe_ref (by rfl) g1) pa_nil))) (pa_cons (pe_callB call_errIs (by rfl) mI (by decide +kernel) (pa_cons (pv 0) (pa_cons (pe_ref (by rfl) g2) pa_nil))) (pa_cons (pe_callB call_errIs (by rfl) mI (by decide +kernel) (pa_cons (pv 0) (pa_cons (pe_ref (by rfl) g3) pa_nil))) pa_nil))))))
    (pss_cons (ps_set (i := 1) scFlags.nd rfl (.inl rfl) (pe_op op_cat (pv 1) (pe_lst (pa_cons (pe_callB call_errIs (by rfl) mI (by decide +kernel) (pa_cons (pv 0) (pa_cons (pe_ref (by rfl) g4) pa_nil))) (pa_cons (pe_callB call_errIs (by rfl) mI (by decide +kernel) (pa_cons (pv 0) (pa_cons (pe_ref (by rfl) g5) pa_nil))) (pa_cons (pe_callB call_errIs (by rfl) mI (by decide +kernel) (pa_cons (pv 0) (pa_cons (pe_ref (by rfl) g6) pa_nil))) (pa_cons (pe_callB call_errIs (by rfl) mI (by decide +kernel) (pa_cons (pv 0) (pa_cons (pe_ref (by rfl) g7) pa_nil))) pa_nil)))))))
    (pss_cons (ps_set (i := 1) scFlags.nd rfl (.inl rfl) (pe_op op_cat (pv 1) (pe_lst (pa_cons (pe_callB call_errIs (by rfl) mI (by decide +kernel) (pa_cons (pv 0) (pa_cons (pe_ref (by rfl) g8) pa_nil))) (pa_cons (pe_callB call_errIs (by rfl) mI (by decide +kernel) (pa_cons (pv 0) (pa_cons (pe_ref (by rfl) g9) pa_nil))) (pa_cons (pe_callB call_errIs (by rfl) mI (by decide +kernel) (pa_cons (pv 0) (pa_cons (pe_ref (by rfl) g10) pa_nil))) (pa_cons (pe_callB call_errIs (by rfl) mI (by decide +kernel) (pa_cons (pv 0) (pa_cons (pe_ref (by rfl) g11) pa_nil))) pa_nil)))))))
    (pss_one (ps_ret (pe_op op_cat (pv 1) (pe_lst (pa_cons (pe_callB call_errIs (by rfl) mI (by decide +kernel) (pa_cons (pv 0) (pa_cons (pe_ref (by rfl) g12) pa_nil))) (pa_cons (pe_callB call_errIs (by rfl) mI (by decide +kernel) (pa_cons (pv 0) (pa_cons (pe_ref (by rfl) g13) pa_nil))) pa_nil)))))))), ?_⟩
  have s0 : Same H H := Same.refl H
  refine ⟨_, rfl, a, cl i, d, .ref (cl 0), .ref (cl 0), _, rfl, s0 _ _ ea, (fun dx e => let ⟨fs, z⟩ := ed dx e; ⟨fs, s0 _ _ z⟩), T, .own _, hk 0 (by decide), ?_⟩
  refine ⟨_, rfl, a, cl i, d, .ref (cl 1), .ref (cl 1), _, rfl, s0 _ _ ea, (fun dx e => let ⟨fs, z⟩ := ed dx e; ⟨fs, s0 _ _ z⟩), T, .own _, hk 1 (by decide), ?_⟩
  refine ⟨_, rfl, a, cl i, d, .ref (cl 2), .ref (cl 2), _, rfl, s0 _ _ ea, (fun dx e => let ⟨fs, z⟩ := ed dx e; ⟨fs, s0 _ _ z⟩), T, .own _, hk 2 (by decide), ?_⟩
  refine ⟨_, rfl, a, cl i, d, .ref (cl 3), .ref (cl 3), _, rfl, s0 _ _ ea, (fun dx e => let ⟨fs, z⟩ := ed dx e; ⟨fs, s0 _ _ z⟩), T, .own _, hk 3 (by decide), ?_⟩
  refine ⟨by show 4 ≤ sizeLine; decide, fun p1 n1 => ?_⟩
  have m1 := same_new n1 (o := .lst [.bl (decide (0 = i)), .bl (decide (1 = i)), .bl (decide (2 = i)), .bl (decide (3 = i))])
  have e1 : upd H p1 (.lst [.bl (decide (0 = i)), .bl (decide (1 = i)), .bl (decide (2 = i)), .bl (decide (3 = i))]) p1 = some (.lst [.bl (decide (0 = i)), .bl (decide (1 = i)), .bl (decide (2 = i)), .bl (decide (3 = i))]) := upd_same
  generalize upd H p1 (.lst [.bl (decide (0 = i)), .bl (decide (1 = i)), .bl (decide (2 = i)), .bl (decide (3 = i))]) = H1 at m1 e1 ⊢
  have s1 := s0.trans m1
  refine ⟨_, rfl, ?_⟩
  refine ⟨_, rfl, a, cl i, d, .ref (cl 4), .ref (cl 4), _, rfl, s1 _ _ ea, (fun dx e => let ⟨fs, z⟩ := ed dx e; ⟨fs, s1 _ _ z⟩), T, .own _, hk 4 (by decide), ?_⟩
  refine ⟨_, rfl, a, cl i, d, .ref (cl 5), .ref (cl 5), _, rfl, s1 _ _ ea, (fun dx e => let ⟨fs, z⟩ := ed dx e; ⟨fs, s1 _ _ z⟩), T, .own _, hk 5 (by decide), ?_⟩
  refine ⟨_, rfl, a, cl i, d, .ref (cl 6), .ref (cl 6), _, rfl, s1 _ _ ea, (fun dx e => let ⟨fs, z⟩ := ed dx e; ⟨fs, s1 _ _ z⟩), T, .own _, hk 6 (by decide), ?_⟩
  refine ⟨_, rfl, a, cl i, d, .ref (cl 7), .ref (cl 7), _, rfl, s1 _ _ ea, (fun dx e => let ⟨fs, z⟩ := ed dx e; ⟨fs, s1 _ _ z⟩), T, .own _, hk 7 (by decide), ?_⟩
  refine ⟨by show 4 ≤ sizeLine; decide, fun p2 n2 => ?_⟩
  have m2 := same_new n2 (o := .lst [.bl (decide (4 = i)), .bl (decide (5 = i)), .bl (decide (6 = i)), .bl (decide (7 = i))])
  have e2 : upd H1 p2 (.lst [.bl (decide (4 = i)), .bl (decide (5 = i)), .bl (decide (6 = i)), .bl (decide (7 = i))]) p2 = some (.lst [.bl (decide (4 = i)), .bl (decide (5 = i)), .bl (decide (6 = i)), .bl (decide (7 = i))]) := upd_same
  generalize upd H1 p2 (.lst [.bl (decide (4 = i)), .bl (decide (5 = i)), .bl (decide (6 = i)), .bl (decide (7 = i))]) = H2 at m2 e2 ⊢
  refine ⟨p1, p2, _, _, rfl, rfl, m2 _ _ e1, e2, by show 4 + 4 ≤ sizeLine; decide, fun p3 n3 => ?_⟩
  have m3 := same_new n3 (o := .lst ([.bl (decide (0 = i)), .bl (decide (1 = i)), .bl (decide (2 = i)), .bl (decide (3 = i))] ++ [.bl (decide (4 = i)), .bl (decide (5 = i)), .bl (decide (6 = i)), .bl (decide (7 = i))]))
  have e3 : upd H2 p3 (.lst ([.bl (decide (0 = i)), .bl (decide (1 = i)), .bl (decide (2 = i)), .bl (decide (3 = i))] ++ [.bl (decide (4 = i)), .bl (decide (5 = i)), .bl (decide (6 = i)), .bl (decide (7 = i))])) p3 = some (.lst ([.bl (decide (0 = i)), .bl (decide (1 = i)), .bl (decide (2 = i)), .bl (decide (3 = i))] ++ [.bl (decide (4 = i)), .bl (decide (5 = i)), .bl (decide (6 = i)), .bl (decide (7 = i))])) := upd_same
  generalize upd H2 p3 (.lst ([.bl (decide (0 = i)), .bl (decide (1 = i)), .bl (decide (2 = i)), .bl (decide (3 = i))] ++ [.bl (decide (4 = i)), .bl (decide (5 = i)), .bl (decide (6 = i)), .bl (decide (7 = i))])) = H3 at m3 e3 ⊢
  have s2 := (s1.trans m2).trans m3
  refine ⟨_, rfl, ?_⟩
  refine ⟨_, rfl, a, cl i, d, .ref (cl 8), .ref (cl 8), _, rfl, s2 _ _ ea, (fun dx e => let ⟨fs, z⟩ := ed dx e; ⟨fs, s2 _ _ z⟩), T, .own _, hk 8 (by decide), ?_⟩
  refine ⟨_, rfl, a, cl i, d, .ref (cl 9), .ref (cl 9), _, rfl, s2 _ _ ea, (fun dx e => let ⟨fs, z⟩ := ed dx e; ⟨fs, s2 _ _ z⟩), T, .own _, hk 9 (by decide), ?_⟩
  refine ⟨_, rfl, a, cl i, d, .ref (cl 10), .ref (cl 10), _, rfl, s2 _ _ ea, (fun dx e => let ⟨fs, z⟩ := ed dx e; ⟨fs, s2 _ _ z⟩), T, .own _, hk 10 (by decide), ?_⟩
  refine ⟨_, rfl, a, cl i, d, .ref (cl 11), .ref (cl 11), _, rfl, s2 _ _ ea, (fun dx e => let ⟨fs, z⟩ := ed dx e; ⟨fs, s2 _ _ z⟩), T, .own _, hk 11 (by decide), ?_⟩
  refine ⟨by show 4 ≤ sizeLine; decide, fun p4 n4 => ?_⟩
  have m4 := same_new n4 (o := .lst [.bl (decide (8 = i)), .bl (decide (9 = i)), .bl (decide (10 = i)), .bl (decide (11 = i))])
  have e4 : upd H3 p4 (.lst [.bl (decide (8 = i)), .bl (decide (9 = i)), .bl (decide (10 = i)), .bl (decide (11 = i))]) p4 = some (.lst [.bl (decide (8 = i)), .bl (decide (9 = i)), .bl (decide (10 = i)), .bl (decide (11 = i))]) := upd_same
  generalize upd H3 p4 (.lst [.bl (decide (8 = i)), .bl (decide (9 = i)), .bl (decide (10 = i)), .bl (decide (11 = i))]) = H4 at m4 e4 ⊢
  refine ⟨p3, p4, _, _, rfl, rfl, m4 _ _ e3, e4, by show 8 + 4 ≤ sizeLine; decide, fun p5 n5 => ?_⟩
  have m5 := same_new n5 (o := .lst (([.bl (decide (0 = i)), .bl (decide (1 = i)), .bl (decide (2 = i)), .bl (decide (3 = i))] ++ [.bl (decide (4 = i)), .bl (decide (5 = i)), .bl (decide (6 = i)), .bl (decide (7 = i))]) ++ [.bl (decide (8 = i)), .bl (decide (9 = i)), .bl (decide (10 = i)), .bl (decide (11 = i))]))
  have e5 : upd H4 p5 (.lst (([.bl (decide (0 = i)), .bl (decide (1 = i)), .bl (decide (2 = i)), .bl (decide (3 = i))] ++ [.bl (decide (4 = i)), .bl (decide (5 = i)), .bl (decide (6 = i)), .bl (decide (7 = i))]) ++ [.bl (decide (8 = i)), .bl (decide (9 = i)), .bl (decide (10 = i)), .bl (decide (11 = i))])) p5 = some (.lst (([.bl (decide (0 = i)), .bl (decide (1 = i)), .bl (decide (2 = i)), .bl (decide (3 = i))] ++ [.bl (decide (4 = i)), .bl (decide (5 = i)), .bl (decide (6 = i)), .bl (decide (7 = i))]) ++ [.bl (decide (8 = i)), .bl (decide (9 = i)), .bl (decide (10 = i)), .bl (decide (11 = i))])) := upd_same
  generalize upd H4 p5 (.lst (([.bl (decide (0 = i)), .bl (decide (1 = i)), .bl (decide (2 = i)), .bl (decide (3 = i))] ++ [.bl (decide (4 = i)), .bl (decide (5 = i)), .bl (decide (6 = i)), .bl (decide (7 = i))]) ++ [.bl (decide (8 = i)), .bl (decide (9 = i)), .bl (decide (10 = i)), .bl (decide (11 = i))])) = H5 at m5 e5 ⊢
  have s3 := (s2.trans m4).trans m5
  refine ⟨_, rfl, ?_⟩
  refine ⟨_, rfl, a, cl i, d, .ref (cl 12), .ref (cl 12), _, rfl, s3 _ _ ea, (fun dx e => let ⟨fs, z⟩ := ed dx e; ⟨fs, s3 _ _ z⟩), T, .own _, hk 12 (by decide), ?_⟩
  refine ⟨_, rfl, a, cl i, d, .ref (cl 13), .ref (cl 13), _, rfl, s3 _ _ ea, (fun dx e => let ⟨fs, z⟩ := ed dx e; ⟨fs, s3 _ _ z⟩), T, .own _, hk 13 (by decide), ?_⟩
  refine ⟨by show 2 ≤ sizeLine; decide, fun p6 n6 => ?_⟩
  have m6 := same_new n6 (o := .lst [.bl (decide (12 = i)), .bl (decide (13 = i))])
  have e6 : upd H5 p6 (.lst [.bl (decide (12 = i)), .bl (decide (13 = i))]) p6 = some (.lst [.bl (decide (12 = i)), .bl (decide (13 = i))]) := upd_same
  generalize upd H5 p6 (.lst [.bl (decide (12 = i)), .bl (decide (13 = i))]) = H6 at m6 e6 ⊢
  refine ⟨p5, p6, _, _, rfl, rfl, m6 _ _ e5, e6, by show 12 + 2 ≤ sizeLine; decide, fun p7 n7 => ?_⟩
  have m7 := same_new n7 (o := .lst ((([.bl (decide (0 = i)), .bl (decide (1 = i)), .bl (decide (2 = i)), .bl (decide (3 = i))] ++ [.bl (decide (4 = i)), .bl (decide (5 = i)), .bl (decide (6 = i)), .bl (decide (7 = i))]) ++ [.bl (decide (8 = i)), .bl (decide (9 = i)), .bl (decide (10 = i)), .bl (decide (11 = i))]) ++ [.bl (decide (12 = i)), .bl (decide (13 = i))]))
  have e7 : upd H6 p7 (.lst ((([.bl (decide (0 = i)), .bl (decide (1 = i)), .bl (decide (2 = i)), .bl (decide (3 = i))] ++ [.bl (decide (4 = i)), .bl (decide (5 = i)), .bl (decide (6 = i)), .bl (decide (7 = i))]) ++ [.bl (decide (8 = i)), .bl (decide (9 = i)), .bl (decide (10 = i)), .bl (decide (11 = i))]) ++ [.bl (decide (12 = i)), .bl (decide (13 = i))])) p7 = some (.lst ((([.bl (decide (0 = i)), .bl (decide (1 = i)), .bl (decide (2 = i)), .bl (decide (3 = i))] ++ [.bl (decide (4 = i)), .bl (decide (5 = i)), .bl (decide (6 = i)), .bl (decide (7 = i))]) ++ [.bl (decide (8 = i)), .bl (decide (9 = i)), .bl (decide (10 = i)), .bl (decide (11 = i))]) ++ [.bl (decide (12 = i)), .bl (decide (13 = i))])) := upd_same
  generalize upd H6 p7 (.lst ((([.bl (decide (0 = i)), .bl (decide (1 = i)), .bl (decide (2 = i)), .bl (decide (3 = i))] ++ [.bl (decide (4 = i)), .bl (decide (5 = i)), .bl (decide (6 = i)), .bl (decide (7 = i))]) ++ [.bl (decide (8 = i)), .bl (decide (9 = i)), .bl (decide (10 = i)), .bl (decide (11 = i))]) ++ [.bl (decide (12 = i)), .bl (decide (13 = i))])) = H7 at m7 e7 ⊢
  exact q p7 _ ((s3.trans m6).trans m7) ((s3.trans m6).free n7) e7
end
end DQ

set_option Elab.async false
set_option linter.all false
set_option maxRecDepth 100000
set_option maxHeartbeats 4000000
namespace DQ
open PySem PySem.Spec PyProof.Rows L2
/-- what e.value asks of e -/
def fldQ (K : PySem.W.Frag) (Q : VK) : VK := fun x H1 => ∃ (a C d : Addr) (fs : List (Str × V)) (v : V), x = .ref a ∧ H1 a = some (exo a C (some d)) ∧ H1 d = some (exd d fs) ∧ XfC K C ∧ PySem.W.findIn K (.ref C) ("value" : Str) = some none ∧ fs.lookup ("value" : Str) = some v ∧ Q v H1
theorem fldQ_of {K : PySem.W.Frag} {Q : VK} {C a : Addr} {v : V} {H2 : Hp} (noV : PySem.W.findIn K (.ref C) ("value" : Str) = some none) (xf : XfC K C) (m : Made H2 a C v) (q : Q v H2) : fldQ K Q (.ref a) H2 := by
  obtain ⟨d, ne, e1, e2⟩ := m
  exact ⟨a, C, d, _, v, rfl, e1, e2, xf, noV, rfl, q⟩
section
variable {X : Cx} {name : Str} {C : Addr} {p pos p2 kpos : Pos} {j : Nat} {te : TE}
/-- C().value -/
theorem pe_bareFld (E : ErrUse X.prog X.w X.K X.mg X.base name C) (hr : Room 2 X.A) (hx : Passes CX0 X (fun _ _ _ => False)) (hg : Gl X name) (hdb : (name == ("__debug__" : Str)) = false := by decide)
    (hb : attributeBase (.Call (.Name name p) [] [] pos) "value" X.env (eval (.Call (.Name name p) [] [] pos) X.env) = eval (.Call (.Name name p) [] [] pos) X.env := by rfl) :
    PE X (.Attribute (.Call (.Name name p) [] [] pos) "value" p2) (fun _ H Q => ∀ H2, Same H H2 → Q .non H2) := ⟨fun pins s σ H Q I h => by
  obtain ⟨fI, fd, ds, iC, tI, ok, _, rd, b1, _⟩ := E.ok
  exact (pe_errFld (pe_err0 E.T iC tI ok hr b1 rd hx hg E.g hdb) hb).run pins s σ H Q I ⟨by show 0 ≤ 1000; decide, init_read (v := .non) (H1 := H) (Q := fldQ X.K Q) E.T E.noV fun a H2 s2 n2 m2 => fldQ_of E.noV E.xf m2 (h H2 s2)⟩⟩
/-- C(c), c a constant -/
theorem pe_errC {e : Expr} {v : V} (E : ErrUse X.prog X.w X.K X.mg X.base name C) (hr : Room 2 X.A) (hx : Passes CX0 X (fun _ _ _ => False)) (hg : Gl X name) (he : PE X e (tC v)) (hdb : (name == ("__debug__" : Str)) = false := by decide)
    (hs : starEach (e :: []) X.env = (false, eval e X.env) :: starEach [] X.env := by rfl) (hpl : (backTo pos (starEach [] X.env)).any (·.1) = false := by rfl) :
    PE X (.Call (.Name name p) [e] [] pos) (fun _ H Q => ∀ a H2, Same H H2 → H a = none → Made H2 a C v → Q (.ref a) H2) := ⟨fun pins s σ H Q I h => by
  obtain ⟨fI, fd, ds, iC, tI, ok, b2, _⟩ := E.ok
  exact (pe_err E.T iC tI ok hr b2 .nil hx hg E.g (pa_cons he pa_nil hs) hdb hs hpl).run pins s σ H Q I ⟨by show 1 ≤ 1000; decide, init_read (v := v) (H1 := H) (Q := Q) E.T E.noV h⟩⟩
/-- C(value=e).value -/
theorem pe_kwFld {e : Expr} (E : ErrUse X.prog X.w X.K X.mg X.base name C) (hr : Room 2 X.A) (hx : Passes CX0 X (fun _ _ _ => False)) (hg : Gl X name) (he : PE X e te) (hdb : (name == ("__debug__" : Str)) = false := by decide)
    (hb : attributeBase (.Call (.Name name p) [] [⟨some "value", e, kpos⟩] pos) "value" X.env (eval (.Call (.Name name p) [] [⟨some "value", e, kpos⟩] pos) X.env) = eval (.Call (.Name name p) [] [⟨some "value", e, kpos⟩] pos) X.env := by rfl)
    (hall : (backToKw pos (keywordEach [⟨some "value", e, kpos⟩] X.env)).all (·.1.isSome) = true := by rfl) (hks : (backToKw pos (keywordEach [⟨some "value", e, kpos⟩] X.env)).filterMap (·.1) = [("value" : Str)] := by rfl)
    (hpl : ((backTo pos (starEach [] X.env)).any (·.1) || (backToKw pos (keywordEach [⟨some "value", e, kpos⟩] X.env)).any (·.1.isNone)) = false := by rfl) :
    PE X (.Attribute (.Call (.Name name p) [] [⟨some "value", e, kpos⟩] pos) "value" p2) (tErrFld X.K "value" (tErrK C 1 (spInit X.K) (fun vs zs => vs ++ zs) (tCons te tNil))) := ⟨fun pins s σ H Q I h => by
  obtain ⟨fI, fd, ds, iC, tI, ok, _, rd, b1, bk⟩ := E.ok
  exact (pe_errFld (pe_errK (ks := [("value" : Str)]) E.T iC tI ok hr bk hx hg E.g (pk_cons he pk_nil) hall hks hdb hpl) hb).run pins s σ H Q I h⟩
theorem kw_read {K : PySem.W.Frag} {H1 : Hp} {v : V} {Q : VK} (T : OexC K C) (noV : PySem.W.findIn K (.ref C) ("value" : Str) = some none) (xf : XfC K C) (h : ∀ H2, Same H1 H2 → Q v H2) :
    [v].length = 1 ∧ ∀ a, H1 a = none → spInit K ([.ref a] ++ [v]) (upd H1 a (exo a C none)) (fun u H2 => u = .non ∧ fldQ K Q (.ref a) H2) (fun _ _ _ => False) :=
  ⟨rfl, init_read (v := v) T noV fun a H2 s2 n2 m2 => fldQ_of noV xf m2 (h H2 s2)⟩
end
abbrev sLaw : Stmt := topS 24
abbrev NL : List Str := ["script", "generator", "value", "which", "error", "place", "bare", "field", "named"]
theorem scLaw : FnScope NL ["script"] (defScope sLaw) := ⟨rfl, rfl, rfl, by decide +kernel, rfl, by decide +kernel, by decide +kernel⟩
/-- "ab" a few times: some short text -/
def rAbRep : R2 := fun x y H Q => ∃ n : Int, x = .str "ab" ∧ y = .int n ∧ 0 ≤ n ∧ n < 3 ∧ ∀ z : Str, PyData.canLay0 (.str z) = true → Q (.str z) H
theorem op_abRep {X : Cx} : OpR X (binaryOp .Mult) rAbRep := by
  intro pins s σ H x y v u Q I rx ry h
  obtain ⟨n, rfl, rfl, h0, h1, q⟩ := h
  obtain ⟨t, rfl⟩ := rx
  obtain ⟨t', rfl⟩ := ry
  have q2 : ∀ (z : Str) (tk : Tok) (s' : Shared), PyData.canLay0 (.str z) = true → L2.Inv X pins σ H s' → EP X pins σ Q (.str z tk) s' := fun z tk s' ok J => ⟨.str z, H, J, ⟨tk, rfl⟩, q z ok⟩
  have n3 : n = 0 ∨ n = 1 ∨ n = 2 := by omega
  rcases n3 with rfl | rfl | rfl
  · exact PySem.P.mul_str_none (by decide) (by decide) (q2 _ _ _ (by decide +kernel) (I.tok _))
  · exact PySem.P.mul_str (by decide) (fun _ h => by cases h) (fun _ h => by cases h) (q2 _ _ _ (by decide +kernel) I)
  · exact PySem.P.mul_str (by decide) (fun _ _ => by decide +kernel) (fun _ _ => by decide +kernel) ⟨by decide +kernel, q2 _ _ _ (by decide +kernel) (I.tok _)⟩
/-- what the drawn value may be, but a list -/
def Dat (H : Hp) (v : V) : Prop := (∃ n, v = .int n) ∨ (∃ z, v = .str z ∧ PyData.canLay0 (.str z) = true) ∨ v = .non ∨ ∃ t u, v = .ref t ∧ H t = some (.tup [.int 2, .ref u]) ∧ H u = some (.tup [.int 3])
/-- .. a list that grows -/
def Lst (H : Hp) (v : V) (n : Nat) : Prop := ∃ (l : Addr) (ns : List Int), v = .ref l ∧ H l = some (.lst (.int 1 :: .non :: ns.map V.int)) ∧ ns.length = n
theorem Dat.same {H H' : Hp} {v : V} (d : Dat H v) (s : Same H H') : Dat H' v := by
  rcases d with d | d | d | ⟨t, u, e, e1, e2⟩
  · exact .inl d
  · exact .inr (.inl d)
  · exact .inr (.inr (.inl d))
  · exact .inr (.inr (.inr ⟨t, u, e, s _ _ e1, s _ _ e2⟩))
theorem Lst.same {H H' : Hp} {v : V} {n : Nat} (d : Lst H v n) (s : Same H H') : Lst H' v n := by
  obtain ⟨l, ns, e, e1, e2⟩ := d
  exact ⟨l, ns, e, s _ _ e1, e2⟩
theorem shaped_of {d : PyData} (h1 : d.canLay0 = true) (h2 : d.depth ≤ 64) : SeqAt.shaped d = true := by
  unfold SeqAt.shaped
  rw [h1, decide_eq_true h2]
  rfl
theorem Dat.read {K : PySem.W.Frag} {H : Hp} {v : V} (d : Dat H v) : ∃ t, TyX K H v t ∧ PySem.W.kitOne K t (.type "list") = some false ∧ ∃ y, Dp K H v y ∧ SeqAt.shaped y = true := by
  rcases d with ⟨n, rfl⟩ | ⟨z, rfl, ok⟩ | rfl | ⟨t, u, rfl, e1, e2⟩
  · exact ⟨_, .base (.int n), kit_ty (by decide +kernel), _, .int n, shaped_of rfl (by show 0 ≤ 64; decide)⟩
  · exact ⟨_, .base (.str z), kit_ty (by decide +kernel), _, .str z, by unfold SeqAt.shaped; rw [ok]; rfl⟩
  · exact ⟨_, .base .non, kit_ty (by decide +kernel), _, .non, by decide +kernel⟩
  · exact ⟨_, .base (.tup e1), kit_ty (by decide +kernel), _, .tup (.inl (.inl e1)) (.cons (.int 2) (.cons (.tup (.inl (.inl e2)) (.cons (.int 3) .nil)) .nil)), by decide +kernel⟩
theorem dp_ints {K : PySem.W.Frag} {H : Hp} : ∀ ns : List Int, DpAll K H (ns.map V.int) (ns.map PyData.int)
  | [] => .nil
  | n :: r => .cons (.int n) (dp_ints r)
theorem dp_bls {K : PySem.W.Frag} {H : Hp} : ∀ ns : List Bool, DpAll K H (ns.map V.bl) (ns.map PyData.bool)
  | [] => .nil
  | n :: r => .cons (.bl n) (dp_bls r)
theorem flat_ints : ∀ ns : List Int, PyData.canLayAll0 (ns.map PyData.int) = true ∧ PyData.depthAll (ns.map PyData.int) = 0
  | [] => ⟨rfl, rfl⟩
  | n :: r => ⟨by show (true && PyData.canLayAll0 (r.map PyData.int)) = true; rw [(flat_ints r).1]; rfl, by show max 0 (PyData.depthAll (r.map PyData.int)) = 0; rw [(flat_ints r).2]; rfl⟩
theorem flat_bls : ∀ ns : List Bool, PyData.canLayAll0 (ns.map PyData.bool) = true ∧ PyData.depthAll (ns.map PyData.bool) = 0
  | [] => ⟨rfl, rfl⟩
  | n :: r => ⟨by show (true && PyData.canLayAll0 (r.map PyData.bool)) = true; rw [(flat_bls r).1]; rfl, by show max 0 (PyData.depthAll (r.map PyData.bool)) = 0; rw [(flat_bls r).2]; rfl⟩
theorem shaped_bls (ns : List Bool) : SeqAt.shaped (.list (ns.map PyData.bool)) = true := shaped_of (flat_bls ns).1 (by show PyData.depthAll (ns.map PyData.bool) + 1 ≤ 64; rw [(flat_bls ns).2]; decide)
theorem shaped_ints (ns : List Int) : SeqAt.shaped (.list (ns.map PyData.int)) = true := shaped_of (flat_ints ns).1 (by show PyData.depthAll (ns.map PyData.int) + 1 ≤ 64; rw [(flat_ints ns).2]; decide)
theorem Lst.read {K : PySem.W.Frag} {H : Hp} {v : V} {n : Nat} (d : Lst H v n) : ∃ y, Dp K H v y ∧ SeqAt.shaped y = true := by
  obtain ⟨l, ns, rfl, e, _⟩ := d
  refine ⟨_, .lst (SqL.of e) (.cons (.int 1) (.cons .non (dp_ints ns))), shaped_of ?_ ?_⟩
  · show (true && (true && PyData.canLayAll0 (ns.map PyData.int))) = true
    rw [(flat_ints ns).1]
    rfl
  · show max 0 (max 0 (PyData.depthAll (ns.map PyData.int))) + 1 ≤ 64
    rw [(flat_ints ns).2]
    decide
theorem eqv_self {d : PyData} (h : SeqAt.shaped d = true) : PyData.eqv d d = true := SeqAt.eqv_refl d (SeqAt.canLay_of_shaped h)
theorem Gen.same {H H' : Hp} {g : Addr} {n : Int} (h : Gen H g n) (s : Same H H') : Gen H' g n := by
  obtain ⟨a, b, c, e, r⟩ := h
  exact ⟨a, b, c, s _ _ e, r⟩
theorem but_at {g b : Addr} {H H' : Hp} {o : HO} {n : Int} (k : But g H H') (e : H b = some o) (G : Gen H g n) (ne : ∀ x y z : Int, o ≠ .lst [.int x, .int y, .int z]) : H' b = some o := by
  obtain ⟨x, y, z, eg, _⟩ := G
  rw [k b fun h => ne x y z (by rw [h, eg] at e; exact (Option.some.inj e).symm)]
  exact e
theorem ErrOf.of_made {K : PySem.W.Frag} {cl : Nat → Addr} {H : Hp} {a : Addr} {i : Nat} {v : V} (T : ErrC K (cl i)) (m : Made H a (cl i) v) : ErrOf K cl H a i := by
  obtain ⟨d, ne, e1, e2⟩ := m
  exact ⟨T, some d, e1, fun dx e => by cases e; exact ⟨_, e2⟩⟩
theorem ErrOf.same {K : PySem.W.Frag} {cl : Nat → Addr} {H H' : Hp} {a : Addr} {i : Nat} (m : ErrOf K cl H a i) (s : Same H H') : ErrOf K cl H' a i := by
  obtain ⟨T, d, e1, e2⟩ := m
  exact ⟨T, d, s _ _ e1, fun dx e => let ⟨fs, z⟩ := e2 dx e; ⟨fs, s _ _ z⟩⟩
theorem two_calls {cl : Nat → Addr} {i : Nat} {v : V} {H : Hp} {Q : VK} {E1 E2 : XK} {A B : Prop} (hi : i < 12) (h : ∀ e H2, Same H H2 → H e = none → Made H2 e (cl i) v → Q (.ref e) H2) (hA : spFirst cl [.int (0 + (i : Int)), v] H Q E1 → A) (hB : spSecond cl [.int (0 + (i : Int)), v] H Q E2 → B) :
    if decide (0 + (i : Int) < 6) = true then A else B := by
  rw [Int.zero_add] at hA hB ⊢
  by_cases c : (i : Int) < 6
  · rw [decide_eq_true c]
    exact iteT (hA ⟨i, v, rfl, Nat.zero_le _, by omega, h⟩)
  · rw [decide_eq_false c]
    exact iteF (hB ⟨i, v, rfl, by omega, hi, h⟩)
theorem yes_of {A B : Prop} (h : A) : if (true : Bool) = true then A else B := (if_pos rfl : (if (true : Bool) = true then A else B) = A).mpr h
theorem flags_at {i k : Nat} (hk : k < 14) : (flags i)[k]? = some (decide (k = i)) := by
  unfold flags
  rw [List.getElem?_map, List.getElem?_range hk]
  rfl
theorem flags_len {i : Nat} : (flags i).length = 14 := by
  unfold flags
  rw [List.length_map, List.length_range]
theorem flags_next {i k : Nat} (hk : k < 14) : ((flags i).take (k + 1)).map V.bl = ((flags i).take k).map V.bl ++ [.bl (decide (k = i))] := by
  rw [List.take_add_one, flags_at hk, List.map_append]
  rfl
theorem same_int {k i : Nat} : decide (V.int (0 + (k : Int)) = V.int (i : Int)) = decide (k = i) := by
  rw [Int.zero_add]
  by_cases h : k = i
  · rw [h, decide_eq_true rfl, decide_eq_true rfl]
  · rw [decide_eq_false h, decide_eq_false fun z => h (by have := V.int.inj z; omega)]
def spLaw (K : PySem.W.Frag) : Sp := fun vs H Q _ => ∃ (a : Addr) (ns : List Int), vs = [.ref a] ∧ SqL K H a (ns.map V.int) ∧ ∀ H', Q (.bl true) H'
section
variable {P : Program} {w : World} {K : PySem.W.Frag} {mg : Str → Option Value} {base : Heap} {cl : Nat → Addr} {S : Addr} {f fG fR fL f1 f2 : Addr} {fd fdG fdR fdL fd1 fd2 : FuncData}
theorem ok_law (F : Fun K "law" "law" sLaw f fd)
    (GG : FnOk P w K mg base CX0 2 fG fdG ["script", "index"] (spGenerator K)) (bG : Binds K fdG ["script", "index"] []) (kG : PySem.W.keepIn K (.ref fG) = true) (mG : mg "_law_generator" = some (.ref fG))
    (GR : FnOk P w K mg base CX0 2 fR fdR ["generator", "bound"] spRandom) (bR : Binds K fdR ["generator", "bound"] []) (kR : PySem.W.keepIn K (.ref fR) = true) (mR : mg "_law_random" = some (.ref fR))
    (GL : FnOk P w K mg base CX0 1 fL fdL ["error"] (spFlags K cl)) (bL : Binds K fdL ["error"] []) (kL : PySem.W.keepIn K (.ref fL) = true) (mL : mg "_law_flags" = some (.ref fL))
    (GF1 : FnOk P w K mg base CX0 3 f1 fd1 ["which", "value"] (spFirst cl)) (bF1 : Binds K fd1 ["which", "value"] []) (kF1 : PySem.W.keepIn K (.ref f1) = true) (mF1 : mg "_law_first" = some (.ref f1))
    (GF2 : FnOk P w K mg base CX0 3 f2 fd2 ["which", "value"] (spSecond cl)) (bF2 : Binds K fd2 ["which", "value"] []) (kF2 : PySem.W.keepIn K (.ref f2) = true) (mF2 : mg "_law_second" = some (.ref f2))
    (E0 : ErrUse P w K mg base "InvalidStore" (cl 0)) (E1 : ErrUse P w K mg base "InvalidQuestion" (cl 1)) (E2 : ErrUse P w K mg base "InvalidName" (cl 2)) (E3 : ErrUse P w K mg base "InvalidItem" (cl 3)) (E4 : ErrUse P w K mg base "InvalidFact" (cl 4)) (E5 : ErrUse P w K mg base "InvalidNumber" (cl 5)) (E6 : ErrUse P w K mg base "InvalidList" (cl 6)) (E7 : ErrUse P w K mg base "InvalidText" (cl 7)) (E8 : ErrUse P w K mg base "InvalidPaper" (cl 8)) (E9 : ErrUse P w K mg base "InvalidFlag" (cl 9)) (E10 : ErrUse P w K mg base "Unlike" (cl 10)) (E11 : ErrUse P w K mg base "TooMany" (cl 11))
    (g12 : mg "NothingToUndo" = some (.ref (cl 12))) (T12 : OexC K (cl 12)) (i12 : PySem.W.findIn K (.ref (cl 12)) "__init__" = some (some (.builtin "ValueError.__init__"))) (er12 : ErrC K (cl 12)) (eq12 : PySem.W.findIn K (.ref (cl 12)) "__eq__" = some (some (.builtin "object.__eq__")))
    (g13 : mg "NothingToRedo" = some (.ref (cl 13))) (T13 : OexC K (cl 13)) (i13 : PySem.W.findIn K (.ref (cl 13)) "__init__" = some (some (.builtin "ValueError.__init__"))) (er13 : ErrC K (cl 13))
    (gS : mg "StoreError" = some (.ref S)) (TS : OexC K S) (iS_ : PySem.W.findIn K (.ref S) "__init__" = some (some (.builtin "ValueError.__init__"))) (erS : ErrC K S)
    (kS : ∀ i, i < 14 → PySem.W.kitOne K (.ref (cl i)) (.ref S) = some true) (kV : ∀ i, i < 14 → PySem.W.kitOne K (.ref (cl i)) (.type "ValueError") = some true) (kSV : PySem.W.kitOne K (.ref S) (.type "ValueError") = some true)
    (mI : mg "isinstance" = none) (mRange : mg "range" = none) (mV : mg "ValueError" = none) (mList : mg "list" = none) : FnOk P w K mg base CX0 4 f fd ["script"] (spLaw K) := by
  refine F.ok scLaw (fun vs H Q E h => ?_) (fun cdv A outer s H vs Q E hr h => ?_)
  · obtain ⟨a, ns, rfl, _⟩ := h
    rfl
  obtain ⟨a, ns, rfl, L, q⟩ := h
  have nd := scLaw.nd
  have ers : ∀ i, i < 14 → ErrC K (cl i) := fun i hi => match i, hi with
    | 0, _ => E0.er | 1, _ => E1.er | 2, _ => E2.er | 3, _ => E3.er | 4, _ => E4.er | 5, _ => E5.er | 6, _ => E6.er | 7, _ => E7.er | 8, _ => E8.er | 9, _ => E9.er | 10, _ => E10.er | 11, _ => E11.er | 12, _ => er12 | 13, _ => er13
  have flds : ∀ i, i < 12 → XfC K (cl i) ∧ PySem.W.findIn K (.ref (cl i)) ("value" : Str) = some none := fun i hi => match i, hi with
    | 0, _ => ⟨E0.xf, E0.noV⟩ | 1, _ => ⟨E1.xf, E1.noV⟩ | 2, _ => ⟨E2.xf, E2.noV⟩ | 3, _ => ⟨E3.xf, E3.noV⟩ | 4, _ => ⟨E4.xf, E4.noV⟩ | 5, _ => ⟨E5.xf, E5.noV⟩
    | 6, _ => ⟨E6.xf, E6.noV⟩ | 7, _ => ⟨E7.xf, E7.noV⟩ | 8, _ => ⟨E8.xf, E8.noV⟩ | 9, _ => ⟨E9.xf, E9.noV⟩ | 10, _ => ⟨E10.xf, E10.noV⟩ | 11, _ => ⟨E11.xf, E11.noV⟩
  refine ⟨_, (pss_cons (ps_set (i := 1) nd rfl (.inl rfl) (pe_call GG (hr.mono (by decide)) rfl mG kG bG .nil pass0 (pa_cons (pv 0) (pa_cons pe_int pa_nil))))
    (pss_cons (ps_set (i := 2) nd rfl (.inl rfl) (pe_ix ix_list (pe_lst (pa_cons (pe_call GR (hr.mono (by decide)) rfl mR kR bR .nil pass0 (pa_cons (pv 1) (pa_cons (pe_op op_pow pe_int pe_int) pa_nil))) (pa_cons (pe_op op_abRep pe_str (pe_call GR (hr.mono (by decide)) rfl mR kR bR .nil pass0 (pa_cons (pv 1) (pa_cons pe_int pa_nil)))) (pa_cons (pe_lst (pa_cons pe_int (pa_cons pe_non pa_nil))) (pa_cons pe_non (pa_cons (pe_tup (pa_cons pe_int (pa_cons (pe_tup (pa_cons pe_int pa_nil)) pa_nil))) pa_nil)))))) (pe_call GR (hr.mono (by decide)) rfl mR kR bR .nil pass0 (pa_cons (pv 1) (pa_cons pe_int pa_nil))) (fun _ _ => rfl)))
    (pss_cons (ps_for PassesOwn.never rfl (pi_range1 (by rfl) mRange (pa_cons pe_int pa_nil)) (pg_name (i := 3) nd rfl (.inr rfl))
    (pss_cons (ps_set (i := 4) nd rfl (.inl rfl) (pe_ifExp (pt_cmpR op_lt (pv 3) pe_int (nomark _)) (pe_call GF1 (hr.mono (by decide)) rfl mF1 kF1 bF1 .nil pass0 (pa_cons (pv 3) (pa_cons (pv 2) pa_nil))) (pe_call GF2 (hr.mono (by decide)) rfl mF2 kF2 bF2 .nil pass0 (pa_cons (pv 3) (pa_cons (pv 2) pa_nil)))))
    (pss_cons (ps_if (PW.pt (pw_or (pt_cmpR (op_neD hr.units) (pe_call GL (hr.mono (by decide)) rfl mL kL bL .nil pass0 (pa_cons (pv 4) pa_nil)) (pe_lc (own := [("place", 5)]) (g := gName 5) (tt := tYes) rfl nd (pi_range1 (by rfl) mRange (pa_cons pe_int pa_nil)) (blkOk_by (own := [("place", 5)]) (N := NL) (sc := defScope sLaw) (by decide +kernel)) (fun _ _ _ _ _ => pg_name (i := 5) nd rfl (Or.inl rfl)) (fun _ _ _ _ _ => pts_nil) (fun _ _ _ _ _ => (pe_cmpR op_eq (pv 5) (pv 3) (nomark _)))) (nomark _)) (pw_or (pt_not (pt_val (pe_callB call_errIs (by rfl) mI (by decide +kernel) (pa_cons (pv 4) (pa_cons (pe_ref (by rfl) gS) pa_nil))))) (pw_or1 (pt_not (pt_val (pe_callB call_errIs (by rfl) mI (by decide +kernel) (pa_cons (pv 4) (pa_cons (pe_bltn (v := .ty "ValueError") (by rfl) mV (by decide +kernel) rfl) pa_nil))))))))) (pss_one (ps_ret pe_bl)) pss_nil)
    (pss_cons (ps_if (pt_val (pe_callB call_isi (by rfl) mI (by decide +kernel) (pa_cons (pv 2) (pa_cons (pe_bltn (v := .ty "list") (by rfl) mList (by decide +kernel) rfl) pa_nil)))) (pss_one (ps_expr (pe_bm PySem.F.plainAttrs_list PySem.F.slot_list_append PySem.F.type_list_append mt_append (pv 2) (pa_cons (pv 3) pa_nil)))) pss_nil)
    (pss_one (ps_if (pt_not (pt_cmpR (op_eqD hr.units) (pe_errFld (pv 4)) (pv 2) (nomark _))) (pss_one (ps_ret pe_bl)) pss_nil))))))
    (pss_cons (ps_set (i := 6) nd rfl (.inl rfl) (pe_lst (pa_cons (pe_bareFld E0 (hr.mono (by decide)) pass0 (by rfl)) (pa_cons (pe_bareFld E1 (hr.mono (by decide)) pass0 (by rfl)) (pa_cons (pe_bareFld E2 (hr.mono (by decide)) pass0 (by rfl)) (pa_cons (pe_bareFld E3 (hr.mono (by decide)) pass0 (by rfl)) (pa_cons (pe_bareFld E4 (hr.mono (by decide)) pass0 (by rfl)) (pa_cons (pe_bareFld E5 (hr.mono (by decide)) pass0 (by rfl)) pa_nil))))))))
    (pss_cons (ps_set (i := 6) nd rfl (.inl rfl) (pe_op op_cat (pv 6) (pe_lst (pa_cons (pe_bareFld E6 (hr.mono (by decide)) pass0 (by rfl)) (pa_cons (pe_bareFld E7 (hr.mono (by decide)) pass0 (by rfl)) (pa_cons (pe_bareFld E8 (hr.mono (by decide)) pass0 (by rfl)) (pa_cons (pe_bareFld E9 (hr.mono (by decide)) pass0 (by rfl)) (pa_cons (pe_bareFld E10 (hr.mono (by decide)) pass0 (by rfl)) (pa_cons (pe_bareFld E11 (hr.mono (by decide)) pass0 (by rfl)) pa_nil)))))))))
    (pss_cons (ps_if (PW.pt (pw_or (pt_cmpR (op_neD hr.units) (pe_lc (own := [("field", 7)]) (g := gName 7) rfl nd (pi_list (pv 6)) (blkOk_by (own := [("field", 7)]) (N := NL) (sc := defScope sLaw) (by decide +kernel)) (fun _ _ _ _ _ => pg_name (i := 7) nd rfl (Or.inl rfl)) (fun _ _ _ _ _ => pts_one (pt_cmp (pc_notN (pv 7)) rfl)) (fun _ _ _ _ _ => pv 7)) (pe_lst pa_nil) (nomark _)) (pw_or (pt_cmpR op_ne (pe_kwFld E11 (hr.mono (by decide)) pass0 (by rfl) pe_int) pe_int (nomark _)) (pw_or1 (pt_cmpR (op_neD hr.units) (pe_kwFld E4 (hr.mono (by decide)) pass0 (by rfl) (pe_tup (pa_cons pe_int pa_nil))) (pe_tup (pa_cons pe_int pa_nil)) (nomark _)))))) (pss_one (ps_ret pe_bl)) pss_nil)
    (pss_cons (ps_if (PW.pt (pw_or (pt_cmpR (op_neD hr.units) (pe_call GL (hr.mono (by decide)) rfl mL kL bL .nil pass0 (pa_cons (pe_errB T12 i12 (by rfl) g12) pa_nil)) (pe_lc (own := [("place", 5)]) (g := gName 5) (tt := tYes) rfl nd (pi_range1 (by rfl) mRange (pa_cons pe_int pa_nil)) (blkOk_by (own := [("place", 5)]) (N := NL) (sc := defScope sLaw) (by decide +kernel)) (fun _ _ _ _ _ => pg_name (i := 5) nd rfl (Or.inl rfl)) (fun _ _ _ _ _ => pts_nil) (fun _ _ _ _ _ => (pe_cmpR op_eq (pv 5) pe_int (nomark _)))) (nomark _)) (pw_or1 (pt_cmpR (op_neD hr.units) (pe_call GL (hr.mono (by decide)) rfl mL kL bL .nil pass0 (pa_cons (pe_errB T13 i13 (by rfl) g13) pa_nil)) (pe_lc (own := [("place", 5)]) (g := gName 5) (tt := tYes) rfl nd (pi_range1 (by rfl) mRange (pa_cons pe_int pa_nil)) (blkOk_by (own := [("place", 5)]) (N := NL) (sc := defScope sLaw) (by decide +kernel)) (fun _ _ _ _ _ => pg_name (i := 5) nd rfl (Or.inl rfl)) (fun _ _ _ _ _ => pts_nil) (fun _ _ _ _ _ => (pe_cmpR op_eq (pv 5) pe_int (nomark _)))) (nomark _))))) (pss_one (ps_ret pe_bl)) pss_nil)
    (pss_cons (ps_set (i := 8) nd rfl (.inl rfl) (pe_lst (pa_cons (pe_kwFld E0 (hr.mono (by decide)) pass0 (by rfl) pe_int) (pa_cons (pe_kwFld E1 (hr.mono (by decide)) pass0 (by rfl) pe_int) (pa_cons (pe_kwFld E2 (hr.mono (by decide)) pass0 (by rfl) pe_int) (pa_cons (pe_kwFld E3 (hr.mono (by decide)) pass0 (by rfl) pe_int) pa_nil))))))
    (pss_cons (ps_set (i := 8) nd rfl (.inl rfl) (pe_op op_cat (pv 8) (pe_lst (pa_cons (pe_kwFld E4 (hr.mono (by decide)) pass0 (by rfl) pe_int) (pa_cons (pe_kwFld E5 (hr.mono (by decide)) pass0 (by rfl) pe_int) (pa_cons (pe_kwFld E6 (hr.mono (by decide)) pass0 (by rfl) pe_int) (pa_cons (pe_kwFld E7 (hr.mono (by decide)) pass0 (by rfl) pe_int) pa_nil)))))))
    (pss_cons (ps_set (i := 8) nd rfl (.inl rfl) (pe_op op_cat (pv 8) (pe_lst (pa_cons (pe_kwFld E8 (hr.mono (by decide)) pass0 (by rfl) pe_int) (pa_cons (pe_kwFld E9 (hr.mono (by decide)) pass0 (by rfl) pe_int) (pa_cons (pe_kwFld E10 (hr.mono (by decide)) pass0 (by rfl) pe_int) (pa_cons (pe_kwFld E11 (hr.mono (by decide)) pass0 (by rfl) pe_int) pa_nil)))))))
    (pss_cons (ps_if (pt_cmpR (op_neD hr.units) (pv 8) (pe_op op_rep (pe_lst (pa_cons pe_int pa_nil)) pe_int) (nomark _)) (pss_one (ps_ret pe_bl)) pss_nil)
    (pss_cons (ps_if (PW.pt (pw_or (pt_cmpR op_notBl (pe_cmpR (op_errEq hr.units0) (pe_errC E2 (hr.mono (by decide)) pass0 (by rfl) pe_int) (pe_errC E2 (hr.mono (by decide)) pass0 (by rfl) pe_int) (nomark _)) pe_bl (nomark _)) (pw_or1 (pt_cmpR op_notBl (pe_cmpR (op_errEq hr.units0) (pe_errB T12 i12 (by rfl) g12) (pe_errB T12 i12 (by rfl) g12) (nomark _)) pe_bl (nomark _))))) (pss_one (ps_ret pe_bl)) pss_nil)
    (pss_one (ps_ret (pe_and (pe_callB call_errIs (by rfl) mI (by decide +kernel) (pa_cons (pe_errB T12 i12 (by rfl) g12) (pa_cons (pe_ref (by rfl) gS) pa_nil))) (pe_and (pe_callB call_errIs (by rfl) mI (by decide +kernel) (pa_cons (pe_errB T13 i13 (by rfl) g13) (pa_cons (pe_ref (by rfl) gS) pa_nil))) (pe_one (pe_callB call_errIs (by rfl) mI (by decide +kernel) (pa_cons (pe_errB TS iS_ (by rfl) gS) (pa_cons (pe_bltn (v := .ty "ValueError") (by rfl) mV (by decide +kernel) rfl) pa_nil)))))))))))))))))))), ?_⟩
  -- generator, value
  refine ⟨_, rfl, a, ns, 0, rfl, by decide, L, fun g H1 s1 n1 gen1 => ?_⟩
  refine ⟨_, rfl, _, _, rfl, rfl, ⟨by decide, by decide, by decide⟩, g, _, _, rfl, gen1, by decide, by decide, by decide, fun r1 H2 r10 r11 gen2 but2 => ?_⟩
  refine ⟨_, rfl, g, 3, _, rfl, gen2, by decide, by decide, by decide, fun r2 H3 r20 r21 gen3 but3 => ⟨r2, rfl, rfl, r20, r21, fun z hz => ?_⟩⟩
  refine ⟨by show 2 ≤ sizeLine; decide, fun p3 n3 => ⟨by show 1 ≤ sizeLine; decide, fun p4 n4 => ⟨by show 2 ≤ sizeLine; decide, fun p5 n5 => ⟨by show 5 ≤ sizeLine; decide, fun p6 n6 => ?_⟩⟩⟩⟩
  have m3 := same_new n3 (o := .lst [.int 1, .non])
  have e3 : upd H3 p3 (.lst [.int 1, .non]) p3 = some (.lst [.int 1, .non]) := upd_same
  generalize upd H3 p3 (.lst [.int 1, .non]) = H4 at m3 e3 n4 n5 n6 ⊢
  have m4 := same_new n4 (o := .tup [.int 3])
  have e4 : upd H4 p4 (.tup [.int 3]) p4 = some (.tup [.int 3]) := upd_same
  generalize upd H4 p4 (.tup [.int 3]) = H5 at m4 e4 n5 n6 ⊢
  have m5 := same_new n5 (o := .tup [.int 2, .ref p4])
  have e5 : upd H5 p5 (.tup [.int 2, .ref p4]) p5 = some (.tup [.int 2, .ref p4]) := upd_same
  generalize upd H5 p5 (.tup [.int 2, .ref p4]) = H6 at m5 e5 n6 ⊢
  have m6 := same_new n6 (o := .lst [.int r1, .str z, .ref p3, .non, .ref p5])
  have e6 : upd H6 p6 (.lst [.int r1, .str z, .ref p3, .non, .ref p5]) p6 = some (.lst [.int r1, .str z, .ref p3, .non, .ref p5]) := upd_same
  generalize upd H6 p6 (.lst [.int r1, .str z, .ref p3, .non, .ref p5]) = H7 at m6 e6 ⊢
  have gen7 := gen3.same (((m3.trans m4).trans m5).trans m6)
  refine ⟨_, rfl, g, 5, _, rfl, gen7, by decide, by decide, by decide, fun r5 H8 r50 r51 gen8 but8 => ?_⟩
  have x3 : H8 p3 = some (.lst [.int 1, .non]) := but_at but8 (m6 _ _ (m5 _ _ (m4 _ _ e3))) gen7 (fun x y z e => by cases e)
  have x4 : H8 p4 = some (.tup [.int 3]) := but_at but8 (m6 _ _ (m5 _ _ e4)) gen7 (fun x y z e => by cases e)
  have x5 : H8 p5 = some (.tup [.int 2, .ref p4]) := but_at but8 (m6 _ _ e5) gen7 (fun x y z e => by cases e)
  have x6 : H8 p6 = some (.lst [.int r1, .str z, .ref p3, .non, .ref p5]) := but_at but8 e6 gen7 (fun x y z e => by cases e)
  obtain ⟨v, ev, hv⟩ : ∃ v, atI [V.int r1, .str z, .ref p3, .non, .ref p5] r5 = some v ∧ (Dat H8 v ∨ Lst H8 v 0) := by
    have c5 : r5 = 0 ∨ r5 = 1 ∨ r5 = 2 ∨ r5 = 3 ∨ r5 = 4 := by omega
    rcases c5 with rfl | rfl | rfl | rfl | rfl
    · exact ⟨_, rfl, .inl (.inl ⟨_, rfl⟩)⟩
    · exact ⟨_, rfl, .inl (.inr (.inl ⟨_, rfl, hz⟩))⟩
    · exact ⟨_, rfl, .inr ⟨p3, [], rfl, x3, rfl⟩⟩
    · exact ⟨_, rfl, .inl (.inr (.inr (.inl rfl)))⟩
    · exact ⟨_, rfl, .inl (.inr (.inr (.inr ⟨p5, p4, rfl, x5, x4⟩)))⟩
  refine ⟨p6, _, r5, v, rfl, rfl, SqL.of x6, ev, ?_⟩
  -- the loop
  refine ⟨12, rfl, by decide, by decide, for_range (lo := 0) (n := 12) (fun i σ H => ∃ y3 y4, σ = [some (.ref a), some (.ref g), some v, y3, y4, none, none, none, none] ∧ (Dat H v ∨ Lst H v i)) ⟨none, none, rfl, hv⟩ (fun i σ H9 hi hP => ?_) fun σ H9 hP => ?_⟩
  · obtain ⟨y3, y4, rfl, hv9⟩ := hP
    have int0 : ∀ y : V, [V.int (0 + (i : Int)), y] = [V.int (i : Int), y] := fun y => by rw [Int.zero_add]
    have turn : ∀ (R : Prop), R → R := fun R r => r
    refine ⟨_, rfl, _, _, rfl, rfl, _, rfl, ite2 (fun c => ⟨_, rfl, _, rfl, i, v, int0 v, Nat.zero_le _, by have := of_decide_eq_true c; omega, fun e H10 s10 n10 md => ?_⟩) (fun c => ⟨_, rfl, _, rfl, i, v, int0 v, by have := of_decide_eq_false (Bool.eq_false_iff.mpr c); omega, hi, fun e H10 s10 n10 md => ?_⟩)⟩
    all_goals
      have T := ers i (by omega)
      have ofE := ErrOf.of_made T md
      have v10 : Dat H10 v ∨ Lst H10 v i := hv9.imp (fun z => z.same s10) (fun z => z.same s10)
      -- _law_flags(error) != [..]
      refine ⟨_, rfl, e, i, rfl, by omega, ofE, fun p H11 s11 n11 e11 => ?_⟩
      refine ⟨14, rfl, by decide, by decide, fun D nD => lc_range (lo := 0) (n := 14) (fun k H' => Same H11 H' ∧ H' D = some (.lst (((flags i).take k).map V.bl))) ⟨same_new nD, upd_same⟩ (fun k H' hk hP => ?_) fun H12 hP => ?_⟩
      · obtain ⟨s', eD⟩ := hP
        refine ⟨rfl, _, rfl, _, rfl, rfl, _, eD, ?_, fun b o q => ?_, ?_⟩
        · rw [List.length_map, List.length_take, flags_len]
          exact small1000 (by omega)
        · rw [upd_ne (ne_of_none q nD)]
          exact s' b o q
        · rw [upd_same, flags_next hk, ← same_int, Int.zero_add (i : Int)]
      obtain ⟨s12, e12⟩ := hP
      rw [List.take_of_length_le (by rw [flags_len]; decide)] at e12
      have sh := shaped_bls (flags i)
      refine ⟨_, _, .lst (SqL.of (s12 _ _ e11)) (dp_bls _), .lst (SqL.of e12) (dp_bls _), sh, sh, false, by rw [eqv_self sh]; rfl, ?_⟩
      have s13 : Same H10 H12 := s11.trans s12
      have ofE13 := ofE.same s13
      have md13 := md.same s13
      have v13 : Dat H12 v ∨ Lst H12 v i := v10.imp (fun z => z.same s13) (fun z => z.same s13)
      obtain ⟨_, dd, ea, ed⟩ := ofE13
      -- not isinstance(error, StoreError), not isinstance(error, ValueError)
      refine ⟨_, rfl, e, cl i, dd, .ref S, .ref S, true, rfl, ea, ed, T, .own _, kS i (by omega), true, rfl, ?_⟩
      refine ⟨_, rfl, e, cl i, dd, .ty "ValueError", .type "ValueError", true, rfl, ea, ed, T, .ty _, kV i (by omega), true, rfl, ?_⟩
      -- isinstance(value, list)
      rcases v13 with dv | lv
      · obtain ⟨t, ty, kt, y, dp, sy⟩ := dv.read (K := K)
        refine ⟨_, rfl, v, .ty "list", t, .type "list", false, rfl, .ty _, ty, kt, false, rfl, ?_⟩
        obtain ⟨d, ne, e1, e2⟩ := md13
        exact ⟨_, rfl, e, cl i, d, _, v, rfl, e1, e2, (flds i hi).1, (flds i hi).2, rfl, _, rfl, y, y, dp, dp, sy, sy, true, by rw [eqv_self sy], _, _, rfl, .inl dv⟩
      · obtain ⟨l, ms, rfl, el, hms⟩ := lv
        refine ⟨_, rfl, .ref l, .ty "list", .type "list", .type "list", true, rfl, .ty _, .base (.lst el), kit_ty (by decide +kernel), true, rfl, ?_⟩
        refine ⟨_, rfl, .inl ⟨rfl, _, SqL.of el⟩, _, rfl, l, _, _, rfl, rfl, el, ?_, ?_⟩
        · rw [List.length_cons, List.length_cons, List.length_map]
          exact small1000 (by omega)
        obtain ⟨d, ne, e1, e2⟩ := md13
        have nel : e ≠ l := ne_of e1 el (fun z => by have z' : HO.ext _ = HO.lst _ := z; cases z')
        have ndl : d ≠ l := ne_of e2 el (fun z => by have z' : HO.ext _ = HO.lst _ := z; cases z')
        have lv : Lst (upd H12 l (.lst ((.int 1 :: .non :: ms.map V.int) ++ [.int (0 + (i : Int))]))) (.ref l) (i + 1) := ⟨l, ms ++ [0 + (i : Int)], rfl, by rw [upd_same, List.map_append]; rfl, by rw [List.length_append, hms]; rfl⟩
        obtain ⟨y, dp, sy⟩ := lv.read (K := K)
        exact ⟨_, rfl, e, cl i, d, _, _, rfl, by rw [upd_ne nel]; exact e1, by rw [upd_ne ndl]; exact e2, (flds i hi).1, (flds i hi).2, rfl, _, rfl, y, y, dp, dp, sy, sy, true, by rw [eqv_self sy], _, _, rfl, .inr lv⟩
  · obtain ⟨y3, y4, rfl, _⟩ := hP
    -- bare
    refine fun Ga0 ta0 Ga1 ta1 Ga2 ta2 Ga3 ta3 Ga4 ta4 Ga5 ta5 => ⟨by show 6 ≤ sizeLine; decide, fun p1 n1 => ?_⟩
    have m1 := same_new n1 (o := .lst [.non, .non, .non, .non, .non, .non])
    have e1 : upd Ga5 p1 (.lst [.non, .non, .non, .non, .non, .non]) p1 = some (.lst [.non, .non, .non, .non, .non, .non]) := upd_same
    generalize upd Ga5 p1 (.lst [.non, .non, .non, .non, .non, .non]) = K1 at m1 e1 ⊢
    refine ⟨_, rfl, fun Gb0 tb0 Gb1 tb1 Gb2 tb2 Gb3 tb3 Gb4 tb4 Gb5 tb5 => ⟨by show 6 ≤ sizeLine; decide, fun p2 n2 => ?_⟩⟩
    have m2 := same_new n2 (o := .lst [.non, .non, .non, .non, .non, .non])
    have e2 : upd Gb5 p2 (.lst [.non, .non, .non, .non, .non, .non]) p2 = some (.lst [.non, .non, .non, .non, .non, .non]) := upd_same
    generalize upd Gb5 p2 (.lst [.non, .non, .non, .non, .non, .non]) = K2 at m2 e2 ⊢
    refine ⟨p1, p2, _, _, rfl, rfl, ((((((tb0.trans tb1).trans tb2).trans tb3).trans tb4).trans tb5).trans m2) _ _ e1, e2, by show 6 + 6 ≤ sizeLine; decide, fun p3 n3 => ?_⟩
    have m3 := same_new n3 (o := .lst ([.non, .non, .non, .non, .non, .non] ++ [.non, .non, .non, .non, .non, .non]))
    have e3 : upd K2 p3 (.lst ([.non, .non, .non, .non, .non, .non] ++ [.non, .non, .non, .non, .non, .non])) p3 = some (.lst ([.non, .non, .non, .non, .non, .non] ++ [.non, .non, .non, .non, .non, .non])) := upd_same
    generalize upd K2 p3 (.lst ([.non, .non, .non, .non, .non, .non] ++ [.non, .non, .non, .non, .non, .non])) = K3 at m3 e3 ⊢
    -- [field for field in bare if field is not None] != []
    refine ⟨_, rfl, p3, rfl, ⟨_, SqL.of e3⟩, fun D nD => lc_list (K := K) (a := p3) (xs := [.non, .non, .non, .non, .non, .non] ++ [.non, .non, .non, .non, .non, .non]) (fun k H' => H' p3 = some (.lst ([.non, .non, .non, .non, .non, .non] ++ [.non, .non, .non, .non, .non, .non])) ∧ H' D = some (.lst [])) ⟨same_new nD _ _ e3, upd_same⟩ (fun k H' _ hP => SqL.of hP.1) (fun k x H' hx hP => ?_) fun H' hP => ?_⟩
    · have ex : x = .non := by
        have z := List.mem_of_getElem? hx
        simpa using z
      subst ex
      exact ⟨rfl, _, rfl, false, rfl, hP⟩
    obtain ⟨_, eD⟩ := hP
    refine ⟨Nat.zero_le _, fun p4 n4 => ⟨.list [], .list [], .lst (SqL.of (same_new n4 _ _ eD)) .nil, .lst (SqL.of upd_same) .nil, by decide +kernel, by decide +kernel, false, rfl, ?_⟩⟩
    -- TooMany(value=7).value != 7
    refine kw_read (v := .int 7) E11.T E11.noV E11.xf fun G5 t5 => ⟨rfl, false, rfl, ?_⟩
    -- InvalidFact(value=(1,)).value != (1,)
    refine ⟨by show 1 ≤ sizeLine; decide, fun p5 n5 => kw_read (v := .ref p5) E4.T E4.noV E4.xf fun G6 t6 => ⟨by show 1 ≤ sizeLine; decide, fun p6 n6 => ?_⟩⟩
    refine ⟨.tuple [.int 1], .tuple [.int 1], .tup (.inl (.inl (same_new n6 _ _ (t6 _ _ upd_same)))) (.cons (.int 1) .nil), .tup (.inl (.inl upd_same)) (.cons (.int 1) .nil), by decide +kernel, by decide +kernel, false, rfl, ?_⟩
    -- _law_flags(C()) != [place == 12 ..]
    refine fun ax nax => ⟨ax, 12, rfl, by decide, ⟨er12, none, upd_same, fun dx e => by cases e⟩, fun px Hfx sfx nfx efx => ?_⟩
    refine ⟨14, rfl, by decide, by decide, fun D nD => lc_range (lo := 0) (n := 14) (fun k H' => Same Hfx H' ∧ H' D = some (.lst (((flags 12).take k).map V.bl))) ⟨same_new nD, upd_same⟩ (fun k H' hk hP => ?_) fun Hgx hP => ?_⟩
    · obtain ⟨s', eD⟩ := hP
      refine ⟨rfl, _, rfl, rfl, _, eD, ?_, fun b o q => ?_, ?_⟩
      · rw [List.length_map, List.length_take, flags_len]
        exact small1000 (by omega)
      · rw [upd_ne (ne_of_none q nD)]
        exact s' b o q
      · rw [upd_same, flags_next hk, ← same_int]
        rfl
    obtain ⟨sgx, egx⟩ := hP
    rw [List.take_of_length_le (by rw [flags_len]; decide)] at egx
    refine ⟨_, _, .lst (SqL.of (sgx _ _ efx)) (dp_bls _), .lst (SqL.of egx) (dp_bls _), shaped_bls _, shaped_bls _, false, by rw [eqv_self (shaped_bls _)]; rfl, ?_⟩
    -- _law_flags(C()) != [place == 13 ..]
    refine fun ay nay => ⟨ay, 13, rfl, by decide, ⟨er13, none, upd_same, fun dx e => by cases e⟩, fun py Hfy sfy nfy efy => ?_⟩
    refine ⟨14, rfl, by decide, by decide, fun D nD => lc_range (lo := 0) (n := 14) (fun k H' => Same Hfy H' ∧ H' D = some (.lst (((flags 13).take k).map V.bl))) ⟨same_new nD, upd_same⟩ (fun k H' hk hP => ?_) fun Hgy hP => ?_⟩
    · obtain ⟨s', eD⟩ := hP
      refine ⟨rfl, _, rfl, rfl, _, eD, ?_, fun b o q => ?_, ?_⟩
      · rw [List.length_map, List.length_take, flags_len]
        exact small1000 (by omega)
      · rw [upd_ne (ne_of_none q nD)]
        exact s' b o q
      · rw [upd_same, flags_next hk, ← same_int]
        rfl
    obtain ⟨sgy, egy⟩ := hP
    rw [List.take_of_length_le (by rw [flags_len]; decide)] at egy
    refine ⟨_, _, .lst (SqL.of (sgy _ _ efy)) (dp_bls _), .lst (SqL.of egy) (dp_bls _), shaped_bls _, shaped_bls _, false, by rw [eqv_self (shaped_bls _)]; rfl, ?_⟩
    -- named
    refine kw_read (v := .int 7) E0.T E0.noV E0.xf fun Gc0 tc0 => kw_read (v := .int 7) E1.T E1.noV E1.xf fun Gc1 tc1 => kw_read (v := .int 7) E2.T E2.noV E2.xf fun Gc2 tc2 => kw_read (v := .int 7) E3.T E3.noV E3.xf fun Gc3 tc3 => ⟨by show 4 ≤ sizeLine; decide, fun p7 n7 => ?_⟩
    have m7 := same_new n7 (o := .lst [.int 7, .int 7, .int 7, .int 7])
    have e7 : upd Gc3 p7 (.lst [.int 7, .int 7, .int 7, .int 7]) p7 = some (.lst [.int 7, .int 7, .int 7, .int 7]) := upd_same
    generalize upd Gc3 p7 (.lst [.int 7, .int 7, .int 7, .int 7]) = K7 at m7 e7 ⊢
    refine ⟨_, rfl, kw_read (v := .int 7) E4.T E4.noV E4.xf fun Gd0 td0 => kw_read (v := .int 7) E5.T E5.noV E5.xf fun Gd1 td1 => kw_read (v := .int 7) E6.T E6.noV E6.xf fun Gd2 td2 => kw_read (v := .int 7) E7.T E7.noV E7.xf fun Gd3 td3 => ⟨by show 4 ≤ sizeLine; decide, fun p8 n8 => ?_⟩⟩
    have m8 := same_new n8 (o := .lst [.int 7, .int 7, .int 7, .int 7])
    have e8 : upd Gd3 p8 (.lst [.int 7, .int 7, .int 7, .int 7]) p8 = some (.lst [.int 7, .int 7, .int 7, .int 7]) := upd_same
    generalize upd Gd3 p8 (.lst [.int 7, .int 7, .int 7, .int 7]) = K8 at m8 e8 ⊢
    refine ⟨p7, p8, _, _, rfl, rfl, ((((td0.trans td1).trans td2).trans td3).trans m8) _ _ e7, e8, by show 4 + 4 ≤ sizeLine; decide, fun p9 n9 => ?_⟩
    have m9 := same_new n9 (o := .lst ([.int 7, .int 7, .int 7, .int 7] ++ [.int 7, .int 7, .int 7, .int 7]))
    have e9 : upd K8 p9 (.lst ([.int 7, .int 7, .int 7, .int 7] ++ [.int 7, .int 7, .int 7, .int 7])) p9 = some (.lst ([.int 7, .int 7, .int 7, .int 7] ++ [.int 7, .int 7, .int 7, .int 7])) := upd_same
    generalize upd K8 p9 (.lst ([.int 7, .int 7, .int 7, .int 7] ++ [.int 7, .int 7, .int 7, .int 7])) = K9 at m9 e9 ⊢
    refine ⟨_, rfl, kw_read (v := .int 7) E8.T E8.noV E8.xf fun Ge0 te0 => kw_read (v := .int 7) E9.T E9.noV E9.xf fun Ge1 te1 => kw_read (v := .int 7) E10.T E10.noV E10.xf fun Ge2 te2 => kw_read (v := .int 7) E11.T E11.noV E11.xf fun Ge3 te3 => ⟨by show 4 ≤ sizeLine; decide, fun p10 n10 => ?_⟩⟩
    have m10 := same_new n10 (o := .lst [.int 7, .int 7, .int 7, .int 7])
    have e10 : upd Ge3 p10 (.lst [.int 7, .int 7, .int 7, .int 7]) p10 = some (.lst [.int 7, .int 7, .int 7, .int 7]) := upd_same
    generalize upd Ge3 p10 (.lst [.int 7, .int 7, .int 7, .int 7]) = K10 at m10 e10 ⊢
    refine ⟨p9, p10, _, _, rfl, rfl, ((((te0.trans te1).trans te2).trans te3).trans m10) _ _ e9, e10, by show 8 + 4 ≤ sizeLine; decide, fun p11 n11 => ?_⟩
    have m11 := same_new n11 (o := .lst (([.int 7, .int 7, .int 7, .int 7] ++ [.int 7, .int 7, .int 7, .int 7]) ++ [.int 7, .int 7, .int 7, .int 7]))
    have e11 : upd K10 p11 (.lst (([.int 7, .int 7, .int 7, .int 7] ++ [.int 7, .int 7, .int 7, .int 7]) ++ [.int 7, .int 7, .int 7, .int 7])) p11 = some (.lst (([.int 7, .int 7, .int 7, .int 7] ++ [.int 7, .int 7, .int 7, .int 7]) ++ [.int 7, .int 7, .int 7, .int 7])) := upd_same
    generalize upd K10 p11 (.lst (([.int 7, .int 7, .int 7, .int 7] ++ [.int 7, .int 7, .int 7, .int 7]) ++ [.int 7, .int 7, .int 7, .int 7])) = K11 at m11 e11 ⊢
    -- named != [7] * 12
    refine ⟨_, rfl, by show 1 ≤ sizeLine; decide, fun p12 n12 => ⟨p12, 12, _, rfl, rfl, upd_same, by decide, by decide, by decide, fun p13 n13 => ?_⟩⟩
    have d1 : DpAll K (upd (upd K11 p12 (.lst [.int 7])) p13 (.lst (List.replicate (12 : Int).toNat [V.int 7]).flatten)) (([.int 7, .int 7, .int 7, .int 7] ++ [.int 7, .int 7, .int 7, .int 7]) ++ [.int 7, .int 7, .int 7, .int 7]) ((List.replicate 12 (7 : Int)).map PyData.int) := dp_ints (List.replicate 12 7)
    have d2 : DpAll K (upd (upd K11 p12 (.lst [.int 7])) p13 (.lst (List.replicate (12 : Int).toNat [V.int 7]).flatten)) (List.replicate (12 : Int).toNat [V.int 7]).flatten ((List.replicate 12 (7 : Int)).map PyData.int) := dp_ints (List.replicate 12 7)
    refine ⟨_, _, .lst (SqL.of (same_new n13 _ _ (same_new n12 _ _ e11))) d1, .lst (SqL.of upd_same) d2, shaped_ints _, shaped_ints _, false, by rw [eqv_self (shaped_ints _)]; rfl, ?_⟩
    -- (InvalidName(3) == InvalidName(3)) is not False
    refine fun b1 G8 t8 n14 m14 b2 G9 t9 n15 m15 => ?_
    obtain ⟨d14, _, f1', f2'⟩ := m14.same t9
    obtain ⟨d15, _, f3', f4'⟩ := m15
    have ne12 : b1 ≠ b2 := by
      obtain ⟨d, _, z, _⟩ := m14
      exact ne_of_none z n15
    refine ⟨b1, b2, cl 2, _, _, rfl, rfl, ne12, f1', f3', fun dx e => by cases e; exact ⟨_, f2'⟩, fun dx e => by cases e; exact ⟨_, f4'⟩, E2.er.mo, E2.eq, false, false, rfl, rfl, false, rfl, ?_⟩
    -- (NothingToUndo() == NothingToUndo()) is not False
    refine fun b3 n16 b4 n17 => ⟨b3, b4, cl 12, none, none, rfl, rfl, fun e => ?_, same_new n17 _ _ upd_same, upd_same, (fun dx e => nomatch e), (fun dx e => nomatch e), er12.mo, eq12, false, false, rfl, rfl, false, rfl, ?_⟩
    · rw [e, upd_same] at n17
      cases n17
    -- the end
    refine fun b5 n18 => ⟨b5, cl 12, none, .ref S, .ref S, true, rfl, upd_same, (fun dx e => nomatch e), er12, .own _, kS 12 (by decide), true, rfl, ?_⟩
    refine fun b6 n19 => ⟨b6, cl 13, none, .ref S, .ref S, true, rfl, upd_same, (fun dx e => nomatch e), er13, .own _, kS 13 (by decide), true, rfl, ?_⟩
    exact fun b7 n20 => ⟨b7, S, none, .ty "ValueError", .type "ValueError", true, rfl, upd_same, (fun dx e => nomatch e), erS, .ty _, kSV, q _⟩
end
end DQ

set_option Elab.async false
set_option linter.all false
set_option maxRecDepth 100000
set_option maxHeartbeats 4000000
namespace DQ
open PySem PySem.Spec PyProof.Rows L2
section
variable {K : PySem.W.Frag} {h : Heap} {mg : Str → Option Value}
theorem cls_mk {C N : Addr} {nm q : Str} {bs bm : List Value} {sn : List Str} {sub : List Value} {ab : Bool} {col : Option Bool} {dd : Option Addr} {m0 m1 m2 m3 m5 : Option Value}
    (xL : K.lookup C = some (excClassObj nm q C N bs bm true sn sub ab col dd m0 m1 m2 m3 m5 "ValueError.__new__")) (rv : PySem.HandSPX.refsVE bm = true) (sa : PySem.W.findIn K (.ref C) "__setattr__" = some (some (.builtin "object.__setattr__")))
    (eC : PySem.W.subIn K (.ref C) (.type "BaseException") = some true) (tC : PySem.W.typeIn K (.ref C) = some (.type "type")) (kC : PySem.W.keepIn K (.ref C) = true)
    (ga : PySem.W.findIn K (.ref C) "__getattribute__" = some (some (.builtin "BaseException.__getattribute__"))) (gg : PySem.W.findIn K (.ref C) "__getattr__" = some none)
    (ca : PySem.W.findIn K (.ref C) "__class__" = some (some (.builtin "object.__class__"))) (cg : PySem.W.specialIn K (.builtin "object.__class__") "__get__" = some (some (.builtin "getset_descriptor.__get__"))) (ct : PySem.W.takesIn K (.builtin "object.__class__") = some true)
    (mo : PySem.W.mroIn K C (.type "object") = some true) : OexC K C ∧ ErrC K C :=
  ⟨⟨⟨nm, q, N, bs, bm, sn, sub, ab, col, dd, m0, m1, m2, m3, m5, xL, rv⟩, sa, eC, tC, kC⟩, ⟨by unfold PySem.W.clsIn; rw [xL]; rfl, ga, gg, eC, ca, cg, ct, mo⟩⟩
theorem err_mk {name qual : Str} {st : Stmt} {C fI T : Addr} {oT : Obj} {n : Nat} {oc kV doc pm cdv ct' : Value} {od an : Option Addr} {osl : Array (Option Value)} (X : K.In h) (G : h.Ns mainGlobals mg) (a : PySem.W.nsIn K mainGlobals name = some (some (.ref C))) (c : OexC K C ∧ ErrC K C)
    (hd : PySem.W.hasDictIn K C = true) (nv : PySem.W.findIn K (.ref C) "value" = some none) (eq : PySem.W.findIn K (.ref C) "__eq__" = some (some (.builtin "object.__eq__")))
    (ic : PySem.W.findIn K (.ref C) "__init__" = some (some (.ref fI))) (ti : PySem.W.typeIn K (.ref fI) = some (.type "function"))
    (lf : K.lookup fI = some ⟨oc, od, .func (PySem.W.fnOf "__init__" qual (defArgs st) (defBody st) (defScope st) (.ref T) kV doc pm an cdv ct'), osl⟩) (cf : PySem.W.codeIn K cdv qual = true) (kf : PySem.W.keepIn K (.ref fI) = true)
    (lT : K.lookup T = some oT) (dT : oT.data = .seq #[.none] n) : ErrAt K mg name qual st C :=
  ⟨PySem.W.mg_of X G a, c.1, ⟨c.2.ga, c.2.gg, c.2.sub, hd⟩, nv, c.2, eq, fI, _, ic, ti, ⟨⟨oc, od, _, kV, doc, pm, an, cdv, ct', osl, rfl, lf, cf, .inr ⟨by simp, T, oT, [.none], n, rfl, lT, dT, .cons rfl .nil⟩, .inl rfl⟩, kf⟩⟩
def kitAll (K : PySem.W.Frag) (cl : Nat → Addr) : Bool := (List.range 14).all fun i => (List.range 14).all fun j => PySem.W.kitOne K (.ref (cl i)) (.ref (cl j)) == some (decide (j = i))
def kitTo (K : PySem.W.Frag) (cl : Nat → Addr) (c : Value) : Bool := (List.range 14).all fun i => PySem.W.kitOne K (.ref (cl i)) c == some true
theorem kitAll_of {cl : Nat → Addr} (e : kitAll K cl = true) : ∀ i j, i < 14 → j < 14 → PySem.W.kitOne K (.ref (cl i)) (.ref (cl j)) = some (decide (j = i)) := fun i j hi hj =>
  beq_iff_eq.mp (List.all_eq_true.mp (List.all_eq_true.mp e i (List.mem_range.mpr hi)) j (List.mem_range.mpr hj))
theorem kitTo_of {cl : Nat → Addr} {c : Value} (e : kitTo K cl c = true) : ∀ i, i < 14 → PySem.W.kitOne K (.ref (cl i)) c = some true := fun i hi => beq_iff_eq.mp (List.all_eq_true.mp e i (List.mem_range.mpr hi))
end
/-- a def of the top, by its facts -/
structure DefAt (K : PySem.W.Frag) (mg : Str → Option Value) (x : Str) (st : Stmt) (f : Addr) (fd : FuncData) : Prop where
  g : mg x = some (.ref f)
  F : Fun K x x st f fd
theorem def_mk {K : PySem.W.Frag} {h : Heap} {mg : Str → Option Value} {x : Str} {st : Stmt} {f : Addr} {oc kV doc pm cdv ct : Value} {od an : Option Addr} {osl : Array (Option Value)} (X : K.In h) (G : h.Ns mainGlobals mg) (a : PySem.W.nsIn K mainGlobals x = some (some (.ref f)))
    (l : K.lookup f = some ⟨oc, od, .func (PySem.W.fnOf x x (defArgs st) (defBody st) (defScope st) .none kV doc pm an cdv ct), osl⟩) (c : PySem.W.codeIn K cdv x = true) (k : PySem.W.keepIn K (.ref f) = true) : ∃ fd, DefAt K mg x st f fd :=
  ⟨_, PySem.W.mg_of X G a, fun_mk (st := st) l c k⟩
theorem all {P : Program} {w : World} {K : PySem.W.Frag} {mg : Str → Option Value} {cl : Nat → Addr} {S fa f1 f2 f3 f4 f5 f6 f7 f8 : Addr} (hfa : mg "law" = some (.ref fa))
    (E0 : ErrAt K mg "InvalidStore" "InvalidStore.__init__" (sInit 2) (cl 0))
    (E1 : ErrAt K mg "InvalidQuestion" "InvalidQuestion.__init__" (sInit 3) (cl 1))
    (E2 : ErrAt K mg "InvalidName" "InvalidName.__init__" (sInit 4) (cl 2))
    (E3 : ErrAt K mg "InvalidItem" "InvalidItem.__init__" (sInit 5) (cl 3))
    (E4 : ErrAt K mg "InvalidFact" "InvalidFact.__init__" (sInit 6) (cl 4))
    (E5 : ErrAt K mg "InvalidNumber" "InvalidNumber.__init__" (sInit 7) (cl 5))
    (E6 : ErrAt K mg "InvalidList" "InvalidList.__init__" (sInit 8) (cl 6))
    (E7 : ErrAt K mg "InvalidText" "InvalidText.__init__" (sInit 9) (cl 7))
    (E8 : ErrAt K mg "InvalidPaper" "InvalidPaper.__init__" (sInit 10) (cl 8))
    (E9 : ErrAt K mg "InvalidFlag" "InvalidFlag.__init__" (sInit 11) (cl 9))
    (E10 : ErrAt K mg "Unlike" "Unlike.__init__" (sInit 12) (cl 10))
    (E11 : ErrAt K mg "TooMany" "TooMany.__init__" (sInit 13) (cl 11))
    (g12 : mg "NothingToUndo" = some (.ref (cl 12))) (c12 : OexC K (cl 12) ∧ ErrC K (cl 12)) (i12 : PySem.W.findIn K (.ref (cl 12)) "__init__" = some (some (.builtin "ValueError.__init__"))) (eq12 : PySem.W.findIn K (.ref (cl 12)) "__eq__" = some (some (.builtin "object.__eq__")))
    (g13 : mg "NothingToRedo" = some (.ref (cl 13))) (c13 : OexC K (cl 13) ∧ ErrC K (cl 13)) (i13 : PySem.W.findIn K (.ref (cl 13)) "__init__" = some (some (.builtin "ValueError.__init__")))
    (gS : mg "StoreError" = some (.ref S)) (cS : OexC K S ∧ ErrC K S) (iS_ : PySem.W.findIn K (.ref S) "__init__" = some (some (.builtin "ValueError.__init__")))
    (k1 : kitAll K cl = true) (k2 : kitTo K cl (.ref S) = true) (k3 : kitTo K cl (.type "ValueError") = true) (k4 : PySem.W.kitOne K (.ref S) (.type "ValueError") = some true)
    (D1 : ∃ fd, DefAt K mg "_law_hash" sHash f1 fd) (D2 : ∃ fd, DefAt K mg "_law_random" sRandom f2 fd) (D3 : ∃ fd, DefAt K mg "_law_cell" sCell f3 fd) (D4 : ∃ fd, DefAt K mg "_law_generator" sGenerator f4 fd)
    (D5 : ∃ fd, DefAt K mg "_law_first" sFirst f5 fd) (D6 : ∃ fd, DefAt K mg "_law_second" sSecond f6 fd) (D7 : ∃ fd, DefAt K mg "_law_flags" sFlags f7 fd) (D8 : ∃ fd, DefAt K mg "law" sLaw f8 fd)
    (mi : mg "int" = none) (mr : mg "range" = none) (ml : mg "len" = none) (ms : mg "sum" = none) (mm : mg "max" = none) (mI : mg "isinstance" = none) (mV : mg "ValueError" = none) (mL : mg "list" = none) :
    ∃ fd : FuncData, (∀ (s : Shared) (v : Value), BindsTo s fd ⟨[v], []⟩ [("script", v)]) ∧ ∀ base : Heap, FnOk P w K mg base CX0 4 fa fd ["script"] (spLaw K) := by
  obtain ⟨d1, G1⟩ := D1
  obtain ⟨d2, G2⟩ := D2
  obtain ⟨d3, G3⟩ := D3
  obtain ⟨d4, G4⟩ := D4
  obtain ⟨d5, G5⟩ := D5
  obtain ⟨d6, G6⟩ := D6
  obtain ⟨d7, G7⟩ := D7
  obtain ⟨d8, G8⟩ := D8
  have e := hfa.symm.trans G8.g
  cases e
  have b1 := G1.F.binds (ps := ["seed", "index"]) fun _ _ _ _ _ _ us hl => match us, hl with | [_, _], _ => rfl
  have b2 := G2.F.binds (ps := ["generator", "bound"]) fun _ _ _ _ _ _ us hl => match us, hl with | [_, _], _ => rfl
  have b3 := G3.F.binds (ps := ["script", "index"]) fun _ _ _ _ _ _ us hl => match us, hl with | [_, _], _ => rfl
  have b4 := G4.F.binds (ps := ["script", "index"]) fun _ _ _ _ _ _ us hl => match us, hl with | [_, _], _ => rfl
  have b5 := G5.F.binds (ps := ["which", "value"]) fun _ _ _ _ _ _ us hl => match us, hl with | [_, _], _ => rfl
  have b6 := G6.F.binds (ps := ["which", "value"]) fun _ _ _ _ _ _ us hl => match us, hl with | [_, _], _ => rfl
  have b7 := G7.F.binds (ps := ["error"]) fun _ _ _ _ _ _ us hl => match us, hl with | [_], _ => rfl
  refine ⟨d8, fun s v => ?_, fun base => ?_⟩
  · obtain ⟨oc, od, kV, doc, pm, an, cdv, ct, osl, rfl, _⟩ := G8.F.ex
    exact .of_eq rfl
  have U0 : ErrUse P w K mg base "InvalidStore" (cl 0) := E0.use it2
  have U1 : ErrUse P w K mg base "InvalidQuestion" (cl 1) := E1.use it3
  have U2 : ErrUse P w K mg base "InvalidName" (cl 2) := E2.use it4
  have U3 : ErrUse P w K mg base "InvalidItem" (cl 3) := E3.use it5
  have U4 : ErrUse P w K mg base "InvalidFact" (cl 4) := E4.use it6
  have U5 : ErrUse P w K mg base "InvalidNumber" (cl 5) := E5.use it7
  have U6 : ErrUse P w K mg base "InvalidList" (cl 6) := E6.use it8
  have U7 : ErrUse P w K mg base "InvalidText" (cl 7) := E7.use it9
  have U8 : ErrUse P w K mg base "InvalidPaper" (cl 8) := E8.use it10
  have U9 : ErrUse P w K mg base "InvalidFlag" (cl 9) := E9.use it11
  have U10 : ErrUse P w K mg base "Unlike" (cl 10) := E10.use it12
  have U11 : ErrUse P w K mg base "TooMany" (cl 11) := E11.use it13
  have o1 := ok_hash (P := P) (w := w) (mg := mg) (base := base) G1.F mi
  have o2 := ok_random G2.F o1 b1 G1.F.kp G1.g mi mr
  have o3 := ok_cell (P := P) (w := w) (base := base) G3.F ml ms
  have o4 := ok_generator G4.F o3 b3 G3.F.kp G3.g mi mm
  have o5 := ok_first G5.F U0 U1 U2 U3 U4 U5
  have o6 := ok_second G6.F U6 U7 U8 U9 U10 U11
  have o7 := ok_flags (P := P) (w := w) (base := base) G7.F mI (kitAll_of k1) U0.g U1.g U2.g U3.g U4.g U5.g U6.g U7.g U8.g U9.g U10.g U11.g g12 g13
  exact ok_law G8.F o4 b4 G4.F.kp G4.g o2 b2 G2.F.kp G2.g o7 b7 G7.F.kp G7.g o5 b5 G5.F.kp G5.g o6 b6 G6.F.kp G6.g U0 U1 U2 U3 U4 U5 U6 U7 U8 U9 U10 U11 g12 c12.1 i12 c12.2 eq12 g13 c13.1 i13 c13.2 gS cS.1 iS_ cS.2 (kitTo_of k2) (kitTo_of k3) k4 mI mr mV mL
theorem all_of {P : Program} {w : World} {K : PySem.W.Frag} {mg : Str → Option Value} {c0 c1 c2 c3 c4 c5 c6 c7 c8 c9 c10 c11 c12 c13 : Addr} {S fa f1 f2 f3 f4 f5 f6 f7 f8 : Addr} (hfa : mg "law" = some (.ref fa))
    (E0 : ErrAt K mg "InvalidStore" "InvalidStore.__init__" (sInit 2) c0)
    (E1 : ErrAt K mg "InvalidQuestion" "InvalidQuestion.__init__" (sInit 3) c1)
    (E2 : ErrAt K mg "InvalidName" "InvalidName.__init__" (sInit 4) c2)
    (E3 : ErrAt K mg "InvalidItem" "InvalidItem.__init__" (sInit 5) c3)
    (E4 : ErrAt K mg "InvalidFact" "InvalidFact.__init__" (sInit 6) c4)
    (E5 : ErrAt K mg "InvalidNumber" "InvalidNumber.__init__" (sInit 7) c5)
    (E6 : ErrAt K mg "InvalidList" "InvalidList.__init__" (sInit 8) c6)
    (E7 : ErrAt K mg "InvalidText" "InvalidText.__init__" (sInit 9) c7)
    (E8 : ErrAt K mg "InvalidPaper" "InvalidPaper.__init__" (sInit 10) c8)
    (E9 : ErrAt K mg "InvalidFlag" "InvalidFlag.__init__" (sInit 11) c9)
    (E10 : ErrAt K mg "Unlike" "Unlike.__init__" (sInit 12) c10)
    (E11 : ErrAt K mg "TooMany" "TooMany.__init__" (sInit 13) c11)
    (g12 : mg "NothingToUndo" = some (.ref c12)) (q12 : OexC K c12 ∧ ErrC K c12) (i12 : PySem.W.findIn K (.ref c12) "__init__" = some (some (.builtin "ValueError.__init__"))) (eq12 : PySem.W.findIn K (.ref c12) "__eq__" = some (some (.builtin "object.__eq__")))
    (g13 : mg "NothingToRedo" = some (.ref c13)) (q13 : OexC K c13 ∧ ErrC K c13) (i13 : PySem.W.findIn K (.ref c13) "__init__" = some (some (.builtin "ValueError.__init__")))
    (gS : mg "StoreError" = some (.ref S)) (cS : OexC K S ∧ ErrC K S) (iS_ : PySem.W.findIn K (.ref S) "__init__" = some (some (.builtin "ValueError.__init__")))
    (k1 : kitAll K (fun i => [c0, c1, c2, c3, c4, c5, c6, c7, c8, c9, c10, c11, c12, c13].getD i 0) = true) (k2 : kitTo K (fun i => [c0, c1, c2, c3, c4, c5, c6, c7, c8, c9, c10, c11, c12, c13].getD i 0) (.ref S) = true) (k3 : kitTo K (fun i => [c0, c1, c2, c3, c4, c5, c6, c7, c8, c9, c10, c11, c12, c13].getD i 0) (.type "ValueError") = true) (k4 : PySem.W.kitOne K (.ref S) (.type "ValueError") = some true)
    (D1 : ∃ fd, DefAt K mg "_law_hash" sHash f1 fd) (D2 : ∃ fd, DefAt K mg "_law_random" sRandom f2 fd) (D3 : ∃ fd, DefAt K mg "_law_cell" sCell f3 fd) (D4 : ∃ fd, DefAt K mg "_law_generator" sGenerator f4 fd)
    (D5 : ∃ fd, DefAt K mg "_law_first" sFirst f5 fd) (D6 : ∃ fd, DefAt K mg "_law_second" sSecond f6 fd) (D7 : ∃ fd, DefAt K mg "_law_flags" sFlags f7 fd) (D8 : ∃ fd, DefAt K mg "law" sLaw f8 fd)
    (mi : mg "int" = none) (mr : mg "range" = none) (ml : mg "len" = none) (ms : mg "sum" = none) (mm : mg "max" = none) (mI : mg "isinstance" = none) (mV : mg "ValueError" = none) (mL : mg "list" = none) :
    ∃ fd : FuncData, (∀ (s : Shared) (v : Value), BindsTo s fd ⟨[v], []⟩ [("script", v)]) ∧ ∀ base : Heap, FnOk P w K mg base CX0 4 fa fd ["script"] (spLaw K) :=
  all (cl := (fun i => [c0, c1, c2, c3, c4, c5, c6, c7, c8, c9, c10, c11, c12, c13].getD i 0)) hfa E0 E1 E2 E3 E4 E5 E6 E7 E8 E9 E10 E11 g12 q12 i12 eq12 g13 q13 i13 gS cS iS_ k1 k2 k3 k4 D1 D2 D3 D4 D5 D6 D7 D8 mi mr ml ms mm mI mV mL
theorem walk {l : PySem.W.OpenLaw} {q : Program} {loose : List Str} {XP : (Str → Option Value) → Heap → Prop} {YP : World → Heap → Prop} {d : DefRec} {K : Params → PySem.W.Frag} (hn : l.most = some 63) (hdf : d.params.defaults = [])
    (hY : ∀ (w : World) (h : Heap), YP w h → (K w.params).In h)
    (F : ∀ (w : World) (mg : Str → Option Value) (fa : Addr) (h : Heap), (K w.params).In h → h.Ns mainGlobals mg → mg d.name = some (.ref fa) →
      ∃ fd : FuncData, (∀ (s : Shared) (u : Value), BindsTo s fd ⟨[u], []⟩ [("script", u)]) ∧ ∀ base : Heap, (K w.params).In base → base.Ns mainGlobals mg → FnOk l.prog w (K w.params) mg base CX0 4 fa fd ["script"] (spLaw (K w.params))) :
    PySem.W.WalkO q loose XP YP l.row.toRowW d [] (fun f vs => PySem.call f vs) :=
  L2.walk_of (n := 63) (k := 4) (x := "script") (CX := fun _ => CX0) (sp := fun w => spLaw (K w.params)) hn (by decide) hdf ⟨rfl, by decide, by decide⟩ hY F (fun _ _ a ns hl _ hS => ⟨a, ns, rfl, hS, fun _ => rfl⟩) fun _ _ _ _ _ z => z
end DQ
open PySem PySem.W PyProof.Rows
set_option maxRecDepth 100000 in
set_option maxHeartbeats 0 in
theorem PySem.Challenge.cw_depthquestions_k01_errors_by_their_class_holds : PySem.Challenge.rw_depthquestions_k01_errors_by_their_class.Holds := by
  w_on; o_law; k_head; (case hw => w_witness2)
  k_fill
  refine DQ.walk (l := PySem.Challenge.rw_depthquestions_k01_errors_by_their_class) rfl rfl (fun w h Y => PySem.W.kIn_of Y) ?F
  case F =>
    intro w mg fa h KX G hmg
    suffices A : ∃ fd : FuncData, (∀ (s : Shared) (v : Value), BindsTo s fd ⟨[v], []⟩ [("script", v)]) ∧ ∀ base : Heap, L2.FnOk (PySem.Challenge.rw_depthquestions_k01_errors_by_their_class).prog w _ mg base L2.CX0 4 fa fd ["script"] (DQ.spLaw _) from A.imp fun fd z => ⟨z.1, fun base _ _ => z.2 base⟩
    refine' DQ.all_of hmg
      (DQ.err_mk KX G ?a0 (DQ.cls_mk ?xL0 ?rv0 ?sa0 ?eC0 ?tC0 ?kC0 ?ga0 ?gg0 ?ca0 ?cg0 ?ct0 ?mo0) ?hd0 ?nv0 ?eq0 ?ic0 ?ti0 ?lf0 ?cf0 ?kf0 ?lT0 ?dT0)
      (DQ.err_mk KX G ?a1 (DQ.cls_mk ?xL1 ?rv1 ?sa1 ?eC1 ?tC1 ?kC1 ?ga1 ?gg1 ?ca1 ?cg1 ?ct1 ?mo1) ?hd1 ?nv1 ?eq1 ?ic1 ?ti1 ?lf1 ?cf1 ?kf1 ?lT1 ?dT1)
      (DQ.err_mk KX G ?a2 (DQ.cls_mk ?xL2 ?rv2 ?sa2 ?eC2 ?tC2 ?kC2 ?ga2 ?gg2 ?ca2 ?cg2 ?ct2 ?mo2) ?hd2 ?nv2 ?eq2 ?ic2 ?ti2 ?lf2 ?cf2 ?kf2 ?lT2 ?dT2)
      (DQ.err_mk KX G ?a3 (DQ.cls_mk ?xL3 ?rv3 ?sa3 ?eC3 ?tC3 ?kC3 ?ga3 ?gg3 ?ca3 ?cg3 ?ct3 ?mo3) ?hd3 ?nv3 ?eq3 ?ic3 ?ti3 ?lf3 ?cf3 ?kf3 ?lT3 ?dT3)
      (DQ.err_mk KX G ?a4 (DQ.cls_mk ?xL4 ?rv4 ?sa4 ?eC4 ?tC4 ?kC4 ?ga4 ?gg4 ?ca4 ?cg4 ?ct4 ?mo4) ?hd4 ?nv4 ?eq4 ?ic4 ?ti4 ?lf4 ?cf4 ?kf4 ?lT4 ?dT4)
      (DQ.err_mk KX G ?a5 (DQ.cls_mk ?xL5 ?rv5 ?sa5 ?eC5 ?tC5 ?kC5 ?ga5 ?gg5 ?ca5 ?cg5 ?ct5 ?mo5) ?hd5 ?nv5 ?eq5 ?ic5 ?ti5 ?lf5 ?cf5 ?kf5 ?lT5 ?dT5)
      (DQ.err_mk KX G ?a6 (DQ.cls_mk ?xL6 ?rv6 ?sa6 ?eC6 ?tC6 ?kC6 ?ga6 ?gg6 ?ca6 ?cg6 ?ct6 ?mo6) ?hd6 ?nv6 ?eq6 ?ic6 ?ti6 ?lf6 ?cf6 ?kf6 ?lT6 ?dT6)
      (DQ.err_mk KX G ?a7 (DQ.cls_mk ?xL7 ?rv7 ?sa7 ?eC7 ?tC7 ?kC7 ?ga7 ?gg7 ?ca7 ?cg7 ?ct7 ?mo7) ?hd7 ?nv7 ?eq7 ?ic7 ?ti7 ?lf7 ?cf7 ?kf7 ?lT7 ?dT7)
      (DQ.err_mk KX G ?a8 (DQ.cls_mk ?xL8 ?rv8 ?sa8 ?eC8 ?tC8 ?kC8 ?ga8 ?gg8 ?ca8 ?cg8 ?ct8 ?mo8) ?hd8 ?nv8 ?eq8 ?ic8 ?ti8 ?lf8 ?cf8 ?kf8 ?lT8 ?dT8)
      (DQ.err_mk KX G ?a9 (DQ.cls_mk ?xL9 ?rv9 ?sa9 ?eC9 ?tC9 ?kC9 ?ga9 ?gg9 ?ca9 ?cg9 ?ct9 ?mo9) ?hd9 ?nv9 ?eq9 ?ic9 ?ti9 ?lf9 ?cf9 ?kf9 ?lT9 ?dT9)
      (DQ.err_mk KX G ?a10 (DQ.cls_mk ?xL10 ?rv10 ?sa10 ?eC10 ?tC10 ?kC10 ?ga10 ?gg10 ?ca10 ?cg10 ?ct10 ?mo10) ?hd10 ?nv10 ?eq10 ?ic10 ?ti10 ?lf10 ?cf10 ?kf10 ?lT10 ?dT10)
      (DQ.err_mk KX G ?a11 (DQ.cls_mk ?xL11 ?rv11 ?sa11 ?eC11 ?tC11 ?kC11 ?ga11 ?gg11 ?ca11 ?cg11 ?ct11 ?mo11) ?hd11 ?nv11 ?eq11 ?ic11 ?ti11 ?lf11 ?cf11 ?kf11 ?lT11 ?dT11)
      (PySem.W.mg_of KX G ?a12) (DQ.cls_mk ?xL12 ?rv12 ?sa12 ?eC12 ?tC12 ?kC12 ?ga12 ?gg12 ?ca12 ?cg12 ?ct12 ?mo12) ?i12 ?eq12
      (PySem.W.mg_of KX G ?a13) (DQ.cls_mk ?xL13 ?rv13 ?sa13 ?eC13 ?tC13 ?kC13 ?ga13 ?gg13 ?ca13 ?cg13 ?ct13 ?mo13) ?i13
      (PySem.W.mg_of KX G ?a14) (DQ.cls_mk ?xL14 ?rv14 ?sa14 ?eC14 ?tC14 ?kC14 ?ga14 ?gg14 ?ca14 ?cg14 ?ct14 ?mo14) ?i14
      ?k1 ?k2 ?k3 ?k4
      (DQ.def_mk KX G ?da0 ?dl0 ?dc0 ?dk0)
      (DQ.def_mk KX G ?da1 ?dl1 ?dc1 ?dk1)
      (DQ.def_mk KX G ?da2 ?dl2 ?dc2 ?dk2)
      (DQ.def_mk KX G ?da3 ?dl3 ?dc3 ?dk3)
      (DQ.def_mk KX G ?da4 ?dl4 ?dc4 ?dk4)
      (DQ.def_mk KX G ?da5 ?dl5 ?dc5 ?dk5)
      (DQ.def_mk KX G ?da6 ?dl6 ?dc6 ?dk6)
      (DQ.def_mk KX G ?da7 ?dl7 ?dc7 ?dk7)
      (PySem.W.mg_none_of KX G ?z0)
      (PySem.W.mg_none_of KX G ?z1)
      (PySem.W.mg_none_of KX G ?z2)
      (PySem.W.mg_none_of KX G ?z3)
      (PySem.W.mg_none_of KX G ?z4)
      (PySem.W.mg_none_of KX G ?z5)
      (PySem.W.mg_none_of KX G ?z6)
      (PySem.W.mg_none_of KX G ?z7)
    (case a0 => k_is)
    (case xL0 => k_is)
    (case rv0 => decide +kernel)
    (case sa0 => k_is)
    (case eC0 => k_is)
    (case tC0 => k_is)
    (case kC0 => k_is)
    (case ga0 => k_is)
    (case gg0 => k_is)
    (case ca0 => k_is)
    (case cg0 => k_is)
    (case ct0 => k_is)
    (case mo0 => k_is)
    (case hd0 => k_is)
    (case nv0 => k_is)
    (case eq0 => k_is)
    (case ic0 => k_is)
    (case ti0 => k_is)
    (case lf0 => k_is)
    (case cf0 => k_is)
    (case kf0 => k_is)
    (case lT0 => k_is)
    (case dT0 => rfl)
    (case a1 => k_is)
    (case xL1 => k_is)
    (case rv1 => decide +kernel)
    (case sa1 => k_is)
    (case eC1 => k_is)
    (case tC1 => k_is)
    (case kC1 => k_is)
    (case ga1 => k_is)
    (case gg1 => k_is)
    (case ca1 => k_is)
    (case cg1 => k_is)
    (case ct1 => k_is)
    (case mo1 => k_is)
    (case hd1 => k_is)
    (case nv1 => k_is)
    (case eq1 => k_is)
    (case ic1 => k_is)
    (case ti1 => k_is)
    (case lf1 => k_is)
    (case cf1 => k_is)
    (case kf1 => k_is)
    (case lT1 => k_is)
    (case dT1 => rfl)
    (case a2 => k_is)
    (case xL2 => k_is)
    (case rv2 => decide +kernel)
    (case sa2 => k_is)
    (case eC2 => k_is)
    (case tC2 => k_is)
    (case kC2 => k_is)
    (case ga2 => k_is)
    (case gg2 => k_is)
    (case ca2 => k_is)
    (case cg2 => k_is)
    (case ct2 => k_is)
    (case mo2 => k_is)
    (case hd2 => k_is)
    (case nv2 => k_is)
    (case eq2 => k_is)
    (case ic2 => k_is)
    (case ti2 => k_is)
    (case lf2 => k_is)
    (case cf2 => k_is)
    (case kf2 => k_is)
    (case lT2 => k_is)
    (case dT2 => rfl)
    (case a3 => k_is)
    (case xL3 => k_is)
    (case rv3 => decide +kernel)
    (case sa3 => k_is)
    (case eC3 => k_is)
    (case tC3 => k_is)
    (case kC3 => k_is)
    (case ga3 => k_is)
    (case gg3 => k_is)
    (case ca3 => k_is)
    (case cg3 => k_is)
    (case ct3 => k_is)
    (case mo3 => k_is)
    (case hd3 => k_is)
    (case nv3 => k_is)
    (case eq3 => k_is)
    (case ic3 => k_is)
    (case ti3 => k_is)
    (case lf3 => k_is)
    (case cf3 => k_is)
    (case kf3 => k_is)
    (case lT3 => k_is)
    (case dT3 => rfl)
    (case a4 => k_is)
    (case xL4 => k_is)
    (case rv4 => decide +kernel)
    (case sa4 => k_is)
    (case eC4 => k_is)
    (case tC4 => k_is)
    (case kC4 => k_is)
    (case ga4 => k_is)
    (case gg4 => k_is)
    (case ca4 => k_is)
    (case cg4 => k_is)
    (case ct4 => k_is)
    (case mo4 => k_is)
    (case hd4 => k_is)
    (case nv4 => k_is)
    (case eq4 => k_is)
    (case ic4 => k_is)
    (case ti4 => k_is)
    (case lf4 => k_is)
    (case cf4 => k_is)
    (case kf4 => k_is)
    (case lT4 => k_is)
    (case dT4 => rfl)
    (case a5 => k_is)
    (case xL5 => k_is)
    (case rv5 => decide +kernel)
    (case sa5 => k_is)
    (case eC5 => k_is)
    (case tC5 => k_is)
    (case kC5 => k_is)
    (case ga5 => k_is)
    (case gg5 => k_is)
    (case ca5 => k_is)
    (case cg5 => k_is)
    (case ct5 => k_is)
    (case mo5 => k_is)
    (case hd5 => k_is)
    (case nv5 => k_is)
    (case eq5 => k_is)
    (case ic5 => k_is)
    (case ti5 => k_is)
    (case lf5 => k_is)
    (case cf5 => k_is)
    (case kf5 => k_is)
    (case lT5 => k_is)
    (case dT5 => rfl)
    (case a6 => k_is)
    (case xL6 => k_is)
    (case rv6 => decide +kernel)
    (case sa6 => k_is)
    (case eC6 => k_is)
    (case tC6 => k_is)
    (case kC6 => k_is)
    (case ga6 => k_is)
    (case gg6 => k_is)
    (case ca6 => k_is)
    (case cg6 => k_is)
    (case ct6 => k_is)
    (case mo6 => k_is)
    (case hd6 => k_is)
    (case nv6 => k_is)
    (case eq6 => k_is)
    (case ic6 => k_is)
    (case ti6 => k_is)
    (case lf6 => k_is)
    (case cf6 => k_is)
    (case kf6 => k_is)
    (case lT6 => k_is)
    (case dT6 => rfl)
    (case a7 => k_is)
    (case xL7 => k_is)
    (case rv7 => decide +kernel)
    (case sa7 => k_is)
    (case eC7 => k_is)
    (case tC7 => k_is)
    (case kC7 => k_is)
    (case ga7 => k_is)
    (case gg7 => k_is)
    (case ca7 => k_is)
    (case cg7 => k_is)
    (case ct7 => k_is)
    (case mo7 => k_is)
    (case hd7 => k_is)
    (case nv7 => k_is)
    (case eq7 => k_is)
    (case ic7 => k_is)
    (case ti7 => k_is)
    (case lf7 => k_is)
    (case cf7 => k_is)
    (case kf7 => k_is)
    (case lT7 => k_is)
    (case dT7 => rfl)
    (case a8 => k_is)
    (case xL8 => k_is)
    (case rv8 => decide +kernel)
    (case sa8 => k_is)
    (case eC8 => k_is)
    (case tC8 => k_is)
    (case kC8 => k_is)
    (case ga8 => k_is)
    (case gg8 => k_is)
    (case ca8 => k_is)
    (case cg8 => k_is)
    (case ct8 => k_is)
    (case mo8 => k_is)
    (case hd8 => k_is)
    (case nv8 => k_is)
    (case eq8 => k_is)
    (case ic8 => k_is)
    (case ti8 => k_is)
    (case lf8 => k_is)
    (case cf8 => k_is)
    (case kf8 => k_is)
    (case lT8 => k_is)
    (case dT8 => rfl)
    (case a9 => k_is)
    (case xL9 => k_is)
    (case rv9 => decide +kernel)
    (case sa9 => k_is)
    (case eC9 => k_is)
    (case tC9 => k_is)
    (case kC9 => k_is)
    (case ga9 => k_is)
    (case gg9 => k_is)
    (case ca9 => k_is)
    (case cg9 => k_is)
    (case ct9 => k_is)
    (case mo9 => k_is)
    (case hd9 => k_is)
    (case nv9 => k_is)
    (case eq9 => k_is)
    (case ic9 => k_is)
    (case ti9 => k_is)
    (case lf9 => k_is)
    (case cf9 => k_is)
    (case kf9 => k_is)
    (case lT9 => k_is)
    (case dT9 => rfl)
    (case a10 => k_is)
    (case xL10 => k_is)
    (case rv10 => decide +kernel)
    (case sa10 => k_is)
    (case eC10 => k_is)
    (case tC10 => k_is)
    (case kC10 => k_is)
    (case ga10 => k_is)
    (case gg10 => k_is)
    (case ca10 => k_is)
    (case cg10 => k_is)
    (case ct10 => k_is)
    (case mo10 => k_is)
    (case hd10 => k_is)
    (case nv10 => k_is)
    (case eq10 => k_is)
    (case ic10 => k_is)
    (case ti10 => k_is)
    (case lf10 => k_is)
    (case cf10 => k_is)
    (case kf10 => k_is)
    (case lT10 => k_is)
    (case dT10 => rfl)
    (case a11 => k_is)
    (case xL11 => k_is)
    (case rv11 => decide +kernel)
    (case sa11 => k_is)
    (case eC11 => k_is)
    (case tC11 => k_is)
    (case kC11 => k_is)
    (case ga11 => k_is)
    (case gg11 => k_is)
    (case ca11 => k_is)
    (case cg11 => k_is)
    (case ct11 => k_is)
    (case mo11 => k_is)
    (case hd11 => k_is)
    (case nv11 => k_is)
    (case eq11 => k_is)
    (case ic11 => k_is)
    (case ti11 => k_is)
    (case lf11 => k_is)
    (case cf11 => k_is)
    (case kf11 => k_is)
    (case lT11 => k_is)
    (case dT11 => rfl)
    (case a12 => k_is)
    (case xL12 => k_is)
    (case rv12 => decide +kernel)
    (case sa12 => k_is)
    (case eC12 => k_is)
    (case tC12 => k_is)
    (case kC12 => k_is)
    (case ga12 => k_is)
    (case gg12 => k_is)
    (case ca12 => k_is)
    (case cg12 => k_is)
    (case ct12 => k_is)
    (case mo12 => k_is)
    (case i12 => k_is)
    (case eq12 => k_is)
    (case a13 => k_is)
    (case xL13 => k_is)
    (case rv13 => decide +kernel)
    (case sa13 => k_is)
    (case eC13 => k_is)
    (case tC13 => k_is)
    (case kC13 => k_is)
    (case ga13 => k_is)
    (case gg13 => k_is)
    (case ca13 => k_is)
    (case cg13 => k_is)
    (case ct13 => k_is)
    (case mo13 => k_is)
    (case i13 => k_is)
    (case a14 => k_is)
    (case xL14 => k_is)
    (case rv14 => decide +kernel)
    (case sa14 => k_is)
    (case eC14 => k_is)
    (case tC14 => k_is)
    (case kC14 => k_is)
    (case ga14 => k_is)
    (case gg14 => k_is)
    (case ca14 => k_is)
    (case cg14 => k_is)
    (case ct14 => k_is)
    (case mo14 => k_is)
    (case i14 => k_is)
    (case da0 => k_is)
    (case dl0 => k_is)
    (case dc0 => k_is)
    (case dk0 => k_is)
    (case da1 => k_is)
    (case dl1 => k_is)
    (case dc1 => k_is)
    (case dk1 => k_is)
    (case da2 => k_is)
    (case dl2 => k_is)
    (case dc2 => k_is)
    (case dk2 => k_is)
    (case da3 => k_is)
    (case dl3 => k_is)
    (case dc3 => k_is)
    (case dk3 => k_is)
    (case da4 => k_is)
    (case dl4 => k_is)
    (case dc4 => k_is)
    (case dk4 => k_is)
    (case da5 => k_is)
    (case dl5 => k_is)
    (case dc5 => k_is)
    (case dk5 => k_is)
    (case da6 => k_is)
    (case dl6 => k_is)
    (case dc6 => k_is)
    (case dk6 => k_is)
    (case da7 => k_is)
    (case dl7 => k_is)
    (case dc7 => k_is)
    (case dk7 => k_is)
    (case z0 => k_is)
    (case z1 => k_is)
    (case z2 => k_is)
    (case z3 => k_is)
    (case z4 => k_is)
    (case z5 => k_is)
    (case z6 => k_is)
    (case z7 => k_is)
    (case k1 => kernel_rfl)
    (case k2 => kernel_rfl)
    (case k3 => kernel_rfl)
    (case k4 => kernel_rfl)

