import PyProof.Rows.All
import Wide.All
import OpenK.AllK
import Wide.FinOn
import HandS.ForMost
import PySem.Challenge.RW_bestlooks_k00_errors
import KE.KIsAll
import HandS.Exc
import HandS.ExcOwn
import HandS.ExcInit
import HandS.ExcIs
import HandS.ExcValue
import HandS.ExcField
import HandS.IsInst
import HandS.Walk
import HandS.Zip
set_option Elab.async false
set_option maxRecDepth 100000
/-! The pen of draws: _law_pen, _law_draw, _law_pick, _law_far. -/
namespace K00
open PySem L2
def top (i : Nat) : Stmt := PySem.Challenge.pw_bestlooks_k00_errors.main.body.getD i (.Pass ⟨0, 0, 0, 0⟩)
abbrev sPen : Stmt := top 15
abbrev sDraw : Stmt := top 16
abbrev sPick : Stmt := top 17
abbrev sFar : Stmt := top 18
/-- the pairs of the pen's dict -/
def pk (c : Addr) (a d n f : Int) : List (Key × V) :=
  [(.inr "cells", .ref c), (.inr "at", .int a), (.inr "digits", .int d), (.inr "count", .int n), (.inr "fold", .int f)]
abbrev kk (x : Str) : Key := Sum.inr x
theorem key_ne {x y : Str} (h : ¬ x = y) : ¬ (kk x = kk y) := fun q => h (Sum.inr.inj q)
theorem n_ca : ¬ (("cells" : Str) = "at") := by decide +kernel
theorem n_cd : ¬ (("cells" : Str) = "digits") := by decide +kernel
theorem n_cn : ¬ (("cells" : Str) = "count") := by decide +kernel
theorem n_cf : ¬ (("cells" : Str) = "fold") := by decide +kernel
theorem n_ad : ¬ (("at" : Str) = "digits") := by decide +kernel
theorem n_an : ¬ (("at" : Str) = "count") := by decide +kernel
theorem n_af : ¬ (("at" : Str) = "fold") := by decide +kernel
theorem n_dn : ¬ (("digits" : Str) = "count") := by decide +kernel
theorem n_df : ¬ (("digits" : Str) = "fold") := by decide +kernel
theorem n_nf : ¬ (("count" : Str) = "fold") := by decide +kernel
theorem m_ad : ¬ (("digits" : Str) = "at") := fun e => n_ad e.symm
theorem m_an : ¬ (("count" : Str) = "at") := fun e => n_an e.symm
theorem m_af : ¬ (("fold" : Str) = "at") := fun e => n_af e.symm
theorem m_dn : ¬ (("count" : Str) = "digits") := fun e => n_dn e.symm
theorem m_df : ¬ (("fold" : Str) = "digits") := fun e => n_df e.symm
theorem m_nf : ¬ (("fold" : Str) = "count") := fun e => n_nf e.symm
section
variable (c : Addr) (a d n f y : Int)
theorem g_cells : valV (pk c a d n f) (kk "cells") = some (.ref c) := by
  unfold pk
  rw [valV_pos rfl]
theorem g_at : valV (pk c a d n f) (kk "at") = some (.int a) := by
  unfold pk
  rw [valV_neg (key_ne n_ca), valV_pos rfl]
theorem g_digits : valV (pk c a d n f) (kk "digits") = some (.int d) := by
  unfold pk
  rw [valV_neg (key_ne n_cd), valV_neg (key_ne n_ad), valV_pos rfl]
theorem g_count : valV (pk c a d n f) (kk "count") = some (.int n) := by
  unfold pk
  rw [valV_neg (key_ne n_cn), valV_neg (key_ne n_an), valV_neg (key_ne n_dn), valV_pos rfl]
theorem g_fold : valV (pk c a d n f) (kk "fold") = some (.int f) := by
  unfold pk
  rw [valV_neg (key_ne n_cf), valV_neg (key_ne n_af), valV_neg (key_ne n_df), valV_neg (key_ne n_nf), valV_pos rfl]
theorem put_at : putK (pk c a d n f) (kk "at") (.int y) = pk c y d n f := by
  unfold putK pk
  simp [n_ca, n_ad, n_an, n_af, m_ad, m_an, m_af]
theorem put_digits : putK (pk c a d n f) (kk "digits") (.int y) = pk c a y n f := by
  unfold putK pk
  simp [n_cd, n_ad, n_dn, n_df, m_dn, m_df]
theorem put_count : putK (pk c a d n f) (kk "count") (.int y) = pk c a d y f := by
  unfold putK pk
  simp [n_cn, n_an, n_dn, n_nf, m_nf]
theorem put_fold : putK (pk c a d n f) (kk "fold") (.int y) = pk c a d n y := by
  unfold putK pk
  simp [n_cf, n_af, n_df, n_nf]
end
section
variable {H : Hp} {p c : Addr} {a d n f y : Int} (h : H p = some (.dK (pk c a d n f)))
include h
theorem dg_cells : DGet H p (.str "cells") (some (.ref c)) := by
  have q := DGet.k (k := kk "cells") h
  rw [g_cells] at q
  exact q
theorem dg_at : DGet H p (.str "at") (some (.int a)) := by
  have q := DGet.k (k := kk "at") h
  rw [g_at] at q
  exact q
theorem dg_digits : DGet H p (.str "digits") (some (.int d)) := by
  have q := DGet.k (k := kk "digits") h
  rw [g_digits] at q
  exact q
theorem dg_count : DGet H p (.str "count") (some (.int n)) := by
  have q := DGet.k (k := kk "count") h
  rw [g_count] at q
  exact q
theorem dg_fold : DGet H p (.str "fold") (some (.int f)) := by
  have q := DGet.k (k := kk "fold") h
  rw [g_fold] at q
  exact q
theorem dp_at : DPut H p (.str "at") (.int y) (upd H p (.dK (pk c y d n f))) := by
  have q := DPut.k (k := kk "at") (v := .int y) h (by show 5 < sizeLine; decide)
  rw [put_at] at q
  exact q
theorem dp_digits : DPut H p (.str "digits") (.int y) (upd H p (.dK (pk c a y n f))) := by
  have q := DPut.k (k := kk "digits") (v := .int y) h (by show 5 < sizeLine; decide)
  rw [put_digits] at q
  exact q
theorem dp_count : DPut H p (.str "count") (.int y) (upd H p (.dK (pk c a d y f))) := by
  have q := DPut.k (k := kk "count") (v := .int y) h (by show 5 < sizeLine; decide)
  rw [put_count] at q
  exact q
theorem dp_fold : DPut H p (.str "fold") (.int y) (upd H p (.dK (pk c a d n y))) := by
  have q := DPut.k (k := kk "fold") (v := .int y) h (by show 5 < sizeLine; decide)
  rw [put_fold] at q
  exact q
end
/-- the pen at p, its cells at c, at most m draws so far -/
structure PenAt (H : Hp) (p c : Addr) (ns : List Int) (m : Nat) : Prop where
  dc : ∃ a d n f : Int, H p = some (.dK (pk c a d n f)) ∧ 0 ≤ a ∧ 0 ≤ d ∧ 0 ≤ n ∧ n ≤ m ∧ 0 ≤ f ∧ f < 2147483587
  ls : H c = some (.lst (ns.map V.int))
theorem PenAt.ne {H : Hp} {p c : Addr} {ns : List Int} {m : Nat} (D : PenAt H p c ns m) : c ≠ p := by
  obtain ⟨⟨_, _, _, _, h, _⟩, l⟩ := D
  exact ne_of l h (by intro z; cases z)
/-- kept by whatever leaves p and c alone -/
theorem PenAt.keep {H H' : Hp} {p c : Addr} {ns : List Int} {m : Nat} (D : PenAt H p c ns m) (k : ∀ b o, H b = some o → H' b = some o) : PenAt H' p c ns m := by
  obtain ⟨⟨a, d, n, f, h, r⟩, l⟩ := D
  exact ⟨⟨a, d, n, f, k _ _ h, r⟩, k _ _ l⟩
theorem PenAt.mono {H : Hp} {p c : Addr} {ns : List Int} {m m' : Nat} (D : PenAt H p c ns m) (h : m ≤ m') : PenAt H p c ns m' := by
  obtain ⟨⟨a, d, n, f, e, a0, d0, n0, n1, r⟩, l⟩ := D
  exact ⟨⟨a, d, n, f, e, a0, d0, n0, by omega, r⟩, l⟩
/-- all but p stands -/
def But (p : Addr) (H H' : Hp) : Prop := ∀ b o, H b = some o → b ≠ p → H' b = some o
theorem But.refl {p : Addr} {H : Hp} : But p H H := fun _ _ e _ => e
theorem But.trans {p : Addr} {H H' H'' : Hp} (h : But p H H') (k : But p H' H'') : But p H H'' := fun b o e n => k b o (h b o e n) n
theorem But.upd {p : Addr} {H : Hp} {o : HO} : But p H (upd H p o) := fun b u e n => by rw [upd_ne n]; exact e
/-! ### the promises -/
def spPen (K : PySem.W.Frag) : Sp := fun vs H Q _ => ∃ (a : Addr) (ns : List Int), vs = [.ref a] ∧ SqL K H a (ns.map V.int) ∧ ns.length ≤ 63 ∧
  ∀ (p c : Addr) (H' : Hp), PenAt H' p c ns 0 → Same H H' → H p = none → Q (.ref p) H'
def spDraw : Sp := fun vs H Q _ => ∃ (p c : Addr) (ns : List Int) (m : Nat) (k : Int), vs = [.ref p, .int k] ∧ PenAt H p c ns m ∧ ns.length ≤ 63 ∧ m < 1000000 ∧ 0 < k ∧ k < 1000000 ∧
  ∀ (v : Int) (H' : Hp), 0 ≤ v → v < k → PenAt H' p c ns (m + 1) → But p H H' → Q (.int v) H'
def spPick (K : PySem.W.Frag) : Sp := fun vs H Q _ => ∃ (p c l : Addr) (ns : List Int) (m : Nat) (xs : List V), vs = [.ref p, .ref l] ∧ PenAt H p c ns m ∧ ns.length ≤ 63 ∧ m < 1000000 ∧ H l = some (.lst xs) ∧ xs ≠ [] ∧ xs.length < 1000 ∧
  ∀ (v : V) (H' : Hp), v ∈ xs → PenAt H' p c ns (m + 1) → But p H H' → Q v H'
def spFar (K : PySem.W.Frag) : Sp := fun vs H Q _ => ∃ (p c : Addr) (ns : List Int) (m : Nat), vs = [.ref p] ∧ PenAt H p c ns m ∧ ns.length ≤ 63 ∧ m < 900000 ∧
  ∀ (v : Int) (H' : Hp), v.natAbs < 1000000000000000000 → PenAt H' p c ns (m + 8) → But p H H' → Q (.int v) H'
/-- what the top has: these names stand for their defs, the built-ins for themselves -/
structure PenTxt (K : PySem.W.Frag) (mg : Str → Option Value) (fD fP : Addr) : Prop where
  len : mg "len" = none
  list : mg "list" = none
  int : mg "int" = none
  range : mg "range" = none
  gD : mg "_law_draw" = some (.ref fD)
  kD : PySem.W.keepIn K (.ref fD) = true
  gP : mg "_law_pick" = some (.ref fP)
  kP : PySem.W.keepIn K (.ref fP) = true
section
variable {P : Program} {w : World} {K : PySem.W.Frag} {mg : Str → Option Value} {base : Heap}
theorem scPen : FnScope ["_law_script", "_law_fold", "_law_cell"] ["_law_script"] (defScope sPen) := ⟨rfl, rfl, rfl, by decide +kernel, rfl, by decide +kernel, by decide +kernel⟩
theorem ok_pen {f fD fP : Addr} {fd : FuncData} (F : Fun K "_law_pen" "_law_pen" sPen f fd) (T : PenTxt K mg fD fP) : FnOk P w K mg base CX0 1 f fd ["_law_script"] (spPen K) := by
  refine F.ok scPen (fun vs H Q E h => ?_) (fun cdv A outer s H vs Q E hr h => ?_)
  · obtain ⟨a, ns, rfl, _⟩ := h
    rfl
  · obtain ⟨a, ns, rfl, hS, hlen, k⟩ := h
    have hu := hu_of hr
    refine ⟨_, pss_cons (ps_set (i := 1) scPen.nd rfl (Or.inl rfl) pe_int)
      (pss_cons (ps_for PassesOwn.never rfl (pi_list (pv 0)) (pg_name (i := 2) scPen.nd rfl (Or.inl rfl))
        (pss_one (ps_set (i := 1) scPen.nd rfl (Or.inl rfl) (pe_op op_mod (pe_callTy call_int1 (by rfl) T.int (by decide +kernel) (pa_cons (pe_op op_add (pe_op op_mul (pv 1) pe_int) (pv 2)) pa_nil)) pe_int))))
      (pss_one (ps_ret (pe_disp (pps_cons pe_str (pe_callTy call_list_of (by rfl) T.list (by decide +kernel) (pa_cons (pv 0) pa_nil))
        (pps_cons pe_str pe_int (pps_cons pe_str pe_int (pps_cons pe_str pe_int (pps_cons pe_str (pv 1) pps_nil))))) (by rfl) (by rfl) (fun z => by cases z) (by decide))))), ?_⟩
    refine ⟨_, rfl, a, rfl, ⟨_, hS⟩, for_list (K := K) (a := a) (xs := ns.map V.int) (fun i σ H2 => ∃ (z : Int) (v : Option V), σ = [some (.ref a), some (.int z), v] ∧ H2 = H ∧ 0 ≤ z ∧ z < 1000000007)
      ⟨0, none, rfl, rfl, by decide, by decide⟩ (fun i σ H2 _ ⟨_, _, _, e, _⟩ => by rw [e]; exact hS) ?_ ?_⟩
    · rintro i y σ H2 hi ⟨z, v, rfl, rfl, z0, z1⟩
      obtain ⟨t, rfl⟩ : ∃ t, y = V.int t := by
        rw [List.getElem?_map] at hi
        cases e : ns[i]? with
        | none =>
          rw [e] at hi
          cases hi
        | some t =>
          rw [e] at hi
          exact ⟨t, (Option.some.inj hi).symm⟩
      refine ⟨_, rfl, _, _, rfl, rfl, .inl ⟨by omega, by omega⟩, _, rfl, _, _, rfl, rfl, .inl ⟨_, rfl, _, _, rfl, rfl, (by show (0 : Int) < 1000000007; decide), ?_⟩⟩
      exact ⟨_, _, rfl, rfl, Int.emod_nonneg _ (by decide), Int.emod_lt_of_pos _ (by decide)⟩
    · rintro σ H2 ⟨z, v, rfl, rfl, z0, z1⟩
      intro p hp
      have hpa : ∀ {b : Addr} {o : HO}, H2 b = some o → b ≠ p := fun e => ne_of_none e hp
      have s1 : Same H2 (upd H2 p (.dK [])) := fun b o e => by rw [upd_ne (hpa e)]; exact e
      refine ⟨_, rfl, a, ns.map V.int, rfl, .inl (s1.seq hS), fun l hl => ?_⟩
      have nlp : l ≠ p := fun e => by
        rw [e, upd_same] at hl
        cases hl
      have hl2 : H2 l = none := by
        rw [upd_ne nlp] at hl
        exact hl
      refine ⟨_, rfl, (by rw [upd_ne nlp.symm]; exact upd_same), pk l 0 0 0 z, rfl, (by show 5 ≤ 15; decide), ?_⟩
      have em : mergeK [] (pk l 0 0 0 z) = pk l 0 0 0 z := by
        unfold mergeK pk putK
        simp [n_ca, n_cd, n_cn, n_cf, n_ad, n_an, n_af, n_dn, n_df, n_nf]
      rw [em]
      refine k p l _ ⟨⟨0, 0, 0, z, upd_same, by decide, by decide, by decide, by decide, z0, by omega⟩, by rw [upd_ne nlp]; exact upd_same⟩ (fun b o e => ?_) hp
      rw [upd_ne (hpa e), upd_ne (ne_of_none e hl2), upd_ne (hpa e)]
      exact e
/-- the reading of what stands behind the first if of _law_draw -/
def tInt (t : TE) : TE := tCB (fun xs H Q => (∃ i, xs = [V.int i] ∧ Q (V.int i) H) ∨ ∃ k, xs = [V.bl k] ∧ Q (V.int (if k = true then 1 else 0)) H) (tCons t tNil)
def tKey (x : Str) : TE := tDGet (tVar 0) (tC (V.str x))
def tTail : TS :=
  tSeq (tIfS (tTest (tOp (rI0 fun i j => V.bl (decide (j < i))) (tKey "digits") (tC (V.int 0))))
      (tSeq (tAsg (tOp (rI (fun _ j => j ≠ 0) fun i j => V.int (i.fmod j)) (tInt (tKey "digits")) (tVar 1)) (gName 3))
        (tSeq (sDPut (tVar 0) (tC (V.str "digits")) (tOp (rI CDivN fun i j => V.int (i.fdiv j)) (tKey "digits") (tVar 1))) (tRet (tVar 3)))) tNext)
    (tSeq (tAsg (tOp (rI0 fun i j => V.int (i + j)) (tOp (rI0 fun i j => V.int (i + j)) (tKey "fold") (tOp (rI CMul fun i j => V.int (i * j)) (tKey "count") (tC (V.int 7907)))) (tC (V.int 43))) (gName 4))
      (tRet (tOp (rI (fun _ j => j ≠ 0) fun i j => V.int (i.fmod j)) (tOp (rI CDiv fun i j => V.int (i / j)) (tInt (tOp (rI (fun _ j => 0 < j) fun i j => V.int (i % j)) (tOp (rI CPow fun i j => V.int (i ^ j.toNat)) (tVar 4) (tC (V.int 17)))
        (tC (V.int 2305843009213693951)))) (tC (V.int 128))) (tVar 1))))
theorem tail_ok {H H1 : Hp} {Q : VK} {p c : Addr} {ns : List Int} {m : Nat} {many a d n g : Int} {v2 : Option V} (k0 : 0 < many) (k1 : many < 1000000) (hm : m < 1000000)
    (hp : H1 p = some (.dK (pk c a d n g))) (a0 : 0 ≤ a) (d0 : 0 ≤ d) (n0 : 0 ≤ n) (n1 : n ≤ (m : Int) + 1) (g0 : 0 ≤ g) (g1 : g < 2147483587) (ncp : c ≠ p) (hc : H1 c = some (.lst (ns.map V.int))) (kb : But p H H1)
    (k : ∀ (v : Int) (H' : Hp), 0 ≤ v → v < many → PenAt H' p c ns (m + 1) → But p H H' → Q (V.int v) H') :
    tTail { nx := fun _ H' => Q .non H', rt := Q } [some (.ref p), some (.int many), v2, none, none] H1 := by
  have n1' : n ≤ ((m + 1 : Nat) : Int) := by omega
  refine ⟨_, rfl, p, _, rfl, dg_digits hp, _, _, rfl, rfl, _, rfl, ?_⟩
  refine ite2 (fun e => ?_) (fun e => ?_)
  · refine ⟨_, rfl, p, _, rfl, dg_digits hp, .inl ⟨_, rfl, _, rfl, _, _, rfl, rfl, (by show many ≠ 0; omega), ?_⟩⟩
    refine ⟨_, rfl, p, _, rfl, dg_digits hp, _, rfl, _, _, rfl, rfl, ⟨(by show many ≠ 0; omega), (by show many.natAbs < 1073741824; omega)⟩, _, rfl, p, _, rfl, dp_digits hp, ?_⟩
    refine ⟨_, rfl, ?_⟩
    refine k (d.fmod many) _ (Int.fmod_nonneg_of_pos _ k0) (Int.fmod_lt_of_pos _ k0) ⟨⟨_, _, _, _, upd_same, a0, Int.fdiv_nonneg d0 (by omega), n0, n1', g0, g1⟩, by rw [upd_ne ncp]; exact hc⟩ (kb.trans But.upd)
  · refine ⟨_, rfl, p, _, rfl, dg_fold hp, _, rfl, p, _, rfl, dg_count hp, _, _, rfl, rfl, .inl ⟨by omega, by omega⟩, _, _, rfl, rfl, _, _, rfl, rfl, ?_⟩
    refine ⟨_, rfl, _, _, rfl, rfl, ⟨by decide, by decide, ?_⟩, _, _, rfl, rfl, (by show (0 : Int) < 2305843009213693951; decide), .inl ⟨_, rfl, _, _, rfl, rfl, ⟨by decide, by decide⟩, _, rfl, _, _, rfl, rfl, (by show many ≠ 0; omega), ?_⟩⟩
    · show (g + n * 7907 + 43).natAbs < 2 ^ 64
      omega
    · exact k _ _ (Int.fmod_nonneg_of_pos _ k0) (Int.fmod_lt_of_pos _ k0) ⟨⟨_, _, _, _, hp, a0, d0, n0, n1', g0, g1⟩, hc⟩ kb
theorem scDraw : FnScope ["_law_pen_here", "_law_many", "_law_cell", "_law_digit", "_law_blend"] ["_law_pen_here", "_law_many"] (defScope sDraw) := ⟨rfl, rfl, rfl, by decide +kernel, rfl, by decide +kernel, by decide +kernel⟩
theorem ok_draw {f fD fP : Addr} {fd : FuncData} (F : Fun K "_law_draw" "_law_draw" sDraw f fd) (T : PenTxt K mg fD fP) : FnOk P w K mg base CX0 1 f fd ["_law_pen_here", "_law_many"] spDraw := by
  refine F.ok scDraw (fun vs H Q E h => ?_) (fun cdv A outer s H vs Q E hr h => ?_)
  · obtain ⟨p, c, ns, m, k, rfl, _⟩ := h
    rfl
  · obtain ⟨p, c, ns, m, many, rfl, D, hlen, hm, k0, k1, k⟩ := h
    have hu := hu_of hr
    obtain ⟨⟨a, d, n, g, hp, a0, d0, n0, n1, g0, g1⟩, hc⟩ := id D
    have ncp := D.ne
    refine ⟨_, pss_cons (ps_dput hu (pv 0) pe_str (pe_op op_add (pe_dget hu (pv 0) pe_str (fun _ _ => rfl)) pe_int) rfl)
      (pss_cons (ps_if (PW.pt (pw_and (pt_cmpR op_eq (pe_dget hu (pv 0) pe_str (fun _ _ => rfl)) pe_int (nomark _)) (pw_and1 (pt_cmpR op_lt (pe_dget hu (pv 0) pe_str (fun _ _ => rfl)) (pe_callB call_len (by rfl) T.len PySem.boot_len (pa_cons (pe_dget hu (pv 0) pe_str (fun _ _ => rfl)) pa_nil)) (nomark _)))))
        (pss_cons (ps_set (i := 2) scDraw.nd rfl (Or.inl rfl) (pe_ix ix_list (pe_dget hu (pv 0) pe_str (fun _ _ => rfl)) (pe_dget hu (pv 0) pe_str (fun _ _ => rfl)) (fun _ _ => rfl)))
        (pss_cons (ps_dput hu (pv 0) pe_str (pe_op op_add (pe_dget hu (pv 0) pe_str (fun _ _ => rfl)) pe_int) rfl)
        (pss_one (ps_if (pt_cmpR op_ge (pv 2) (pe_op op_pow pe_int pe_int) (nomark _))
          (pss_one (ps_dput hu (pv 0) pe_str (pe_op op_sub (pv 2) (pe_op op_pow pe_int pe_int)) rfl))
          (pss_one (ps_dput hu (pv 0) pe_str (pe_op op_mod (pe_callTy call_int1 (by rfl) T.int (by decide +kernel) (pa_cons (pe_op op_add (pe_op op_mul (pe_dget hu (pv 0) pe_str (fun _ _ => rfl)) pe_int) (pv 2)) pa_nil)) pe_int) rfl)))))) pss_nil)
      (pss_cons (ps_if (pt_cmpR op_gt (pe_dget hu (pv 0) pe_str (fun _ _ => rfl)) pe_int (nomark _))
        (pss_cons (ps_set (i := 3) scDraw.nd rfl (Or.inl rfl) (pe_op op_modN (pe_callTy call_int1 (by rfl) T.int (by decide +kernel) (pa_cons (pe_dget hu (pv 0) pe_str (fun _ _ => rfl)) pa_nil)) (pv 1)))
        (pss_cons (ps_dput hu (pv 0) pe_str (pe_op op_fdivN (pe_dget hu (pv 0) pe_str (fun _ _ => rfl)) (pv 1)) rfl)
        (pss_one (ps_ret (pv 3))))) pss_nil)
      (pss_cons (ps_set (i := 4) scDraw.nd rfl (Or.inl rfl) (pe_op op_add (pe_op op_add (pe_dget hu (pv 0) pe_str (fun _ _ => rfl)) (pe_op op_mul (pe_dget hu (pv 0) pe_str (fun _ _ => rfl)) pe_int)) pe_int))
      (pss_one (ps_ret (pe_op op_modN (pe_op op_fdiv (pe_callTy call_int1 (by rfl) T.int (by decide +kernel) (pa_cons (pe_op op_mod (pe_op op_pow (pv 4) pe_int) pe_int) pa_nil)) pe_int) (pv 1))))))), ?_⟩
    -- count
    refine ⟨_, rfl, p, _, rfl, dg_count hp, _, _, rfl, rfl, _, rfl, p, _, rfl, dp_count hp, ?_⟩
    have hp1 : (upd H p (.dK (pk c a d (n + 1) g))) p = some (.dK (pk c a d (n + 1) g)) := upd_same
    have hc1 : (upd H p (.dK (pk c a d (n + 1) g))) c = some (.lst (ns.map V.int)) := by rw [upd_ne ncp]; exact hc
    -- digits == 0 and at < len(cells)
    refine ⟨_, rfl, p, _, rfl, dg_digits hp1, rfl, _, rfl, ?_⟩
    refine ite2 (fun e1 => ?_) (fun e1 => ?_)
    · refine ⟨_, rfl, p, _, rfl, dg_at hp1, _, rfl, p, _, rfl, dg_cells hp1, _, _, rfl, .inl ⟨_, SqL.of hc1, rfl⟩, _, _, rfl, rfl, _, rfl, ?_⟩
      refine ite2 (fun e2 => ?_) (fun e2 => ?_)
      · have e2' : a < ((ns.map V.int).length : Int) := of_decide_eq_true e2
        rw [List.length_map] at e2'
        obtain ⟨j, ej⟩ : ∃ j : Nat, a = (j : Int) := ⟨a.toNat, by omega⟩
        have hj : j < ns.length := by omega
        obtain ⟨z, hz⟩ : ∃ z, ns[j]? = some z := ⟨ns[j], List.getElem?_eq_getElem hj⟩
        refine ⟨_, rfl, p, _, rfl, dg_cells hp1, _, rfl, p, _, rfl, dg_at hp1, c, _, _, _, rfl, rfl, SqL.of hc1, at_of (j := j) (v := V.int z) ej (by rw [List.getElem?_map, hz]; all_goals rfl), ?_⟩
        refine ⟨_, rfl, p, _, rfl, dg_at hp1, _, _, rfl, rfl, _, rfl, p, _, rfl, dp_at hp1, ?_⟩
        have hp2 : upd (upd H p (.dK (pk c a d (n + 1) g))) p (.dK (pk c (a + 1) d (n + 1) g)) p = some (.dK (pk c (a + 1) d (n + 1) g)) := upd_same
        refine ⟨_, rfl, _, _, rfl, rfl, ⟨by decide, by decide, by decide⟩, _, _, rfl, rfl, _, rfl, ?_⟩
        refine ite2 (fun e3 => ?_) (fun e3 => ?_)
        · have e3' : (10 : Int) ^ (18 : Int).toNat ≤ z := of_decide_eq_true e3
          refine ⟨_, rfl, _, _, rfl, rfl, ⟨by decide, by decide, by decide⟩, _, _, rfl, rfl, _, rfl, p, _, rfl, dp_digits hp2, ?_⟩
          exact tail_ok k0 k1 hm upd_same (by omega) (Int.sub_nonneg_of_le e3') (by omega) (by omega) g0 g1 ncp (by rw [upd_ne ncp, upd_ne ncp]; exact hc1) ((But.upd.trans But.upd).trans But.upd) k
        · refine ⟨_, rfl, p, _, rfl, dg_fold hp2, _, _, rfl, rfl, .inl ⟨by omega, by omega⟩, _, rfl, _, _, rfl, rfl, .inl ⟨_, rfl, _, _, rfl, rfl, (by show (0 : Int) < 2147483587; decide), _, rfl, p, _, rfl, dp_fold hp2, ?_⟩⟩
          exact tail_ok k0 k1 hm upd_same (by omega) d0 (by omega) (by omega) (Int.emod_nonneg _ (by decide)) (Int.emod_lt_of_pos _ (by decide)) ncp (by rw [upd_ne ncp, upd_ne ncp]; exact hc1) ((But.upd.trans But.upd).trans But.upd) k
      · exact tail_ok k0 k1 hm hp1 a0 d0 (by omega) (by omega) g0 g1 ncp hc1 But.upd k
    · refine iteF ?_
      exact tail_ok k0 k1 hm hp1 a0 d0 (by omega) (by omega) g0 g1 ncp hc1 But.upd k
theorem scPick : FnScope ["_law_pen_here", "_law_some"] ["_law_pen_here", "_law_some"] (defScope sPick) := ⟨rfl, rfl, rfl, by decide +kernel, rfl, by decide +kernel, by decide +kernel⟩
theorem ok_pick {f fD fP : Addr} {fd fdD : FuncData} (F : Fun K "_law_pick" "_law_pick" sPick f fd) (T : PenTxt K mg fD fP) (FD : Fun K "_law_draw" "_law_draw" sDraw fD fdD) (bD : Binds K fdD ["_law_pen_here", "_law_many"] []) :
    FnOk P w K mg base CX0 2 f fd ["_law_pen_here", "_law_some"] (spPick K) := by
  have GD : FnOk P w K mg base CX0 1 fD fdD ["_law_pen_here", "_law_many"] spDraw := ok_draw FD T
  refine F.ok scPick (fun vs H Q E h => ?_) (fun cdv A outer s H vs Q E hr h => ?_)
  · obtain ⟨p, c, l, ns, m, xs, rfl, _⟩ := h
    rfl
  · obtain ⟨p, c, l, ns, m, xs, rfl, D, hlen, hm, hl, xne, hx, k⟩ := h
    refine ⟨_, pss_one (ps_ret (pe_ix ix_list (pv 1) (pe_call GD hr rfl T.gD T.kD bD .nil pass0 (pa_cons (pv 0) (pa_cons (pe_callB call_len (by rfl) T.len PySem.boot_len (pa_cons (pv 1) pa_nil)) pa_nil))) (fun _ _ => rfl))), ?_⟩
    have hpos : 0 < xs.length := List.length_pos_iff.mpr xne
    have nlp : l ≠ p := by
      obtain ⟨⟨_, _, _, _, h1, _⟩, _⟩ := D
      exact ne_of hl h1 (by intro z; cases z)
    refine ⟨_, rfl, _, rfl, _, rfl, _, _, rfl, .inl ⟨_, SqL.of hl, rfl⟩, p, c, ns, m, _, rfl, D, hlen, hm, by omega, by omega, fun v H' v0 v1 D' kb => ?_⟩
    obtain ⟨j, ej⟩ : ∃ j : Nat, v = (j : Int) := ⟨v.toNat, by omega⟩
    have hj : j < xs.length := by omega
    refine ⟨l, _, _, _, rfl, rfl, SqL.of (kb l _ hl nlp), at_of (j := j) (v := xs[j]) ej (List.getElem?_eq_getElem hj), ?_⟩
    exact k _ _ (List.getElem_mem hj) D' kb
theorem scFar : FnScope ["_law_pen_here", "_law_found", "_law_k"] ["_law_pen_here"] (defScope sFar) := ⟨rfl, rfl, rfl, by decide +kernel, rfl, by decide +kernel, by decide +kernel⟩
theorem ok_far {f fD fP : Addr} {fd fdD fdP : FuncData} (F : Fun K "_law_far" "_law_far" sFar f fd) (T : PenTxt K mg fD fP) (FD : Fun K "_law_draw" "_law_draw" sDraw fD fdD) (bD : Binds K fdD ["_law_pen_here", "_law_many"] [])
    (FP : Fun K "_law_pick" "_law_pick" sPick fP fdP) (bP : Binds K fdP ["_law_pen_here", "_law_some"] []) : FnOk P w K mg base CX0 3 f fd ["_law_pen_here"] (spFar K) := by
  have GD : FnOk P w K mg base CX0 1 fD fdD ["_law_pen_here", "_law_many"] spDraw := ok_draw FD T
  have GP : FnOk P w K mg base CX0 2 fP fdP ["_law_pen_here", "_law_some"] (spPick K) := ok_pick FP T FD bD
  refine F.ok scFar (fun vs H Q E h => ?_) (fun cdv A outer s H vs Q E hr h => ?_)
  · obtain ⟨p, c, ns, m, rfl, _⟩ := h
    rfl
  · obtain ⟨p, c, ns, m, rfl, D, hlen, hm, k⟩ := h
    have hr1 : Room 1 _ := hr.mono (by decide)
    refine ⟨_, pss_cons (ps_set (i := 1) scFar.nd rfl (Or.inl rfl) pe_int)
      (pss_cons (ps_for PassesOwn.never rfl (pi_range1 rfl T.range (pa_cons (pe_call GP hr rfl T.gP T.kP bP .nil pass0 (pa_cons (pv 0) (pa_cons (pe_lst (pa_cons pe_int (pa_cons pe_int (pa_cons pe_int (pa_cons pe_int (pa_cons pe_int pa_nil)))))) pa_nil))) pa_nil)) (pg_name (i := 2) scFar.nd rfl (Or.inl rfl))
        (pss_one (ps_set (i := 1) scFar.nd rfl (Or.inl rfl) (pe_op op_add (pe_op op_mul (pv 1) pe_int) (pe_call GD hr1 rfl T.gD T.kD bD .nil pass0 (pa_cons (pv 0) (pa_cons pe_int pa_nil)))))))
      (pss_one (ps_ret (pe_ifExp (pt_cmpR op_gt (pe_call GD hr1 rfl T.gD T.kD bD .nil pass0 (pa_cons (pv 0) (pa_cons pe_int pa_nil))) pe_int (nomark _)) (pv 1) (pe_un un_neg (pv 1)))))), ?_⟩
    refine ⟨_, rfl, (by show 5 ≤ sizeLine; decide), fun l hl => ?_⟩
    have D0 : PenAt (upd H l (.lst [V.int 0, V.int 1, V.int 1, V.int 2, V.int 6])) p c ns m := D.keep fun b o e => by rw [upd_ne (ne_of_none e hl)]; exact e
    refine ⟨p, c, l, ns, m, _, rfl, D0, hlen, by omega, upd_same, (by simp), (by show 5 < 1000; decide), fun v H1 hv D1 kb => ?_⟩
    have kb1 : But p H H1 := fun b o e n => kb b o (by rw [upd_ne (ne_of_none e hl)]; exact e) n
    obtain ⟨j, rfl, hj⟩ : ∃ j : Nat, v = V.int (j : Int) ∧ j ≤ 6 := by
      simp at hv
      rcases hv with rfl | rfl | rfl | rfl
      · exact ⟨0, rfl, by decide⟩
      · exact ⟨1, rfl, by decide⟩
      · exact ⟨2, rfl, by decide⟩
      · exact ⟨6, rfl, by decide⟩
    refine ⟨_, rfl, by omega, by omega, for_range (lo := 0) (n := j) (fun i σ H2 => ∃ (z : Nat) (v : Option V), σ = [some (.ref p), some (.int z), v] ∧ z < 1000 ^ i ∧ PenAt H2 p c ns (m + 1 + i) ∧ But p H H2)
      ⟨0, none, rfl, by decide, D1, kb1⟩ ?_ ?_⟩
    · rintro i σ H2 hi ⟨z, v, rfl, hz, D2, kb2⟩
      refine ⟨_, rfl, _, _, rfl, rfl, .inr ⟨by decide, by decide⟩, _, rfl, p, c, ns, _, _, rfl, D2, hlen, by omega, by decide, by decide, fun v H3 v0 v1 D3 kb3 => ?_⟩
      obtain ⟨t, et⟩ : ∃ t : Nat, v = (t : Int) := ⟨v.toNat, by omega⟩
      subst et
      refine ⟨_, _, rfl, rfl, z * 1000 + t, _, by simp; all_goals rfl, ?_, D3, kb2.trans kb3⟩
      rw [Nat.pow_succ]
      omega
    · rintro σ H2 ⟨z, v, rfl, hz, D2, kb2⟩
      have hz' : z < 1000000000000000000 := Nat.lt_of_lt_of_le hz (Nat.le_trans (Nat.pow_le_pow_right (by decide) hj) (by decide))
      refine ⟨_, rfl, p, c, ns, _, _, rfl, D2, hlen, by omega, by decide, by decide, fun v H3 v0 v1 D3 kb3 => ?_⟩
      have D4 : PenAt H3 p c ns (m + 8) := D3.mono (by omega)
      refine ⟨_, _, rfl, rfl, _, rfl, ?_⟩
      refine ite2 (fun _ => ?_) (fun _ => ?_)
      · exact ⟨_, rfl, k _ _ (by omega) D4 (kb2.trans kb3)⟩
      · exact ⟨_, rfl, _, rfl, k _ _ (by omega) D4 (kb2.trans kb3)⟩
end
end K00

set_option maxRecDepth 100000
set_option maxHeartbeats 4000000
/-! Errors of the program's own as values: made, their fields read, isinstance asked. -/
namespace PySem.W
open PySem PySem.Spec PySem.Calls PyProof.Rows
section
variable {prog : Program} {w : World} {A : Around} {E : Value → Shared → Prop} {s : Shared} {K : Frag} {x D : Addr} {ox : Obj} {od : Option Obj}
theorem k00_found {C : Addr} {n : Str} {a g : Value} (q : (clsIn K C).isSome = true) (h1 : findIn K (.ref C) n = some (some a)) (h2 : specialIn K a "__get__" = some (some g)) (h3 : takesIn K a = some true) :
    findObj K C od n = some (.bind g a) := by
  obtain ⟨cd, e⟩ := Option.isSome_iff_exists.mp q
  unfold findObj
  simp [e, h1, h2, h3]
/-- e.__class__, e an error with or without a dict -/
theorem k00_class {Q : Option Value → Shared → Prop} (T : L2.ExcC K D) (X : K.In s.heap) (I : InstAt s.heap x ox D od) (h : Q (some (.ref D)) { s with toks := s.toks + 1 }) :
    wpAny (model prog w) A (getAttr? (.ref x) "__class__") Q E s := by
  have hf : findObj K D od "__class__" = some (.bind (.builtin "getset_descriptor.__get__") (.builtin "object.__class__")) :=
    k00_found (by obtain ⟨cd, e, _⟩ := any_some T.hd; rw [e]; rfl) T.ha T.hn T.ht
  obtain ⟨hp, gs, dr, tk, os⟩ := s
  have J0 := I.type (M := model prog w)
  have J1 := looks_findIn (M := model prog w) X T.hg
  have J2 := looks_findIn (M := model prog w) X T.hk
  have J3 := looks_find (M := model prog w) X I hf
  have isx : Looks (model prog w) hp (isInstance (.ref x) (.type "BaseException")) true :=
    J0.andThen (looks_subIn X T.hs)
  have c0 : (Value.builtin "BaseException.__getattribute__" == Value.builtin "object.__getattribute__") = false := by
    decide +kernel
  have c1 : (false && onTheHeap (Value.builtin "BaseException.__getattribute__")) = false :=
    rfl
  have c2 : (onTheHeap (Value.ref D) && Value.builtin "BaseException.__getattribute__" == Value.builtin "object.__getattribute__") = false := by
    rw [c0] <;> rfl
  unfold getAttr? getAttrBy? getAttrBy
  refine wpAny_bind (wpAny_mkText (wpAny_bind (wpAny_attempt (wpAny_holding (wpAny_bind (J0.at (wpAny_bind (J1.at ?_))))))))
  show wpAny _ _ (if (onTheHeap (Value.ref D) && Value.builtin "BaseException.__getattribute__" == Value.builtin "object.__getattribute__") = true
    then _ else _) _ _ _
  rw [c2, if_neg Bool.false_ne_true]
  unfold getAttrByItsOwn hookBefore
  refine wpAny_bind ?_
  rw [if_pos (show onTheHeap (Value.ref D) = true from
    rfl)]
  refine J2.at (wpAny_bind (wpAny_attempt (wpAny_holding ?_)))
  unfold callGetattribute
  rw [c1, if_neg Bool.false_ne_true]
  unfold boundAndCalled
  rw [PySem.F.excAttr_ValueError.ga.bind
    (.ref x)]
  refine wpAny_bind (wpAny_pure ?_)
  show wpAny _ _ (call (.builtin "BaseException.__getattribute__") [.ref x,
    .str "__class__" tk]) _ _ _
  refine wpAny_call (codeAny_call_builtin PySem.F.excAttr_ValueError.ga.plain
    PySem.F.entry_bexc_ga ?_)
  refine @check_slot (model prog w) _ _ ⟨hp, gs, dr, tk + 1, os⟩ "BaseException.__getattribute__" "BaseException" "__getattribute__"
    (.ref x) [.str "__class__" tk] [] _ (by decide +kernel) (by decide +kernel) isx (PySem.F.args_bexc_ga (.ref x) (.str "__class__" tk)) ?_
  unfold Builtin.«object.__getattribute__»
  refine wpAny_bind (wpAny_of_eq (a := ((Value.ref x : Value), [Value.str "__class__" tk])) (by
    first
      | rfl
      | (simp only [slotArgs]; rfl)) ?_)
  refine wpAny_bind (wpAny_pure (wpAny_bind (J0.at
    (wpAny_bind (J3.at ?_)))))
  show wpAny _ _ (holding [Value.builtin "object.__class__"] (call (.builtin "getset_descriptor.__get__")
    [.builtin "object.__class__", .ref x, .ref D]) >>= ret) _ _ _
  refine wpAny_bind (wpAny_holding (wpAny_call (class_get (s := ⟨hp, gs, dr, tk + 1, os⟩) (ox := ox) (od := od) X I T.hm ?_)))
  refine wpAny_pure ?_
  show wpAny _ _ (handedOut (.ref D))
    _ _ _
  rw [handedOut_of (v := .ref D)
    rfl]
  first
    | exact wpAny_pure (wpAny_pure h)
    | exact wpAny_pure h
/-- what isinstance asks of an error -/
theorem k00_kit (T : L2.ExcC K D) : KitX K (.ref x) (.ref D) (fun h => InstAt h x ox D od) where
  ty _ _ _ I := I.type
  it _ _ X _ := by
    obtain ⟨cd, e, _⟩ := any_some T.hd
    unfold clsIn at e
    split at e
    · rename_i u1 u2 u3 u4 ho
      intro A1 Q1 E1 s1 k q
      unfold isType loadHead
      exact wpAny_bind (wpAny_loadPart (k _ _ (X _ _ ho))
        (wpAny_pure q))
    · cases e
  ne h tp dd its n sl X ht := by
    obtain ⟨cd, e, _⟩ := any_some T.hd
    refine Bool.eq_false_iff.mpr fun q => ?_
    cases Value.ref.inj (beq_iff_eq.mp q)
    unfold clsIn at e
    split at e
    · rename_i u1 u2 u3 u4 ho
      cases (X _ _ ho).symm.trans ht
    · cases e
  ca X I k := k00_class T X I k
end
end PySem.W
namespace L2
open PySem PySem.Spec PyProof.Rows
/-- an error stands at e: of the class at C, its dict at d (none: no field was stored) -/
def HasErr (H : Hp) (e C : Addr) (d : Option Addr) (fs : List (Str × V)) : Prop :=
  H e = some (exo e C d) ∧ ∀ a, d = some a → H a = some (exd a fs)
theorem HasErr.keep {H H' : Hp} {e C : Addr} {d : Option Addr} {fs : List (Str × V)} (h : HasErr H e C d fs) (k : ∀ b o, H b = some o → H' b = some o) : HasErr H' e C d fs :=
  ⟨k _ _ h.1, fun a q => k _ _ (h.2 a q)⟩
theorem HasErr.inst {P : Program} {w : World} {H : Hp} {h : Heap} {e C : Addr} {d : Option Addr} {fs : List (Str × V)} (ok : HOk P w H h) (x : HasErr H e C d fs) :
    ∃ ox od, PySem.W.InstAt h e ox C od ∧ (d ≠ none → ∃ (o : Obj) (m : Str → Option Value), od = some o ∧ (∀ f, PySem.W.lookIn f o = some (m f)) ∧ ∀ f, RelO (fs.lookup f) (m f)) := by
  obtain ⟨h1, h2⟩ := x
  obtain ⟨t, ht⟩ := exo_at ok h1
  cases d with
  | none => exact ⟨_, none, ⟨ht, rfl, rfl, trivial⟩, fun z => absurd rfl z⟩
  | some a =>
    obtain ⟨mA, hn, r⟩ := exd_at ok (h2 a rfl)
    obtain ⟨od, ho, hl⟩ := lookIn_ns hn
    exact ⟨_, some od, ⟨ht, rfl, rfl, ho⟩, fun _ => ⟨od, mA, rfl, hl, r⟩⟩
/-- isinstance(e, c), e an error of the program's own -/
def rIsErr (K : PySem.W.Frag) : List V → Hp → VK → Prop := fun xs H Q =>
  ∃ (e C : Addr) (d : Option Addr) (fs : List (Str × V)) (c : V) (u : Value) (b : Bool), xs = [.ref e, c] ∧ ClsV c u ∧ ExcC K C ∧ HasErr H e C d fs ∧ PySem.W.kitOne K (.ref C) u = some b ∧ Q (.bl b) H
theorem call_isErr {X : Cx} : CallR X (.builtin "isinstance") (rIsErr X.K) := by
  intro pins s σ H xs us Q I r q
  obtain ⟨e, C, d, fs, c, u, b, rfl, kc, T, he, kb, q⟩ := q
  obtain ⟨v1, v2, rfl, r1, r2⟩ := vals2 r
  cases kc.eq r2
  cases (show v1 = Value.ref e from r1)
  obtain ⟨ox, od, J, _⟩ := he.inst I.hok
  exact PySem.W.kia_one (PySem.W.k00_kit (ox := ox) (od := od) T) I.kIn J kb (fun z => nomatch z) fun tk => ⟨.bl b, H, I.tok tk, rfl, q⟩
/-- e.f, e an error of the program's own -/
def tErrF (K : PySem.W.Frag) (f : Str) (te : TE) : TE := fun σ H Q => te σ H fun x H1 =>
  ∃ (e C a : Addr) (fs : List (Str × V)) (v : V), x = .ref e ∧ XfC K C ∧ PySem.W.findIn K (.ref C) f = some none ∧ HasErr H1 e C (some a) fs ∧ fs.lookup f = some v ∧ Q v H1
theorem pe_errF {X : Cx} {e : Expr} {te : TE} {pos : Pos} {n : Str} (he : PE X e te) (hb : attributeBase e n X.env (eval e X.env) = eval e X.env := by rfl) : PE X (.Attribute e n pos) (tErrF X.K n te) := by
  refine ⟨fun pins s σ H Q I h => attr_of hb (thn (he.run pins s σ H _ I h) fun u s1 hh => ?_)⟩
  obtain ⟨x, H1, I1, rx, y, C, a, fs, v, rfl, T, hno, hE, l, q⟩ := hh
  cases (show u = Value.ref y from rx)
  obtain ⟨ox, od, J, hl⟩ := hE.inst I1.hok
  obtain ⟨o, m, rfl, hf, r⟩ := hl (fun z => nomatch z)
  obtain ⟨w, hw, rw'⟩ := RelO.some_of (v := v) (o := m n) (by rw [← l]; exact r n)
  exact HandSPX.exc_get I1.kIn J T.ga T.gg T.exC (PySem.W.findObj_own T.hdC hno rfl (by rw [hf, hw])) (handed_of rw') ⟨v, H1, I1.tok _, rw', q⟩
/-- C(e, ..), C's own __init__ keeping sp: an error as a value -/
def tErr (C : Addr) (sp : Sp) (ta : TA) : TE := fun σ H Q => ta σ H fun vs H1 => vs.length ≤ 1000 ∧ ∀ a, H1 a = none →
  sp (.ref a :: vs) (upd H1 a (exo a C none)) (fun v H2 => v = .non ∧ Q (.ref a) H2) fun _ _ _ => False
theorem pe_err {X : Cx} {x : Str} {C fI : Addr} {k : Nat} {fd : FuncData} {ps : List Str} {sp : Sp} {e : Expr} {es : List Expr} {ta : TA} {p pos : Pos} (T : OexC X.K C) (iC : PySem.W.findIn X.K (.ref C) "__init__" = some (some (.ref fI)))
    (tI : PySem.W.typeIn X.K (.ref fI) = some (.type "function")) (G : FnOk X.prog X.w X.K X.mg X.base CX0 k fI fd ps sp) (hr : Room (k + 1) X.A) (hb : Binds X.K fd ps []) (hg : Gl X x) (hm : X.mg x = some (.ref C)) (ha : PA X (e :: es) ta)
    (hdb : (x == ("__debug__" : Str)) = false := by decide) (he : starEach (e :: es) X.env = (false, eval e X.env) :: starEach es X.env := by rfl) (hpl : (backTo pos (starEach es X.env)).any (·.1) = false := by rfl) :
    PE X (.Call (.Name x p) (e :: es) [] pos) (tErr C sp ta) := by
  refine ⟨fun pins s σ H Q I h => wpAny_Call_Name_kw (ld_glob I hg hm ?_ hdb)⟩
  obtain ⟨nm, q, N, bs, bm, sn, sub, ab, col, dd, k0, k1, k2, k3, k5, hC, hbm⟩ :=
    T.cls
  refine PySem.W.callWith_K (h₀ := X.base) I.ok.mod.kin T.kC (thn (ha.run pos pins s σ H _ I h) fun us s1 hh => ?_) he hpl
  obtain ⟨vs, H1, I1, r1, hz, q1⟩ := hh
  refine ⟨I1.kIn, ?_⟩
  show wpAny _ _ (call (.ref C) us) _
    _ _
  obtain ⟨hp, gs, dr, tk, os⟩ := s1
  have n1 : H1 (hp.objs.size + 1) = none := I1.hok.fresh (Nat.le_succ _)
  have q2 := q1 _ n1
  have I2 : Inv X pins σ (upd H1 (hp.objs.size + 1) (exo (hp.objs.size + 1) C none)) ⟨(hp.push (PySem.W.kdv_tup us)).push (PySem.HandSPX.excO C hp.objs.size), gs, dr, tk, os⟩ :=
    I1.laid (t' := tk) (fun b o z => Heap.get?_push_of_some _ (Heap.get?_push_of_some _ z)) (Nat.le_succ _) (exo_ok (t1 := hp.objs.size) (by
      show ((hp.push (PySem.W.kdv_tup us)).push (PySem.HandSPX.excO C hp.objs.size)).get? (hp.objs.size + 1) = some (PySem.HandSPX.excO C hp.objs.size)
      heap_get))
  have r2 : Vals (V.ref (hp.objs.size + 1) :: vs) (Value.ref (hp.objs.size + 1) :: us) := .cons rfl r1
  have hl : (Value.ref (hp.objs.size + 1) :: us ++ []).length = ps.length := by
    rw [List.append_nil, ← r2.length]
    exact G.len _ _ _ _ q2
  have hus : us.length ≤ sizeLine := by
    rw [← Paired.length r1, sizeLine_eq] <;> omega
  have run := G.run _ X.stack _ _ ⟨Value.ref (hp.objs.size + 1) :: us, []⟩ (Value.ref (hp.objs.size + 1) :: us) _ _ (fun _ _ _ => False) (hr.make C us []) (I2.env0.make C us []) (by
    have z := hb ⟨(hp.push (PySem.W.kdv_tup us)).push (PySem.HandSPX.excO C hp.objs.size), gs, dr, tk, os⟩ (Value.ref (hp.objs.size + 1) :: us) I2.kIn hl
    simpa using z) r2 q2
  refine wpAny_call (PySem.HandSPX.call_own F.excBase_ValueError (fun Y => PySem.HandSPX.refsVE_contains Y bm hbm) (I1.kIn _ _ hC) (PySem.W.looks_findIn I1.kIn iC) (fun self => PySem.W.bind_fn I1.kIn self tI) hus (codeAny_mono run fun r s' hq => ?_))
  cases r with
  | error er => exact hq.elim
  | ok fl =>
    cases fl with
    | next => exact hq.elim
    | brk => exact hq.elim
    | cont => exact hq.elim
    | ret u =>
      obtain ⟨v, H2, I3, rv, ev, q3⟩ := Inv.after (Q := fun v H2 => v = .non ∧ Q (.ref (hp.objs.size + 1)) H2) I2 hq
      subst ev
      exact ⟨rv, V.ref (hp.objs.size + 1), H2, I3, rfl, q3⟩
/-- C(), C without an __init__ of its own -/
theorem pe_err0 {X : Cx} {C : Addr} {bmB : List Value} {B newId initId : String} {x : Str} {p pos : Pos} (F : ExcBaseFacts B newId initId bmB) (q : PySem.W.excIn X.K C bmB newId = true) (gC : X.mg x = some (.ref C)) (kC : PySem.W.keepIn X.K (.ref C) = true)
    (hg : Gl X x) (hdb : (x == ("__debug__" : Str)) = false := by decide) :
    PE X (.Call (.Name x p) [] [] pos) (fun _ H Q => ∀ a, H a = none → Q (.ref a) (upd H a (exo a C none))) := by
  refine ⟨fun pins s σ H Q I h => wpAny_Call_Name_kw (ld_glob I hg gC ?_ hdb)⟩
  refine PySem.W.callWith_K0 I.kIn kC ?_
  show wpAny _ _ (call (.ref C) []) _ _ s
  obtain ⟨hp, gs, dr, tk, os⟩ := s
  obtain ⟨bm, N, nm, qn, bs, hdct, sn, sub, ab, col, dd, k0, k1, k2, k3, k5, mN, hC, hN, hni, T⟩ :=
    exc_obj I.kIn q
  refine wpAny_call_exc_subT F T hC hN hni (fun h' a hm => ?_) (by show 0 ≤ sizeLine; omega)
  obtain ⟨t, ht, _, _⟩ := hm.there
  have n : H a = none := I.hok.gone hm.new
  exact ⟨.ref a, _, I.laidN hm.keeps hm.new n (exo_ok ht), rfl, h a n⟩
end L2

set_option maxRecDepth 100000
set_option maxHeartbeats 4000000
/-! repr of a list of up to two small things. -/
namespace L2
open PySem PySem.Spec PyProof.Rows
/-- what the law draws, and its data -/
inductive Gv (H : Hp) : V → PyData → Prop
  | non : Gv H .non .none
  | bl (b : Bool) : Gv H (.bl b) (.bool b)
  | int (i : Int) (h : i.natAbs < 1000000000000000000) : Gv H (.int i) (.int i)
  | str (x : Str) (h : x.length ≤ 3000) (c : ∀ n ∈ x.cps.toList, n < 16 ^ 8) : Gv H (.str x) (.str x)
  | tup {a : Addr} (i : Int) (h : i.natAbs < 1000000000000000000) (e : H a = some (.tup [.int i, .str "a"])) : Gv H (.ref a) (.tuple [.int i, .str "a"])
  | lst {a : Addr} (i : Int) (h : i.natAbs < 1000000000000000000) (e : H a = some (.lst [.int i, .non])) : Gv H (.ref a) (.list [.int i, .none])
  | dic {a : Addr} (i : Int) (h : i.natAbs < 1000000000000000000) (e : H a = some (.dK [(.inr "a", .int i)])) : Gv H (.ref a) (.dict [(.str "a", .int i)])
theorem Gv.keep {H H' : Hp} {v : V} {d : PyData} (g : Gv H v d) (k : ∀ b o, H b = some o → H' b = some o) : Gv H' v d := by
  cases g with
  | non => exact .non
  | bl b => exact .bl b
  | int i h => exact .int i h
  | str x h c => exact .str x h c
  | tup i h e => exact .tup i h (k _ _ e)
  | lst i h e => exact .lst i h (k _ _ e)
  | dic i h e => exact .dic i h (k _ _ e)
inductive GvAll (H : Hp) : List V → List PyData → Prop
  | nil : GvAll H [] []
  | cons {v : V} {vs : List V} {d : PyData} {ds : List PyData} : Gv H v d → GvAll H vs ds → GvAll H (v :: vs) (d :: ds)
theorem small_log {i : Int} (h : i.natAbs < 1000000000000000000) : i.natAbs.log2 < 1920 := by
  by_cases z : i.natAbs = 0
  · rw [z]; decide
  · exact Nat.lt_of_lt_of_le (Nat.log2_lt z |>.mpr (Nat.lt_of_lt_of_le h (by decide : 1000000000000000000 ≤ 2 ^ 60))) (by decide)
theorem Gv.show {H : Hp} {v : V} {d : PyData} (g : Gv H v d) : d.showable = true := by
  cases g with
  | non => rfl
  | bl b => rfl
  | int i h => simp [PyData.showable, small_log h]
  | str x h c => rfl
  | tup i h e => simp [PyData.showable, PyData.showableAll, small_log h]
  | lst i h e => simp [PyData.showable, PyData.showableAll, small_log h]
  | dic i h e => simp [PyData.showable, PyData.showableKv, small_log h]
theorem Gv.deep {H : Hp} {v : V} {d : PyData} (g : Gv H v d) : d.depth ≤ 1 := by
  cases g <;> simp [PyData.depth, PyData.depthAll, PyData.depthKv]
theorem len1 (x : String) (n : Nat) (h : (Str.ofString x).length = n := by decide +kernel) : (x : Str).length = n := h
theorem int_len {i : Int} (h : i.natAbs < 1000000000000000000) : (Str.ofString (toString i)).length ≤ 1921 := int_text_len_1921 (small_log h)
theorem list_len (ts : List Str) : (listText ts).length ≤ 2 + (ts.map (·.length)).sum + 2 * ts.length := by
  have q := textFrom_len_le ts 0 "["
  unfold listText
  rw [strLen_append]
  have e1 : ("[" : Str).length = 1 := len1 "[" 1
  have e2 : ("]" : Str).length = 1 := len1 "]" 1
  omega
theorem a_len : (reprText "a").length = 3 := by decide +kernel
theorem none_len : ("None" : Str).length = 4 := by decide +kernel
theorem sep_len : (", " : Str).length = 2 := by decide +kernel
theorem col_len : (": " : Str).length = 2 := by decide +kernel
theorem Gv.small {H : Hp} {v : V} {d : PyData} (g : Gv H v d) : d.shown.length ≤ 40000 := by
  cases g with
  | non => simp only [PyData.shown]; decide +kernel
  | bl b => cases b <;> (simp only [PyData.shown]; decide +kernel)
  | int i h => simp only [PyData.shown]; exact Nat.le_trans (int_len h) (by decide)
  | str x h c => simp only [PyData.shown]; exact Nat.le_trans (StrLaws.reprText_len x c) (by omega)
  | tup i h e =>
    have q := int_len h
    simp only [PyData.shown, PyData.shownAll]
    show (("(" : Str) ++ (Str.ofString (toString i) ++ ", " ++ reprText "a") ++ ")").length ≤ 40000
    rw [strLen_append, strLen_append, strLen_append, strLen_append, a_len, sep_len]
    have e1 : ("(" : Str).length = 1 := len1 "(" 1
    have e2 : (")" : Str).length = 1 := len1 ")" 1
    omega
  | lst i h e =>
    have q := int_len h
    simp only [PyData.shown, PyData.shownAll]
    have l := list_len [Str.ofString (toString i), "None"]
    have e1 : (([Str.ofString (toString i), "None"] : List Str).map (·.length)).sum = (Str.ofString (toString i)).length + 4 := by
      show (Str.ofString (toString i)).length + (("None" : Str).length + 0) = _
      rw [none_len]
    have e2 : ([Str.ofString (toString i), "None"] : List Str).length = 2 := rfl
    rw [e1, e2] at l
    exact Nat.le_trans l (by omega)
  | dic i h e =>
    have q := int_len h
    simp only [PyData.shown, PyData.shownKv]
    show (("{" : Str) ++ (reprText "a" ++ ": " ++ Str.ofString (toString i)) ++ "}").length ≤ 40000
    rw [strLen_append, strLen_append, strLen_append, strLen_append, a_len, col_len]
    have e1 : ("{" : Str).length = 1 := len1 "{" 1
    have e2 : ("}" : Str).length = 1 := len1 "}" 1
    omega
section
variable {X : Cx} {pins : List (Addr × Obj)} {σ : St} {H : Hp} {s : Shared}
theorem Gv.reads {v : V} {d : PyData} {u : Value} (I : Inv X pins σ H s) (g : Gv H v d) (r : RelV v u) : ∃ as, Reads s.heap u d as ∧ (d.hasDict = true → sysModules ∉ as) := by
  cases g with
  | non => cases (show u = Value.none from r); exact ⟨_, .none, fun z => nomatch z⟩
  | bl b => cases (show u = Value.bool b from r); exact ⟨_, .bool b, fun z => nomatch z⟩
  | int i h => obtain ⟨t, rfl⟩ := r; exact ⟨_, .int i t, fun z => nomatch z⟩
  | str x h c => obtain ⟨t, rfl⟩ := r; exact ⟨_, .str x t, fun z => nomatch z⟩
  | @tup a i h e =>
    cases (show u = Value.ref a from r)
    obtain ⟨_, its, rv, o, h1, h2, n, h3⟩ := (show ObjOk X.prog X.w H s.heap a (.tup _) from I.hok a _ e)
    obtain ⟨u1, u2, rfl, ⟨t1, rfl⟩, ⟨t2, rfl⟩⟩ := vals2 rv
    exact ⟨_, .tuple h1 h2 h3 (.cons (.int i t1) (.cons (.str _ t2) .nil)), fun z => by simp [PyData.hasDict, PyData.hasDictAll] at z⟩
  | @lst a i h e =>
    cases (show u = Value.ref a from r)
    obtain ⟨_, its, n, rv, h1⟩ := (show ObjOk X.prog X.w H s.heap a (.lst _) from I.hok a _ e)
    obtain ⟨u1, u2, rfl, ⟨t1, rfl⟩, r2⟩ := vals2 rv
    cases (show u2 = Value.none from r2)
    exact ⟨_, .list h1 rfl rfl (.cons (.int i t1) (.cons .none .nil)), fun z => by simp [PyData.hasDict, PyData.hasDictAll] at z⟩
  | @dic a i h e =>
    cases (show u = Value.ref a from r)
    obtain ⟨_, hs, vs, kv, o, es, ep, h1, h2, h3, _, h4, _⟩ := dk_of I.hok e
    cases kv with
    | @cons _ q _ _ q1 q2 =>
      cases q2
      obtain ⟨qk, qv⟩ := q
      obtain ⟨ek, rv⟩ := q1
      dsimp only at ek rv
      subst ek
      obtain ⟨t, rfl⟩ := rv
      have h5 : es.toList.map (·.key) = [es.toList.head!.key] ∧ es.toList.map (·.val) = [Value.int i t] ∧ ∃ t2, es.toList.head!.key = Value.str "a" t2 := by
        generalize es.toList = l at h4
        cases h4 with
        | @cons en _ _ _ z1 z2 z3 =>
          cases z3
          obtain ⟨y, t2, e1, e2⟩ | ⟨y, t2, e1, e2⟩ := keyIs_shape (show keyIs (Sum.inr "a") en.key = true from z1)
          · cases e1
          · cases e1
            exact ⟨rfl, by show [en.val] = _; rw [z2], t2, e2⟩
      obtain ⟨e1, e2, t2, e3⟩ := h5
      rw [e3] at e1
      refine ⟨_, .dict h1 h2.1 h3 (by rw [e1]; exact .cons (.str _ t2) .nil) (by rw [e2]; exact .cons (.int i t) .nil), fun _ hm => ?_⟩
      have hm' : sysModules ∈ [a] := hm
      have z : sysModules = a := by simpa using hm'
      rw [z] at hs
      simp at hs
theorem GvAll.repr {prog : Program} {w : World} (I : Inv X pins σ H s) : ∀ {vs : List V} {ds : List PyData} {us : List Value}, GvAll H vs ds → Vals vs us →
    ∃ as bs, ReadsAll s.heap us ds as ∧ ReadAtMost s.heap (PyData.depthAll ds) bs ∧ ReprAllK prog w bs s.heap (PyData.depthAll ds) us (PyData.shownAll ds)
  | _, _, _, .nil, .nil => ⟨[], [], .nil, (fun _ h => nomatch h), by simp only [PyData.shownAll]; exact .nil⟩
  | _, _, _, .cons g gs, .cons r rs => by
    obtain ⟨as, ra, hm⟩ := g.reads I r
    obtain ⟨b1, h1, k1⟩ := ReprK.of_reads (prog := prog) (w := w) ra g.show hm (Nat.le_trans g.small (by decide))
    obtain ⟨as2, b2, ra2, h2, k2⟩ := GvAll.repr (prog := prog) (w := w) I gs rs
    refine ⟨as ++ as2, b1 ++ b2, .cons ra ra2, fun b hb => ?_, ?_⟩
    · simp only [PyData.depthAll]
      rcases List.mem_append.mp hb with hb | hb
      · obtain ⟨d', a', r', l⟩ := h1 b hb
        exact ⟨d', a', r', Nat.le_trans l (Nat.le_max_left ..)⟩
      · obtain ⟨d', a', r', l⟩ := h2 b hb
        exact ⟨d', a', r', Nat.le_trans l (Nat.le_max_right ..)⟩
    · simp only [PyData.depthAll, PyData.shownAll]
      exact .cons ((k1.more fun b z => List.mem_append_left _ z).level_le (Nat.le_max_left ..)) (k2.more_le (fun b z => List.mem_append_right _ z) (Nat.le_max_right ..))
end
theorem GvAll.deep {H : Hp} : ∀ {vs : List V} {ds : List PyData}, GvAll H vs ds → PyData.depthAll ds ≤ 1
  | _, _, .nil => by simp [PyData.depthAll]
  | _, _, .cons g gs => by
    have h1 := g.deep
    have h2 := GvAll.deep gs
    simp only [PyData.depthAll]
    omega
theorem GvAll.small {H : Hp} : ∀ {vs : List V} {ds : List PyData}, GvAll H vs ds → ((PyData.shownAll ds).map (·.length)).sum ≤ 40000 * vs.length ∧ (PyData.shownAll ds).length = vs.length
  | _, _, .nil => by simp [PyData.shownAll]
  | _, _, .cons g gs => by
    have h1 := g.small
    have h2 := GvAll.small gs
    simp only [PyData.shownAll, List.map_cons, List.sum_cons, List.length_cons]
    omega
/-- repr(xs), xs a list of at most two things that the law draws -/
def rReprL : List V → Hp → VK → Prop := fun xs H Q => ∃ (a : Addr) (vs : List V) (ds : List PyData), xs = [.ref a] ∧ H a = some (.lst vs) ∧ GvAll H vs ds ∧ vs.length ≤ 2 ∧ Q (.str (PyData.list ds).shown) H
theorem call_reprL {X : Cx} (hg : X.A.guards = some []) (hu : X.A.units + 64 < cLine) : CallR X (.builtin "repr") rReprL := by
  intro pins s σ H xs us Q I r q
  obtain ⟨a, vs, ds, rfl, hl, G, hlen, q⟩ := q
  obtain ⟨u, rfl, ra⟩ := vals1 r
  cases (show u = Value.ref a from ra)
  obtain ⟨_, its, n, rv, ho⟩ := (show ObjOk X.prog X.w H s.heap a (.lst vs) from I.hok a _ hl)
  obtain ⟨as, bs, hr, hb, hk⟩ := GvAll.repr (prog := X.prog) (w := X.w) I G rv
  have hd := G.deep
  have R : Reads s.heap (.ref a) (.list ds) _ := .list ho rfl rfl hr
  have hna : a ∉ bs := not_mem_of_deeper R (by simp only [PyData.depth]; omega) hb
  have hz : (listText (PyData.shownAll ds)).length ≤ sizeLine := by
    have z1 := list_len (PyData.shownAll ds)
    have z2 := G.small
    rw [sizeLine_eq]
    omega
  refine call_repr_slot (by omega) ⟨_, ho, rfl⟩ F.slot_list_repr.toG ?_
  have fin : ∀ (h' : Heap) (u tk : Nat), (∀ b o, s.heap.get? b = some o → h'.get? b = some o) → EP X pins σ Q (.str (PyData.list ds).shown u) { s with heap := h', toks := tk } := fun h' u tk k => ⟨.str (PyData.list ds).shown, H, I.kept k, ⟨u, rfl⟩, q⟩
  cases its with
  | nil =>
    cases hr
    refine call_list_repr_empty ⟨_, ho, rfl⟩ ho rfl ⟨_, _, rfl, ?_⟩
    have e : (PyData.list []).shown = "[]" := by simp only [PyData.shown, PyData.shownAll]; exact listText_nil
    rw [← e]
    exact fin _ _ _ fun _ _ z => z
  | cons x l =>
    refine call_list_reprK ho rfl rfl hna (by simpa using hk.length_eq) (fun i y e => hk.item i y (by simpa using e)) (g := []) hg (fun b _ => Clear.nil b) (by show X.A.units + 1 + _ < cLine; omega) (fun _ _ e => e) (fun h' u tk k => ⟨_, _, rfl, ?_⟩) hz
    have e : (PyData.list ds).shown = listText (PyData.shownAll ds) := by simp only [PyData.shown]
    rw [← e]
    exact fin h' u tk k
end L2

set_option maxRecDepth 100000
set_option maxHeartbeats 4000000
/-! The end of a law's row where the law's own body may lean on its place: no repr is under way around it. -/
namespace L2
open PySem PySem.Spec PyProof.Rows
/-- the law's def, called by the row with the script at a -/
def RunAt (P : Program) (w : World) (K : PySem.W.Frag) (mg : Str → Option Value) (base : Heap) (f : Addr) (sp : Sp) : Prop :=
  ∀ (s : Shared) (H : Hp) (a : Addr), Env0 P w K mg base callerA [] s H → sp [.ref a] H (fun v _ => v = .bl true) (fun _ _ _ => False) →
    codeAny (model P w) callerA (.call (.ref f) ⟨[.ref a], []⟩) (CR CX0 [] P w H s (fun v _ => v = .bl true) fun _ _ _ => False) s
section
variable {P : Program} {w : World} {K : PySem.W.Frag} {mg : Str → Option Value} {base : Heap}
theorem runAt_of {x qual : Str} {st : Stmt} {f : Addr} {fd : FuncData} {N : List Str} {arg : Str} {k : Nat} {sp : Sp} (F : Fun K x qual st f fd) (S : FnScope N [arg] (defScope st)) (hb : ∀ (s : Shared) (v : Value), BindsTo s fd ⟨[v], []⟩ [(arg, v)]) (hr : Room (k + 1) callerA)
    (body : ∀ (cdv : Value) (s : Shared) (H : Hp) (a : Addr) (Q : VK) (E : XK), Room k (callerA.deeper (envOfC qual (defScope st) s.heap.objs.size f cdv)) →
      sp [.ref a] H Q E → ∃ t, PSs (cxOf CX0 P w K mg base N qual (defScope st) f cdv callerA [] s H E).nox (defBody st) t ∧ t { nx := fun _ H' => Q .non H', rt := Q } (start N [.ref a]) H) : RunAt P w K mg base f sp := by
  intro s H a e0 hsp
  obtain ⟨oc, od, kV, doc, pm, an, cdv, ct, osl, rfl, lk, hcd⟩ := F.ex
  have KX : K.In s.heap := e0.mod.kin.keeps fun b o z => (e0.bs b o z).1
  have lim : s.heap.NoLimit := e0.mod.nolimit.keeps fun b o z => (e0.bs b o z).1
  have kinds : ∀ y ∈ [(arg, Value.ref a)], (defScope st).names.lookup y.1 = some .local ∨ ((defScope st).names.lookup y.1 = some .cell ∧ ((cellsFrom (s.heap.objs.size + 1) (defScope st).names []).lookup y.1).isSome = true) := by
    intro y hy
    cases List.mem_singleton.mp hy
    rcases S.par arg (List.mem_singleton.mpr rfl) with q | q
    · exact .inl q
    · exact .inr ⟨q, PySem.W.cellsFrom_some _ _ _ (.inl q)⟩
  refine codeAny_call_function hr.depth (KX _ _ lk) rfl S.co S.gen rfl (PySem.W.codeRec_of KX hcd) (hb s (.ref a) _ _ _ _ ?_)
  refine wpAny_newFunctionEnv_cells S.kind kinds fun env he s1 x => ?_
  subst he
  refine ⟨lim.keeps x.toInCall.keep, codeAny_func ?_⟩
  obtain ⟨t, ht, hq⟩ := body cdv s H a _ _ (hr.deeper _) hsp
  have I : Inv (cxOf CX0 P w K mg base N qual (defScope st) f cdv callerA [] s H fun _ _ _ => False) [] (start N [.ref a]) H s1 :=
    inv_start (us := [.ref a]) S hr.hd e0 rfl (.cons rfl .nil) x
  refine wpAny_mono (ht.nox.run [] s1 _ H _ I hq) (fun fl s' hs => ?_) fun e s' hs => hs
  cases fl with
  | ret u =>
    obtain ⟨v, σ', H', J, rv, q⟩ := hs
    exact ⟨v, H', J.os, J.bare, J.base, J.hok, rv, q⟩
  | next =>
    obtain ⟨σ', H', J, q⟩ := hs
    exact ⟨.non, H', J.os, J.bare, J.base, J.hok, rfl, q⟩
  | brk => obtain ⟨_, _, _, q⟩ := hs; exact q.elim
  | cont => obtain ⟨_, _, _, q⟩ := hs; exact q.elim
/-- the row's call, from the law's promise -/
theorem callAt {mb : Str → Option Value} {fa a : Addr} {sp : Sp} {s₁ : Shared} {vs : List Value} {ns : List Int} (KX : K.In s₁.heap) (hns : s₁.heap.Ns mainGlobals mg) (hb : s₁.heap.Ns builtinsNs mb)
    (hbb : ∀ x : Str, x ≠ "__name__" → mb x = bootBuiltins x) (hlim : s₁.heap.NoLimit) (hg : s₁.gens = #[]) (ha : s₁.heap.get? a = some { cls := .type "list", data := .seq vs.toArray }) (hi : IntsAre vs ns) (hl : ns.length ≤ sizeLine)
    (G : ∀ base : Heap, K.In base → base.Ns mainGlobals mg → RunAt P w K mg base fa sp)
    (hsp : ∀ H : Hp, Only H → SqL K H a (ns.map V.int) → sp [.ref a] H (fun v _ => v = .bl true) fun _ _ _ => False) :
    codeAny (model P w) callerA (.call (.ref fa) ⟨[.ref a], []⟩) (fun r s' => r = .ok (.ret (.bool true)) ∧ PySem.OldK s₁.heap s'.heap ∧ s'.os = s₁.os ∧ AllBare s'.gens) s₁ := by
  have rv := vals_ints hi
  have lv := hi.length
  have go : ∀ H : Hp, Only H → SqL K H a (ns.map V.int) → HOk P w H s₁.heap → (∀ b, H b ≠ none → b = a) → (H a ≠ none → K.lookup a = none) →
      codeAny (model P w) callerA (.call (.ref fa) ⟨[.ref a], []⟩) (fun r s' => r = .ok (.ret (.bool true)) ∧ PySem.OldK s₁.heap s'.heap ∧ s'.os = s₁.os ∧ AllBare s'.gens)
        s₁ := by
    intro H hO hS hok only apart
    have none_of : ∀ {b : Addr}, b ≠ a → H b = none := fun {b} n => by
      cases q : H b with
      | none => rfl
      | some u => exact absurd (only b (by rw [q]; simp)) n
    have dict_none : ∀ {b : Addr} {o : Obj} {es : Array DictEntry} {ep : Nat}, s₁.heap.get? b = some o → o.data = .dict es ep → H b = none := fun {b o es ep} e d =>
      none_of fun z => by
        rw [z, ha] at e
        cases e
        cases (show Data.seq vs.toArray _ = Data.dict es ep from d)
    have ns_of : ∀ {b : Addr} {m : Str → Option Value}, s₁.heap.Ns b m → (hidT s₁.heap H).Ns b m := fun {b m} ⟨o, es, ep, e, d, r⟩ =>
      ⟨o, es, ep, hidT_get e (dict_none e d), d, r⟩
    have kb : K.In (hidT s₁.heap H) := fun b o e => hidT_get (KX b o e) (by
      by_cases z : b = a
      · cases q : H b with
        | none => rfl
        | some u =>
          subst z
          rw [apart (by rw [q]; simp)] at e
          cases e
      · exact none_of z)
    have md : Mod K mg (hidT s₁.heap H) := ⟨kb, ns_of hns, ⟨mb, ns_of hb, hbb⟩, by
      obtain ⟨mc, h1, h2⟩ := hlim
      exact ⟨mc, ns_of h1, h2⟩⟩
    have e0 : Env0 P w K mg (hidT s₁.heap H) callerA [] s₁ H :=
      ⟨rfl, md, fun b o e => of_hidT e, Nat.le_of_eq (hidT_size _ _), trivial, (fun b z => by cases z), hok, .of_eq hg⟩
    refine codeAny_mono (G _ kb (ns_of hns) s₁ H a e0 (hsp H hO hS)) fun r s' h => ?_
    cases r with
    | error e => exact (show False from h).elim
    | ok fl =>
      cases fl with
      | next => exact (show False from h).elim
      | brk => exact (show False from h).elim
      | cont => exact (show False from h).elim
      | ret u =>
        obtain ⟨v, H', os, bare, un, hok', r', rfl⟩ := h
        cases (show u = Value.bool true from r')
        refine ⟨rfl, OldK.of_keep fun b o e => ?_, os, bare⟩
        cases q : H b with
        | none => exact un.keep b o e q (fun z => by cases z) (by simp)
        | some u =>
          rcases hO b with z | ⟨ob, xs, z⟩
          · rw [q] at z
            cases z
          · obtain ⟨e1, _⟩ := hok b _ z
            obtain ⟨e2, _⟩ := hok' b _ (un.frzs b ob _ z)
            rw [e] at e1
            cases e1
            exact e2
  cases hk : K.lookup a with
  | some o =>
    have e := (KX a o hk).symm.trans ha
    cases e
    exact go (fun _ => none) (fun _ => .inl rfl) (.inr ⟨_, vs.toArray, _, hk, rfl, rfl, rfl, by rw [List.size_toArray, lv]; exact hl, by simpa using rv⟩)
      (fun b u z => by cases (show (none : Option HO) = some u from z)) (fun b z => absurd rfl z) fun z => absurd rfl z
  | none =>
    let O : Obj := { cls := .type "list", data := .seq vs.toArray }
    have at_ : ∀ b : Addr, (fun b => if b = a then some (HO.frz O (.lst (ns.map V.int))) else none : Hp) b = if b = a then some (HO.frz O (.lst (ns.map V.int))) else none := fun _ => rfl
    refine go (fun b => if b = a then some (HO.frz O (.lst (ns.map V.int))) else none) (fun b => ?_) (.inl (.inr ⟨O, if_pos rfl⟩)) (fun b u z => ?_) (fun b z => ?_) fun _ => hk
    · by_cases q : b = a
      · exact .inr ⟨_, _, if_pos q⟩
      · exact .inl (if_neg q)
    · by_cases q : b = a
      · cases (if_pos q).symm.trans z
        subst q
        exact ⟨ha, by rw [List.length_map]; exact hl, vs, _, rv, ha⟩
      · cases (if_neg q).symm.trans z
    · by_cases q : b = a
      · exact q
      · exact absurd (if_neg q) z
end
/-- the goal that k_head leaves, from the law's promise at its own place -/
theorem walkAt {l : PySem.W.OpenLaw} {n : Nat} {q : Program} {loose : List Str} {XP : (Str → Option Value) → Heap → Prop} {YP : World → Heap → Prop} {d : DefRec} {K : Params → PySem.W.Frag} {sp : PySem.W.Frag → Sp}
    (hn : l.most = some n) (hn2 : n ≤ sizeLine) (hdf : d.params.defaults = []) (hY : ∀ (w : World) (h : Heap), YP w h → (K w.params).In h)
    (G : ∀ (w : World) (mg : Str → Option Value) (fa : Addr) (h : Heap), (K w.params).In h → h.Ns mainGlobals mg → mg d.name = some (.ref fa) →
      ∀ base : Heap, (K w.params).In base → base.Ns mainGlobals mg → RunAt l.prog w (K w.params) mg base fa (sp (K w.params)))
    (hsp : ∀ (K : PySem.W.Frag) (H : Hp) (a : Addr) (ns : List Int), ns.length ≤ n → SqL K H a (ns.map V.int) → sp K [.ref a] H (fun v _ => v = .bl true) fun _ _ _ => False) :
    PySem.W.WalkO q loose XP YP l.row.toRowW d [] (fun f vs => PySem.call f vs) := by
  refine Att.attach_call hn hdf fun w s₀ s₁ mg mb fa o pm cd doc a vs ns gr Y ho hd hcd hmg hobj hints hlen hg => ?_
  have KX := hY w _ Y
  exact callAt KX gr.T.g gr.T.b gr.T.builtins gr.T.nolimit hg hobj hints (Nat.le_trans hlen hn2) (G w mg fa _ KX gr.T.g hmg) fun H _ hS => hsp _ H a ns hlen hS
end L2

set_option maxRecDepth 100000
set_option maxHeartbeats 4000000
/-! The errors' own __init__; one error of each class, their kinds, their fields. -/
namespace K00
open PySem L2
abbrev sKinds : Stmt := top 19
abbrev sObj : Stmt := top 20
abbrev sFields : Stmt := top 21
/-- self.f = v -/
def spI1 (C : Addr) (f : Str) : Sp := fun vs H Q _ => ∃ (p : Addr) (v : V), vs = [.ref p, v] ∧ H p = some (exo p C none) ∧
  ∀ (d : Addr) (H' : Hp), HasErr H' p C (some d) [(f, v)] → But p H H' → Q .non H'
/-- self.f = v; self.g = u -/
def spI2 (C : Addr) (f g : Str) : Sp := fun vs H Q _ => ∃ (p : Addr) (v u : V), vs = [.ref p, v, u] ∧ H p = some (exo p C none) ∧
  ∀ (d : Addr) (H' : Hp), HasErr H' p C (some d) [(g, u), (f, v)] → But p H H' → Q .non H'
section
variable {P : Program} {w : World} {K : PySem.W.Frag} {mg : Str → Option Value} {base : Heap}
theorem ok_i1 {C fI : Addr} {fd : FuncData} {qual f : Str} {st : Stmt} (F : Fun K "__init__" qual st fI fd) (S : FnScope ["self", f] ["self", f] (defScope st)) (hB : ∃ q1 q2 q3 q4, defBody st = [.Assign [.Attribute (.Name "self" q1) f q2] (.Name f q3) q4])
    (v0 : (defScope st).names.lookup ("self" : Str) = some .local) (v1 : (defScope st).names.lookup f = some .local) (h1 : (f == ("__debug__" : Str)) = false) (h2 : (f == ("__classdict__" : Str)) = false) (T : OexC K C) (hno : PySem.W.findIn K (.ref C) f = some none) :
    FnOk P w K mg base CX0 1 fI fd ["self", f] (spI1 C f) := by
  refine F.ok S (fun vs H Q E h => ?_) (fun cdv A outer s H vs Q E hr h => ?_)
  · obtain ⟨p, v, rfl, _⟩ := h
    rfl
  · obtain ⟨p, v, rfl, hp, k⟩ := h
    obtain ⟨q1, q2, q3, q4, eB⟩ := hB
    rw [eB]
    refine ⟨_, pss_one (ps_ost (pv 0 (hv := .inl v0)) (pv 1 (hv := .inl v1) (hd := h1) (hcd := h2))), ?_⟩
    refine ⟨_, rfl, _, rfl, p, C, rfl, T, hno, .inl ⟨hp, fun d hd hne => ?_⟩⟩
    refine k d _ ⟨upd_same, fun a e => ?_⟩ fun b o e hb => ?_
    · cases e
      rw [upd_ne hne, upd_same]
    · rw [upd_ne hb, upd_ne (ne_of_none e hd)]
      exact e
theorem ok_i2 {C fI : Addr} {fd : FuncData} {qual f g : Str} {st : Stmt} (F : Fun K "__init__" qual st fI fd) (S : FnScope ["self", f, g] ["self", f, g] (defScope st))
    (hB : ∃ q1 q2 q3 q4 r1 r2 r3 r4, defBody st = [.Assign [.Attribute (.Name "self" q1) f q2] (.Name f q3) q4, .Assign [.Attribute (.Name "self" r1) g r2] (.Name g r3) r4])
    (v0 : (defScope st).names.lookup ("self" : Str) = some .local) (v1 : (defScope st).names.lookup f = some .local) (h1 : (f == ("__debug__" : Str)) = false) (h2 : (f == ("__classdict__" : Str)) = false)
    (v2 : (defScope st).names.lookup g = some .local) (h3 : (g == ("__debug__" : Str)) = false) (h4 : (g == ("__classdict__" : Str)) = false) (T : OexC K C) (hno : PySem.W.findIn K (.ref C) f = some none) (hno2 : PySem.W.findIn K (.ref C) g = some none) :
    FnOk P w K mg base CX0 1 fI fd ["self", f, g] (spI2 C f g) := by
  refine F.ok S (fun vs H Q E h => ?_) (fun cdv A outer s H vs Q E hr h => ?_)
  · obtain ⟨p, v, u, rfl, _⟩ := h
    rfl
  · obtain ⟨p, v, u, rfl, hp, k⟩ := h
    obtain ⟨q1, q2, q3, q4, r1, r2, r3, r4, eB⟩ := hB
    rw [eB]
    refine ⟨_, pss_cons (ps_ost (pv 0 (hv := .inl v0)) (pv 1 (hv := .inl v1) (hd := h1) (hcd := h2))) (pss_one (ps_ost (pv 0 (hv := .inl v0)) (pv 2 (hv := .inl v2) (hd := h3) (hcd := h4)))), ?_⟩
    refine ⟨_, rfl, _, rfl, p, C, rfl, T, hno, .inl ⟨hp, fun d hd hne => ?_⟩⟩
    have e1 : upd (upd H d (exd d [(f, v)])) p (exo p C (some d)) d = some (exd d [(f, v)]) := by rw [upd_ne hne, upd_same]
    refine ⟨_, rfl, _, rfl, p, C, rfl, T, hno2, .inr ⟨d, _, upd_same, e1, (by show 1 ≤ 900; decide), ?_⟩⟩
    refine k d _ ⟨by rw [upd_ne hne.symm]; exact upd_same, fun a e => ?_⟩ fun b o e hb => ?_
    · cases e
      exact upd_same
    · have nd : b ≠ d := ne_of_none e hd
      rw [upd_ne nd, upd_ne hb, upd_ne nd]
      exact e
end

/-! ### the twelve classes -/
inductive All2 {α β : Type} (R : α → β → Prop) : List α → List β → Prop
  | nil : All2 R [] []
  | cons {a : α} {b : β} {as : List α} {bs : List β} : R a b → All2 R as bs → All2 R (a :: as) (b :: bs)
theorem All2.imp {α β : Type} {R S : α → β → Prop} (h : ∀ a b, R a b → S a b) : ∀ {as : List α} {bs : List β}, All2 R as bs → All2 S as bs
  | _, _, .nil => .nil
  | _, _, .cons r t => .cons (h _ _ r) (All2.imp h t)
theorem All2.len {α β : Type} {R : α → β → Prop} : ∀ {as : List α} {bs : List β}, All2 R as bs → as.length = bs.length
  | _, _, .nil => rfl
  | _, _, .cons _ t => by rw [List.length_cons, List.length_cons, All2.len t]
theorem All2.at_ {α β : Type} {R : α → β → Prop} : ∀ {as : List α} {bs : List β} {i : Nat} {a : α}, All2 R as bs → as[i]? = some a → ∃ b, bs[i]? = some b ∧ R a b
  | _, _, _, _, .nil, h => by simp at h
  | _, _, 0, _, .cons r _, h => by simp at h; subst h; exact ⟨_, rfl, r⟩
  | _, _, i + 1, _, .cons _ t, h => by
    obtain ⟨b, h1, h2⟩ := All2.at_ (i := i) t (by simpa using h)
    exact ⟨b, by simpa using h1, h2⟩
/-- an error stands at e, of the class k.1, with the fields k.2 -/
def ErrIs (H : Hp) (e : Addr) (k : Addr × List (Str × V)) : Prop := ∃ d, HasErr H e k.1 d k.2 ∧ (k.2 ≠ [] → d ≠ none)
theorem ErrIs.keep {H H' : Hp} {e : Addr} {k : Addr × List (Str × V)} (s : Same H H') (h : ErrIs H e k) : ErrIs H' e k := by
  obtain ⟨d, h1, h2⟩ := h
  exact ⟨d, h1.keep s, h2⟩
theorem ErrIs.mk {H : Hp} {e C d : Addr} {fs : List (Str × V)} (h : HasErr H e C (some d) fs) : ErrIs H e (C, fs) := ⟨some d, h, fun _ z => nomatch z⟩
def ks (c : Nat → Addr) (a b : V) : List (Addr × List (Str × V)) :=
  [(c 0, [("column", a)]), (c 1, [("column", b), ("line", a)]), (c 2, [("number", b), ("what", a)]), (c 3, [("row", a)]), (c 4, [("high", b), ("low", a)]), (c 5, [("name", a)]),
   (c 6, [("what", a)]), (c 7, [("name", a)]), (c 8, [("name", a)]), (c 9, [("witness", b), ("promise", a)]), (c 10, []), (c 11, [])]
def fvs (a b : V) : List (List V) := [[a], [a, b], [a, b], [a], [a, b], [a], [a], [a], [a], [a, b], [], []]
structure Mk1 (P : Program) (w : World) (K : PySem.W.Frag) (mg : Str → Option Value) (base : Heap) (x f : Str) (C : Addr) : Prop where
  g : mg x = some (.ref C)
  ox : OexC K C
  no : PySem.W.findIn K (.ref C) f = some none
  ini : ∃ fI fd, PySem.W.findIn K (.ref C) "__init__" = some (some (.ref fI)) ∧ PySem.W.typeIn K (.ref fI) = some (.type "function") ∧ FnOk P w K mg base CX0 1 fI fd ["self", f] (spI1 C f) ∧ Binds K fd ["self", f] []
structure Mk2 (P : Program) (w : World) (K : PySem.W.Frag) (mg : Str → Option Value) (base : Heap) (x f h : Str) (C : Addr) : Prop where
  g : mg x = some (.ref C)
  ox : OexC K C
  no : PySem.W.findIn K (.ref C) f = some none
  no2 : PySem.W.findIn K (.ref C) h = some none
  ini : ∃ fI fd, PySem.W.findIn K (.ref C) "__init__" = some (some (.ref fI)) ∧ PySem.W.typeIn K (.ref fI) = some (.type "function") ∧ FnOk P w K mg base CX0 1 fI fd ["self", f, h] (spI2 C f h) ∧ Binds K fd ["self", f, h] []
def veT : List Value := [.type "ValueError", .type "Exception", .type "BaseException", .type "object"]
structure Mk0 (K : PySem.W.Frag) (mg : Str → Option Value) (x : Str) (C : Addr) : Prop where
  g : mg x = some (.ref C)
  ex : PySem.W.excIn K C veT "ValueError.__new__" = true
  kp : PySem.W.keepIn K (.ref C) = true
structure ErrTxt (P : Program) (w : World) (K : PySem.W.Frag) (mg : Str → Option Value) (base : Heap) (c : Nat → Addr) : Prop where
  m0 : Mk1 P w K mg base "BadText" "column" (c 0)
  m1 : Mk2 P w K mg base "BadLine" "line" "column" (c 1)
  m2 : Mk2 P w K mg base "BadNumber" "what" "number" (c 2)
  m3 : Mk1 P w K mg base "BadRow" "row" (c 3)
  m4 : Mk2 P w K mg base "BadInterval" "low" "high" (c 4)
  m5 : Mk1 P w K mg base "BadName" "name" (c 5)
  m6 : Mk1 P w K mg base "Unlike" "what" (c 6)
  m7 : Mk1 P w K mg base "NoName" "name" (c 7)
  m8 : Mk1 P w K mg base "TakenName" "name" (c 8)
  m9 : Mk2 P w K mg base "NotKept" "promise" "witness" (c 9)
  m10 : Mk0 K mg "NothingToUndo" (c 10)
  m11 : Mk0 K mg "NothingToRedo" (c 11)
  isi : mg "isinstance" = none
  kt : ∀ i j, i < 12 → j < 12 → PySem.W.kitOne K (.ref (c i)) (.ref (c j)) = some (decide (j = i))
  ec : ∀ i, i < 12 → ExcC K (c i)
  xf : ∀ i, i < 12 → XfC K (c i)
/-- a new error, made by C(v) -/
theorem same_new {H H' : Hp} {e : Addr} {o : HO} (n : H e = none) (k : But e (upd H e o) H') : Same H H' := fun b u q => k b u (by rw [upd_ne (ne_of_none q n)]; exact q) (ne_of_none q n)
theorem same_upd {H : Hp} {p : Addr} {o : HO} (h : H p = none) : Same H (upd H p o) := fun b x e => by
  rw [upd_ne (ne_of_none e h)]
  exact e
/-! ### _law_objects, _law_kinds, _law_fields -/
def spObj (c : Nat → Addr) : Sp := fun vs H Q _ => ∃ a b : V, vs = [a, b] ∧ ∀ (r : Addr) (es : List Addr) (H' : Hp), All2 (ErrIs H') es (ks c a b) → H' r = some (.lst (es.map V.ref)) → Same H H' → Q (.ref r) H'
def spKinds (c : Nat → Addr) : Sp := fun vs H Q _ => ∃ (e : Addr) (k : Nat) (d : Option Addr) (fs : List (Str × V)), vs = [.ref e] ∧ k < 12 ∧ HasErr H e (c k) d fs ∧
  ∀ (r : Addr) (H' : Hp), H' r = some (.lst ((List.range 12).map fun j => V.bl (decide (j = k)))) → Same H H' → Q (.ref r) H'
def spFields (c : Nat → Addr) : Sp := fun vs H Q _ => ∃ (r : Addr) (es : List Addr) (a b : V), vs = [.ref r] ∧ H r = some (.lst (es.map V.ref)) ∧ All2 (ErrIs H) es (ks c a b) ∧
  ∀ (r' : Addr) (ls : List Addr) (H' : Hp), All2 (fun l vs => H' l = some (.lst vs)) ls (fvs a b) → H' r' = some (.lst (ls.map V.ref)) → Same H H' → Q (.ref r') H'
section
variable {P : Program} {w : World} {K : PySem.W.Frag} {mg : Str → Option Value} {base : Heap} {c : Nat → Addr}
theorem scObj : FnScope ["_law_a", "_law_b", "_law_first"] ["_law_a", "_law_b"] (defScope sObj) := ⟨rfl, rfl, rfl, by decide +kernel, rfl, by decide +kernel, by decide +kernel⟩
theorem ok_obj {f : Addr} {fd : FuncData} (F : Fun K "_law_objects" "_law_objects" sObj f fd) (T : ErrTxt P w K mg base c) : FnOk P w K mg base CX0 3 f fd ["_law_a", "_law_b"] (spObj c) := by
  refine F.ok scObj (fun vs H Q E h => ?_) (fun cdv A outer s H vs Q E hr h => ?_)
  · obtain ⟨a, b, rfl, _⟩ := h
    rfl
  · obtain ⟨a, b, rfl, k⟩ := h
    obtain ⟨_, _, i0, t0, G0, b0⟩ := T.m0.ini
    obtain ⟨_, _, i1, t1, G1, b1⟩ := T.m1.ini
    obtain ⟨_, _, i2, t2, G2, b2⟩ := T.m2.ini
    obtain ⟨_, _, i3, t3, G3, b3⟩ := T.m3.ini
    obtain ⟨_, _, i4, t4, G4, b4⟩ := T.m4.ini
    obtain ⟨_, _, i5, t5, G5, b5⟩ := T.m5.ini
    obtain ⟨_, _, i6, t6, G6, b6⟩ := T.m6.ini
    obtain ⟨_, _, i7, t7, G7, b7⟩ := T.m7.ini
    obtain ⟨_, _, i8, t8, G8, b8⟩ := T.m8.ini
    obtain ⟨_, _, i9, t9, G9, b9⟩ := T.m9.ini
    refine ⟨_, pss_cons (ps_set (i := 2) scObj.nd rfl (Or.inl rfl) (pe_lst
        (pa_cons (pe_err T.m0.ox i0 t0 G0 hr b0 rfl T.m0.g (pa_cons (pv 0) pa_nil))
        (pa_cons (pe_err T.m1.ox i1 t1 G1 hr b1 rfl T.m1.g (pa_cons (pv 0) (pa_cons (pv 1) pa_nil)))
        (pa_cons (pe_err T.m2.ox i2 t2 G2 hr b2 rfl T.m2.g (pa_cons (pv 0) (pa_cons (pv 1) pa_nil)))
        (pa_cons (pe_err T.m3.ox i3 t3 G3 hr b3 rfl T.m3.g (pa_cons (pv 0) pa_nil))
        (pa_cons (pe_err T.m4.ox i4 t4 G4 hr b4 rfl T.m4.g (pa_cons (pv 0) (pa_cons (pv 1) pa_nil)))
        (pa_cons (pe_err T.m5.ox i5 t5 G5 hr b5 rfl T.m5.g (pa_cons (pv 0) pa_nil))
        (pa_cons (pe_err T.m6.ox i6 t6 G6 hr b6 rfl T.m6.g (pa_cons (pv 0) pa_nil))
        (pa_cons (pe_err T.m7.ox i7 t7 G7 hr b7 rfl T.m7.g (pa_cons (pv 0) pa_nil))
        pa_nil))))))))))
      (pss_one (ps_ret (pe_op op_cat (pv 2) (pe_lst
        (pa_cons (pe_err T.m8.ox i8 t8 G8 hr b8 rfl T.m8.g (pa_cons (pv 0) pa_nil))
        (pa_cons (pe_err T.m9.ox i9 t9 G9 hr b9 rfl T.m9.g (pa_cons (pv 0) (pa_cons (pv 1) pa_nil)))
        (pa_cons (pe_err0 PySem.F.excBase_ValueError T.m10.ex T.m10.g T.m10.kp rfl)
        (pa_cons (pe_err0 PySem.F.excBase_ValueError T.m11.ex T.m11.g T.m11.kp rfl)
        pa_nil)))))))), ?_⟩
    refine ⟨_, rfl, (by show 1 ≤ 1000; decide), fun e0 n0 => ⟨e0, _, rfl, upd_same, fun d0 H0 E0 k0 => ⟨rfl, ?_⟩⟩⟩
    have s0 := same_new n0 k0
    replace E0 := ErrIs.mk E0
    refine ⟨_, rfl, _, rfl, (by show 2 ≤ 1000; decide), fun e1 n1 => ⟨e1, _, _, rfl, upd_same, fun d1 H1 E1 k1 => ⟨rfl, ?_⟩⟩⟩
    have s1 := same_new n1 k1
    replace E1 := ErrIs.mk E1
    refine ⟨_, rfl, _, rfl, (by show 2 ≤ 1000; decide), fun e2 n2 => ⟨e2, _, _, rfl, upd_same, fun d2 H2 E2 k2 => ⟨rfl, ?_⟩⟩⟩
    have s2 := same_new n2 k2
    replace E2 := ErrIs.mk E2
    refine ⟨_, rfl, (by show 1 ≤ 1000; decide), fun e3 n3 => ⟨e3, _, rfl, upd_same, fun d3 H3 E3 k3 => ⟨rfl, ?_⟩⟩⟩
    have s3 := same_new n3 k3
    replace E3 := ErrIs.mk E3
    refine ⟨_, rfl, _, rfl, (by show 2 ≤ 1000; decide), fun e4 n4 => ⟨e4, _, _, rfl, upd_same, fun d4 H4 E4 k4 => ⟨rfl, ?_⟩⟩⟩
    have s4 := same_new n4 k4
    replace E4 := ErrIs.mk E4
    refine ⟨_, rfl, (by show 1 ≤ 1000; decide), fun e5 n5 => ⟨e5, _, rfl, upd_same, fun d5 H5 E5 k5 => ⟨rfl, ?_⟩⟩⟩
    have s5 := same_new n5 k5
    replace E5 := ErrIs.mk E5
    refine ⟨_, rfl, (by show 1 ≤ 1000; decide), fun e6 n6 => ⟨e6, _, rfl, upd_same, fun d6 H6 E6 k6 => ⟨rfl, ?_⟩⟩⟩
    have s6 := same_new n6 k6
    replace E6 := ErrIs.mk E6
    refine ⟨_, rfl, (by show 1 ≤ 1000; decide), fun e7 n7 => ⟨e7, _, rfl, upd_same, fun d7 H7 E7 k7 => ⟨rfl, ?_⟩⟩⟩
    have s7 := same_new n7 k7
    replace E7 := ErrIs.mk E7
    refine ⟨(by show 8 ≤ sizeLine; decide), fun l hl => ?_⟩
    have s8 : Same H7 (upd H7 l (.lst [.ref e0, .ref e1, .ref e2, .ref e3, .ref e4, .ref e5, .ref e6, .ref e7])) := same_upd hl
    refine ⟨_, rfl, _, rfl, (by show 1 ≤ 1000; decide), fun e8 n8 => ⟨e8, _, rfl, upd_same, fun d8 H8 E8 k8 => ⟨rfl, ?_⟩⟩⟩
    have s9 := same_new n8 k8
    replace E8 := ErrIs.mk E8
    refine ⟨_, rfl, _, rfl, (by show 2 ≤ 1000; decide), fun e9 n9 => ⟨e9, _, _, rfl, upd_same, fun d9 H9 E9 k9 => ⟨rfl, ?_⟩⟩⟩
    have s10 := same_new n9 k9
    replace E9 := ErrIs.mk E9
    intro e10 n10
    intro e11 n11
    have s11 : Same H9 (upd H9 e10 (exo e10 (c 10) none)) := same_upd n10
    have s12 : Same (upd H9 e10 (exo e10 (c 10) none)) (upd (upd H9 e10 (exo e10 (c 10) none)) e11 (exo e11 (c 11) none)) := same_upd n11
    have E10 : ErrIs (upd H9 e10 (exo e10 (c 10) none)) e10 (c 10, []) := ⟨none, ⟨upd_same, fun _ z => nomatch z⟩, fun z => absurd rfl z⟩
    have E11 : ErrIs (upd (upd H9 e10 (exo e10 (c 10) none)) e11 (exo e11 (c 11) none)) e11 (c 11, []) := ⟨none, ⟨upd_same, fun _ z => nomatch z⟩, fun z => absurd rfl z⟩
    refine ⟨(by show 4 ≤ sizeLine; decide), fun l2 hl2 => ?_⟩
    generalize upd (upd H9 e10 (exo e10 (c 10) none)) e11 (exo e11 (c 11) none) = H11 at *
    generalize upd H9 e10 (exo e10 (c 10) none) = H10 at *
    have s13 : Same H11 (upd H11 l2 (.lst [.ref e8, .ref e9, .ref e10, .ref e11])) := same_upd hl2
    have t8 := ((((s9.trans s10).trans s11).trans s12).trans s13)
    refine ⟨l, l2, _, _, rfl, rfl, t8 _ _ upd_same, upd_same, (by show 12 ≤ sizeLine; decide), fun r hr => ?_⟩
    generalize upd H11 l2 (.lst [.ref e8, .ref e9, .ref e10, .ref e11]) = H12 at *
    have s14 : Same H12 (upd H12 r (.lst ([.ref e0, .ref e1, .ref e2, .ref e3, .ref e4, .ref e5, .ref e6, .ref e7] ++ [.ref e8, .ref e9, .ref e10, .ref e11]))) := same_upd hr
    have z11 := s13.trans s14
    have z10 := s12.trans z11
    have z9 := s11.trans z10
    have z8 := s10.trans z9
    have z7 := s8.trans (s9.trans z8)
    have z6 := s7.trans z7
    have z5 := s6.trans z6
    have z4 := s5.trans z5
    have z3 := s4.trans z4
    have z2 := s3.trans z3
    have z1 := s2.trans z2
    have z0 := s1.trans z1
    refine k r [e0, e1, e2, e3, e4, e5, e6, e7, e8, e9, e10, e11] _ ?_ upd_same (s0.trans z0)
    exact .cons (E0.keep z0) (.cons (E1.keep z1) (.cons (E2.keep z2) (.cons (E3.keep z3) (.cons (E4.keep z4) (.cons (E5.keep z5) (.cons (E6.keep z6) (.cons (E7.keep z7) (.cons (E8.keep z8) (.cons (E9.keep z9) (.cons (E10.keep z10) (.cons (E11.keep z11) .nil)))))))))))
theorem scKinds : FnScope ["_law_e", "_law_first"] ["_law_e"] (defScope sKinds) := ⟨rfl, rfl, rfl, by decide +kernel, rfl, by decide +kernel, by decide +kernel⟩
theorem ok_kinds {f : Addr} {fd : FuncData} (F : Fun K "_law_kinds" "_law_kinds" sKinds f fd) (T : ErrTxt P w K mg base c) : FnOk P w K mg base CX0 1 f fd ["_law_e"] (spKinds c) := by
  refine F.ok scKinds (fun vs H Q E h => ?_) (fun cdv A outer s H vs Q E hr h => ?_)
  · obtain ⟨e, k, d, fs, rfl, _⟩ := h
    rfl
  · obtain ⟨e, k, d, fs, rfl, hk, hE, q⟩ := h
    have X := T.ec k hk
    have kt : ∀ j, j < 12 → PySem.W.kitOne K (.ref (c k)) (.ref (c j)) = some (decide (j = k)) := fun j hj => T.kt k j hk hj
    refine ⟨_, pss_cons (ps_set (i := 1) scKinds.nd rfl (Or.inl rfl) (pe_lst (pa_cons (pe_callB call_isErr (by rfl) T.isi (by decide +kernel) (pa_cons (pv 0) (pa_cons (pe_glob (v := .ref (c 0)) rfl T.m0.g rfl) pa_nil))) (pa_cons (pe_callB call_isErr (by rfl) T.isi (by decide +kernel) (pa_cons (pv 0) (pa_cons (pe_glob (v := .ref (c 1)) rfl T.m1.g rfl) pa_nil))) (pa_cons (pe_callB call_isErr (by rfl) T.isi (by decide +kernel) (pa_cons (pv 0) (pa_cons (pe_glob (v := .ref (c 2)) rfl T.m2.g rfl) pa_nil))) (pa_cons (pe_callB call_isErr (by rfl) T.isi (by decide +kernel) (pa_cons (pv 0) (pa_cons (pe_glob (v := .ref (c 3)) rfl T.m3.g rfl) pa_nil))) pa_nil))))))
      (pss_cons (ps_set (i := 1) scKinds.nd rfl (Or.inl rfl) (pe_op op_cat (pv 1) (pe_lst (pa_cons (pe_callB call_isErr (by rfl) T.isi (by decide +kernel) (pa_cons (pv 0) (pa_cons (pe_glob (v := .ref (c 4)) rfl T.m4.g rfl) pa_nil))) (pa_cons (pe_callB call_isErr (by rfl) T.isi (by decide +kernel) (pa_cons (pv 0) (pa_cons (pe_glob (v := .ref (c 5)) rfl T.m5.g rfl) pa_nil))) (pa_cons (pe_callB call_isErr (by rfl) T.isi (by decide +kernel) (pa_cons (pv 0) (pa_cons (pe_glob (v := .ref (c 6)) rfl T.m6.g rfl) pa_nil))) (pa_cons (pe_callB call_isErr (by rfl) T.isi (by decide +kernel) (pa_cons (pv 0) (pa_cons (pe_glob (v := .ref (c 7)) rfl T.m7.g rfl) pa_nil))) pa_nil)))))))
      (pss_cons (ps_set (i := 1) scKinds.nd rfl (Or.inl rfl) (pe_op op_cat (pv 1) (pe_lst (pa_cons (pe_callB call_isErr (by rfl) T.isi (by decide +kernel) (pa_cons (pv 0) (pa_cons (pe_glob (v := .ref (c 8)) rfl T.m8.g rfl) pa_nil))) (pa_cons (pe_callB call_isErr (by rfl) T.isi (by decide +kernel) (pa_cons (pv 0) (pa_cons (pe_glob (v := .ref (c 9)) rfl T.m9.g rfl) pa_nil))) pa_nil)))))
      (pss_one (ps_ret (pe_op op_cat (pv 1) (pe_lst (pa_cons (pe_callB call_isErr (by rfl) T.isi (by decide +kernel) (pa_cons (pv 0) (pa_cons (pe_glob (v := .ref (c 10)) rfl T.m10.g rfl) pa_nil))) (pa_cons (pe_callB call_isErr (by rfl) T.isi (by decide +kernel) (pa_cons (pv 0) (pa_cons (pe_glob (v := .ref (c 11)) rfl T.m11.g rfl) pa_nil))) pa_nil)))))))), ?_⟩
    refine ⟨_, rfl, e, c k, d, fs, _, _, _, rfl, .own _, X, hE, kt 0 (by decide), ?_⟩
    refine ⟨_, rfl, e, c k, d, fs, _, _, _, rfl, .own _, X, hE, kt 1 (by decide), ?_⟩
    refine ⟨_, rfl, e, c k, d, fs, _, _, _, rfl, .own _, X, hE, kt 2 (by decide), ?_⟩
    refine ⟨_, rfl, e, c k, d, fs, _, _, _, rfl, .own _, X, hE, kt 3 (by decide), ?_⟩
    refine ⟨(by show 4 ≤ sizeLine; decide), fun l0 h0 => ?_⟩
    have v0 := same_upd (o := .lst [V.bl (decide (0 = k)), .bl (decide (1 = k)), .bl (decide (2 = k)), .bl (decide (3 = k))]) h0
    have e0 := hE.keep v0
    have g0 : (upd H l0 (.lst [V.bl (decide (0 = k)), .bl (decide (1 = k)), .bl (decide (2 = k)), .bl (decide (3 = k))])) l0 = _ := upd_same
    generalize upd H l0 (.lst [V.bl (decide (0 = k)), .bl (decide (1 = k)), .bl (decide (2 = k)), .bl (decide (3 = k))]) = H0 at *
    refine ⟨_, rfl, ?_⟩
    refine ⟨_, rfl, e, c k, d, fs, _, _, _, rfl, .own _, X, e0, kt 4 (by decide), ?_⟩
    refine ⟨_, rfl, e, c k, d, fs, _, _, _, rfl, .own _, X, e0, kt 5 (by decide), ?_⟩
    refine ⟨_, rfl, e, c k, d, fs, _, _, _, rfl, .own _, X, e0, kt 6 (by decide), ?_⟩
    refine ⟨_, rfl, e, c k, d, fs, _, _, _, rfl, .own _, X, e0, kt 7 (by decide), ?_⟩
    refine ⟨(by show 4 ≤ sizeLine; decide), fun m1 hm1 => ?_⟩
    have u1 := same_upd (o := .lst [V.bl (decide (4 = k)), .bl (decide (5 = k)), .bl (decide (6 = k)), .bl (decide (7 = k))]) hm1
    have y1 := u1 _ _ g0
    have x1 : (upd H0 m1 (.lst [V.bl (decide (4 = k)), .bl (decide (5 = k)), .bl (decide (6 = k)), .bl (decide (7 = k))])) m1 = _ := upd_same
    have f1 := e0.keep u1
    generalize upd H0 m1 (.lst [V.bl (decide (4 = k)), .bl (decide (5 = k)), .bl (decide (6 = k)), .bl (decide (7 = k))]) = J1 at *
    refine ⟨l0, m1, [V.bl (decide (0 = k)), .bl (decide (1 = k)), .bl (decide (2 = k)), .bl (decide (3 = k))], [V.bl (decide (4 = k)), .bl (decide (5 = k)), .bl (decide (6 = k)), .bl (decide (7 = k))], rfl, rfl, y1, x1, (by show 8 ≤ sizeLine; decide), fun l1 h1 => ?_⟩
    have v1 := same_upd (o := .lst ([V.bl (decide (0 = k)), .bl (decide (1 = k)), .bl (decide (2 = k)), .bl (decide (3 = k))] ++ [V.bl (decide (4 = k)), .bl (decide (5 = k)), .bl (decide (6 = k)), .bl (decide (7 = k))])) h1
    have e1 := f1.keep v1
    have w1 : (upd J1 l1 (.lst ([V.bl (decide (0 = k)), .bl (decide (1 = k)), .bl (decide (2 = k)), .bl (decide (3 = k))] ++ [V.bl (decide (4 = k)), .bl (decide (5 = k)), .bl (decide (6 = k)), .bl (decide (7 = k))]))) l1 = _ := upd_same
    refine ⟨_, rfl, ?_⟩
    generalize upd J1 l1 (.lst ([V.bl (decide (0 = k)), .bl (decide (1 = k)), .bl (decide (2 = k)), .bl (decide (3 = k))] ++ [V.bl (decide (4 = k)), .bl (decide (5 = k)), .bl (decide (6 = k)), .bl (decide (7 = k))])) = H1 at *
    have g1 : H1 l1 = some (.lst [V.bl (decide (0 = k)), .bl (decide (1 = k)), .bl (decide (2 = k)), .bl (decide (3 = k)), .bl (decide (4 = k)), .bl (decide (5 = k)), .bl (decide (6 = k)), .bl (decide (7 = k))]) := w1
    refine ⟨_, rfl, e, c k, d, fs, _, _, _, rfl, .own _, X, e1, kt 8 (by decide), ?_⟩
    refine ⟨_, rfl, e, c k, d, fs, _, _, _, rfl, .own _, X, e1, kt 9 (by decide), ?_⟩
    refine ⟨(by show 2 ≤ sizeLine; decide), fun m2 hm2 => ?_⟩
    have u2 := same_upd (o := .lst [V.bl (decide (8 = k)), .bl (decide (9 = k))]) hm2
    have y2 := u2 _ _ g1
    have x2 : (upd H1 m2 (.lst [V.bl (decide (8 = k)), .bl (decide (9 = k))])) m2 = _ := upd_same
    have f2 := e1.keep u2
    generalize upd H1 m2 (.lst [V.bl (decide (8 = k)), .bl (decide (9 = k))]) = J2 at *
    refine ⟨l1, m2, [V.bl (decide (0 = k)), .bl (decide (1 = k)), .bl (decide (2 = k)), .bl (decide (3 = k)), .bl (decide (4 = k)), .bl (decide (5 = k)), .bl (decide (6 = k)), .bl (decide (7 = k))], [V.bl (decide (8 = k)), .bl (decide (9 = k))], rfl, rfl, y2, x2, (by show 10 ≤ sizeLine; decide), fun l2 h2 => ?_⟩
    have v2 := same_upd (o := .lst ([V.bl (decide (0 = k)), .bl (decide (1 = k)), .bl (decide (2 = k)), .bl (decide (3 = k)), .bl (decide (4 = k)), .bl (decide (5 = k)), .bl (decide (6 = k)), .bl (decide (7 = k))] ++ [V.bl (decide (8 = k)), .bl (decide (9 = k))])) h2
    have e2 := f2.keep v2
    have w2 : (upd J2 l2 (.lst ([V.bl (decide (0 = k)), .bl (decide (1 = k)), .bl (decide (2 = k)), .bl (decide (3 = k)), .bl (decide (4 = k)), .bl (decide (5 = k)), .bl (decide (6 = k)), .bl (decide (7 = k))] ++ [V.bl (decide (8 = k)), .bl (decide (9 = k))]))) l2 = _ := upd_same
    refine ⟨_, rfl, ?_⟩
    generalize upd J2 l2 (.lst ([V.bl (decide (0 = k)), .bl (decide (1 = k)), .bl (decide (2 = k)), .bl (decide (3 = k)), .bl (decide (4 = k)), .bl (decide (5 = k)), .bl (decide (6 = k)), .bl (decide (7 = k))] ++ [V.bl (decide (8 = k)), .bl (decide (9 = k))])) = H2 at *
    have g2 : H2 l2 = some (.lst [V.bl (decide (0 = k)), .bl (decide (1 = k)), .bl (decide (2 = k)), .bl (decide (3 = k)), .bl (decide (4 = k)), .bl (decide (5 = k)), .bl (decide (6 = k)), .bl (decide (7 = k)), .bl (decide (8 = k)), .bl (decide (9 = k))]) := w2
    refine ⟨_, rfl, e, c k, d, fs, _, _, _, rfl, .own _, X, e2, kt 10 (by decide), ?_⟩
    refine ⟨_, rfl, e, c k, d, fs, _, _, _, rfl, .own _, X, e2, kt 11 (by decide), ?_⟩
    refine ⟨(by show 2 ≤ sizeLine; decide), fun m3 hm3 => ?_⟩
    have u3 := same_upd (o := .lst [V.bl (decide (10 = k)), .bl (decide (11 = k))]) hm3
    have y3 := u3 _ _ g2
    have x3 : (upd H2 m3 (.lst [V.bl (decide (10 = k)), .bl (decide (11 = k))])) m3 = _ := upd_same
    have f3 := e2.keep u3
    generalize upd H2 m3 (.lst [V.bl (decide (10 = k)), .bl (decide (11 = k))]) = J3 at *
    refine ⟨l2, m3, [V.bl (decide (0 = k)), .bl (decide (1 = k)), .bl (decide (2 = k)), .bl (decide (3 = k)), .bl (decide (4 = k)), .bl (decide (5 = k)), .bl (decide (6 = k)), .bl (decide (7 = k)), .bl (decide (8 = k)), .bl (decide (9 = k))], [V.bl (decide (10 = k)), .bl (decide (11 = k))], rfl, rfl, y3, x3, (by show 12 ≤ sizeLine; decide), fun l3 h3 => ?_⟩
    have v3 := same_upd (o := .lst ([V.bl (decide (0 = k)), .bl (decide (1 = k)), .bl (decide (2 = k)), .bl (decide (3 = k)), .bl (decide (4 = k)), .bl (decide (5 = k)), .bl (decide (6 = k)), .bl (decide (7 = k)), .bl (decide (8 = k)), .bl (decide (9 = k))] ++ [V.bl (decide (10 = k)), .bl (decide (11 = k))])) h3
    exact q l3 _ upd_same (v0.trans (u1.trans (v1.trans (u2.trans (v2.trans (u3.trans v3))))))
theorem look1 {f : Str} {v : V} : ([(f, v)] : List (Str × V)).lookup f = some v := by simp [List.lookup]
theorem look2 {f g : Str} {v u : V} : ([(g, u), (f, v)] : List (Str × V)).lookup g = some u := by simp [List.lookup]
theorem look3 {f g : Str} {v u : V} (h : (f == g) = false) : ([(g, u), (f, v)] : List (Str × V)).lookup f = some v := by simp [List.lookup, h]
structure RowAt (H : Hp) (r : Addr) (es : List Addr) (l : List (Addr × List (Str × V))) : Prop where
  hr : H r = some (.lst (es.map V.ref))
  all : All2 (ErrIs H) es l
theorem RowAt.keep {H H' : Hp} {r : Addr} {es : List Addr} {l : List (Addr × List (Str × V))} (s : Same H H') (R : RowAt H r es l) : RowAt H' r es l := ⟨s _ _ R.hr, R.all.imp fun _ _ q => q.keep s⟩
theorem All2.back {α β : Type} {R : α → β → Prop} : ∀ {as : List α} {bs : List β} {i : Nat} {b : β}, All2 R as bs → bs[i]? = some b → ∃ a, as[i]? = some a ∧ R a b
  | _, _, _, _, .nil, h => by simp at h
  | _, _, 0, _, .cons r _, h => by simp at h; subst h; exact ⟨_, rfl, r⟩
  | _, _, i + 1, _, .cons _ t, h => by
    obtain ⟨b, h1, h2⟩ := All2.back (i := i) t (by simpa using h)
    exact ⟨b, by simpa using h1, h2⟩
theorem RowAt.get {H : Hp} {r C : Addr} {es : List Addr} {l : List (Addr × List (Str × V))} {fs : List (Str × V)} (R : RowAt H r es l) (i : Nat) (h : l[i]? = some (C, fs)) (ne : fs ≠ []) : ∃ e a, (es.map V.ref)[i]? = some (V.ref e) ∧ HasErr H e C (some a) fs := by
  obtain ⟨e, h1, d, h2, h3⟩ := R.all.back h
  cases d with
  | none => exact absurd rfl (h3 ne)
  | some a => exact ⟨e, a, by rw [List.getElem?_map, h1]; rfl, h2⟩
theorem scFields : FnScope ["_law_row", "_law_first"] ["_law_row"] (defScope sFields) := ⟨rfl, rfl, rfl, by decide +kernel, rfl, by decide +kernel, by decide +kernel⟩
theorem ok_fields {f : Addr} {fd : FuncData} (F : Fun K "_law_fields" "_law_fields" sFields f fd) (T : ErrTxt P w K mg base c) : FnOk P w K mg base CX0 1 f fd ["_law_row"] (spFields c) := by
  refine F.ok scFields (fun vs H Q E h => ?_) (fun cdv A outer s H vs Q E hr h => ?_)
  · obtain ⟨r, es, a, b, rfl, _⟩ := h
    rfl
  · obtain ⟨r, es, a, b, rfl, hR, hE, q⟩ := h
    have R : RowAt H r es (ks c a b) := ⟨hR, hE⟩
    refine ⟨_, pss_cons (ps_set (i := 1) scFields.nd rfl (Or.inl rfl) (pe_lst (pa_cons (pe_lst (pa_cons (pe_errF (pe_ix ix_list (pv 0) pe_int (fun _ _ => rfl))) pa_nil)) (pa_cons (pe_lst (pa_cons (pe_errF (pe_ix ix_list (pv 0) pe_int (fun _ _ => rfl))) (pa_cons (pe_errF (pe_ix ix_list (pv 0) pe_int (fun _ _ => rfl))) pa_nil))) (pa_cons (pe_lst (pa_cons (pe_errF (pe_ix ix_list (pv 0) pe_int (fun _ _ => rfl))) (pa_cons (pe_errF (pe_ix ix_list (pv 0) pe_int (fun _ _ => rfl))) pa_nil))) (pa_cons (pe_lst (pa_cons (pe_errF (pe_ix ix_list (pv 0) pe_int (fun _ _ => rfl))) pa_nil)) pa_nil))))))
      (pss_cons (ps_set (i := 1) scFields.nd rfl (Or.inl rfl) (pe_op op_cat (pv 1) (pe_lst (pa_cons (pe_lst (pa_cons (pe_errF (pe_ix ix_list (pv 0) pe_int (fun _ _ => rfl))) (pa_cons (pe_errF (pe_ix ix_list (pv 0) pe_int (fun _ _ => rfl))) pa_nil))) (pa_cons (pe_lst (pa_cons (pe_errF (pe_ix ix_list (pv 0) pe_int (fun _ _ => rfl))) pa_nil)) (pa_cons (pe_lst (pa_cons (pe_errF (pe_ix ix_list (pv 0) pe_int (fun _ _ => rfl))) pa_nil)) (pa_cons (pe_lst (pa_cons (pe_errF (pe_ix ix_list (pv 0) pe_int (fun _ _ => rfl))) pa_nil)) (pa_cons (pe_lst (pa_cons (pe_errF (pe_ix ix_list (pv 0) pe_int (fun _ _ => rfl))) pa_nil)) pa_nil))))))))
      (pss_one (ps_ret (pe_op op_cat (pv 1) (pe_lst (pa_cons (pe_lst (pa_cons (pe_errF (pe_ix ix_list (pv 0) pe_int (fun _ _ => rfl))) (pa_cons (pe_errF (pe_ix ix_list (pv 0) pe_int (fun _ _ => rfl))) pa_nil))) (pa_cons (pe_lst pa_nil) (pa_cons (pe_lst pa_nil) pa_nil)))))))), ?_⟩
    obtain ⟨x00, y00, z00, w00⟩ := R.get 0 rfl (by simp)
    refine ⟨_, rfl, r, _, _, _, rfl, rfl, SqL.of R.hr, at_of (j := 0) (v := .ref x00) rfl z00, x00, _, y00, _, _, rfl, T.xf 0 (by decide), T.m0.no, w00, look1, ?_⟩
    refine ⟨(by show 1 ≤ sizeLine; decide), fun l0 hl0 => ?_⟩
    have S1 := same_upd (o := .lst [a]) hl0
    have G1 : (upd H l0 (.lst [a])) l0 = some (.lst [a]) := upd_same
    have R1 := R.keep S1
    generalize upd H l0 (.lst [a]) = H1 at *
    obtain ⟨x10, y10, z10, w10⟩ := R1.get 1 rfl (by simp)
    refine ⟨_, rfl, r, _, _, _, rfl, rfl, SqL.of R1.hr, at_of (j := 1) (v := .ref x10) rfl z10, x10, _, y10, _, _, rfl, T.xf 1 (by decide), T.m1.no, w10, (look3 (by decide +kernel)), ?_⟩
    obtain ⟨x11, y11, z11, w11⟩ := R1.get 1 rfl (by simp)
    refine ⟨_, rfl, r, _, _, _, rfl, rfl, SqL.of R1.hr, at_of (j := 1) (v := .ref x11) rfl z11, x11, _, y11, _, _, rfl, T.xf 1 (by decide), T.m1.no2, w11, look2, ?_⟩
    refine ⟨(by show 2 ≤ sizeLine; decide), fun l1 hl1 => ?_⟩
    have S2 := same_upd (o := .lst [a, b]) hl1
    have G2 : (upd H1 l1 (.lst [a, b])) l1 = some (.lst [a, b]) := upd_same
    have R2 := R1.keep S2
    generalize upd H1 l1 (.lst [a, b]) = H2 at *
    obtain ⟨x20, y20, z20, w20⟩ := R2.get 2 rfl (by simp)
    refine ⟨_, rfl, r, _, _, _, rfl, rfl, SqL.of R2.hr, at_of (j := 2) (v := .ref x20) rfl z20, x20, _, y20, _, _, rfl, T.xf 2 (by decide), T.m2.no, w20, (look3 (by decide +kernel)), ?_⟩
    obtain ⟨x21, y21, z21, w21⟩ := R2.get 2 rfl (by simp)
    refine ⟨_, rfl, r, _, _, _, rfl, rfl, SqL.of R2.hr, at_of (j := 2) (v := .ref x21) rfl z21, x21, _, y21, _, _, rfl, T.xf 2 (by decide), T.m2.no2, w21, look2, ?_⟩
    refine ⟨(by show 2 ≤ sizeLine; decide), fun l2 hl2 => ?_⟩
    have S3 := same_upd (o := .lst [a, b]) hl2
    have G3 : (upd H2 l2 (.lst [a, b])) l2 = some (.lst [a, b]) := upd_same
    have R3 := R2.keep S3
    generalize upd H2 l2 (.lst [a, b]) = H3 at *
    obtain ⟨x30, y30, z30, w30⟩ := R3.get 3 rfl (by simp)
    refine ⟨_, rfl, r, _, _, _, rfl, rfl, SqL.of R3.hr, at_of (j := 3) (v := .ref x30) rfl z30, x30, _, y30, _, _, rfl, T.xf 3 (by decide), T.m3.no, w30, look1, ?_⟩
    refine ⟨(by show 1 ≤ sizeLine; decide), fun l3 hl3 => ?_⟩
    have S4 := same_upd (o := .lst [a]) hl3
    have G4 : (upd H3 l3 (.lst [a])) l3 = some (.lst [a]) := upd_same
    have R4 := R3.keep S4
    generalize upd H3 l3 (.lst [a]) = H4 at *
    refine ⟨(by show 4 ≤ sizeLine; decide), fun p1 hp1 => ?_⟩
    have S5 := same_upd (o := .lst [V.ref l0, .ref l1, .ref l2, .ref l3]) hp1
    have G5 : (upd H4 p1 (.lst [V.ref l0, .ref l1, .ref l2, .ref l3])) p1 = some (.lst [V.ref l0, .ref l1, .ref l2, .ref l3]) := upd_same
    have R5 := R4.keep S5
    generalize upd H4 p1 (.lst [V.ref l0, .ref l1, .ref l2, .ref l3]) = H5 at *
    refine ⟨_, rfl, ?_⟩
    obtain ⟨x40, y40, z40, w40⟩ := R5.get 4 rfl (by simp)
    refine ⟨_, rfl, r, _, _, _, rfl, rfl, SqL.of R5.hr, at_of (j := 4) (v := .ref x40) rfl z40, x40, _, y40, _, _, rfl, T.xf 4 (by decide), T.m4.no, w40, (look3 (by decide +kernel)), ?_⟩
    obtain ⟨x41, y41, z41, w41⟩ := R5.get 4 rfl (by simp)
    refine ⟨_, rfl, r, _, _, _, rfl, rfl, SqL.of R5.hr, at_of (j := 4) (v := .ref x41) rfl z41, x41, _, y41, _, _, rfl, T.xf 4 (by decide), T.m4.no2, w41, look2, ?_⟩
    refine ⟨(by show 2 ≤ sizeLine; decide), fun l4 hl4 => ?_⟩
    have S6 := same_upd (o := .lst [a, b]) hl4
    have G6 : (upd H5 l4 (.lst [a, b])) l4 = some (.lst [a, b]) := upd_same
    have R6 := R5.keep S6
    generalize upd H5 l4 (.lst [a, b]) = H6 at *
    obtain ⟨x50, y50, z50, w50⟩ := R6.get 5 rfl (by simp)
    refine ⟨_, rfl, r, _, _, _, rfl, rfl, SqL.of R6.hr, at_of (j := 5) (v := .ref x50) rfl z50, x50, _, y50, _, _, rfl, T.xf 5 (by decide), T.m5.no, w50, look1, ?_⟩
    refine ⟨(by show 1 ≤ sizeLine; decide), fun l5 hl5 => ?_⟩
    have S7 := same_upd (o := .lst [a]) hl5
    have G7 : (upd H6 l5 (.lst [a])) l5 = some (.lst [a]) := upd_same
    have R7 := R6.keep S7
    generalize upd H6 l5 (.lst [a]) = H7 at *
    obtain ⟨x60, y60, z60, w60⟩ := R7.get 6 rfl (by simp)
    refine ⟨_, rfl, r, _, _, _, rfl, rfl, SqL.of R7.hr, at_of (j := 6) (v := .ref x60) rfl z60, x60, _, y60, _, _, rfl, T.xf 6 (by decide), T.m6.no, w60, look1, ?_⟩
    refine ⟨(by show 1 ≤ sizeLine; decide), fun l6 hl6 => ?_⟩
    have S8 := same_upd (o := .lst [a]) hl6
    have G8 : (upd H7 l6 (.lst [a])) l6 = some (.lst [a]) := upd_same
    have R8 := R7.keep S8
    generalize upd H7 l6 (.lst [a]) = H8 at *
    obtain ⟨x70, y70, z70, w70⟩ := R8.get 7 rfl (by simp)
    refine ⟨_, rfl, r, _, _, _, rfl, rfl, SqL.of R8.hr, at_of (j := 7) (v := .ref x70) rfl z70, x70, _, y70, _, _, rfl, T.xf 7 (by decide), T.m7.no, w70, look1, ?_⟩
    refine ⟨(by show 1 ≤ sizeLine; decide), fun l7 hl7 => ?_⟩
    have S9 := same_upd (o := .lst [a]) hl7
    have G9 : (upd H8 l7 (.lst [a])) l7 = some (.lst [a]) := upd_same
    have R9 := R8.keep S9
    generalize upd H8 l7 (.lst [a]) = H9 at *
    obtain ⟨x80, y80, z80, w80⟩ := R9.get 8 rfl (by simp)
    refine ⟨_, rfl, r, _, _, _, rfl, rfl, SqL.of R9.hr, at_of (j := 8) (v := .ref x80) rfl z80, x80, _, y80, _, _, rfl, T.xf 8 (by decide), T.m8.no, w80, look1, ?_⟩
    refine ⟨(by show 1 ≤ sizeLine; decide), fun l8 hl8 => ?_⟩
    have S10 := same_upd (o := .lst [a]) hl8
    have G10 : (upd H9 l8 (.lst [a])) l8 = some (.lst [a]) := upd_same
    have R10 := R9.keep S10
    generalize upd H9 l8 (.lst [a]) = H10 at *
    refine ⟨(by show 5 ≤ sizeLine; decide), fun p2 hp2 => ?_⟩
    have S11 := same_upd (o := .lst [V.ref l4, .ref l5, .ref l6, .ref l7, .ref l8]) hp2
    have G11 : (upd H10 p2 (.lst [V.ref l4, .ref l5, .ref l6, .ref l7, .ref l8])) p2 = some (.lst [V.ref l4, .ref l5, .ref l6, .ref l7, .ref l8]) := upd_same
    have R11 := R10.keep S11
    generalize upd H10 p2 (.lst [V.ref l4, .ref l5, .ref l6, .ref l7, .ref l8]) = H11 at *
    refine ⟨p1, p2, [V.ref l0, .ref l1, .ref l2, .ref l3], [V.ref l4, .ref l5, .ref l6, .ref l7, .ref l8], rfl, rfl, (S6.trans (S7.trans (S8.trans (S9.trans (S10.trans S11))))) _ _ G5, G11, (by show 9 ≤ sizeLine; decide), fun p3 hp3 => ?_⟩
    have S12 := same_upd (o := .lst ([V.ref l0, .ref l1, .ref l2, .ref l3] ++ [V.ref l4, .ref l5, .ref l6, .ref l7, .ref l8])) hp3
    have G12 : (upd H11 p3 (.lst ([V.ref l0, .ref l1, .ref l2, .ref l3] ++ [V.ref l4, .ref l5, .ref l6, .ref l7, .ref l8]))) p3 = some (.lst ([V.ref l0, .ref l1, .ref l2, .ref l3] ++ [V.ref l4, .ref l5, .ref l6, .ref l7, .ref l8])) := upd_same
    have R12 := R11.keep S12
    generalize upd H11 p3 (.lst ([V.ref l0, .ref l1, .ref l2, .ref l3] ++ [V.ref l4, .ref l5, .ref l6, .ref l7, .ref l8])) = H12 at *
    have G3' : H12 p3 = some (.lst [V.ref l0, .ref l1, .ref l2, .ref l3, .ref l4, .ref l5, .ref l6, .ref l7, .ref l8]) := G12
    refine ⟨_, rfl, ?_⟩
    obtain ⟨x90, y90, z90, w90⟩ := R12.get 9 rfl (by simp)
    refine ⟨_, rfl, r, _, _, _, rfl, rfl, SqL.of R12.hr, at_of (j := 9) (v := .ref x90) rfl z90, x90, _, y90, _, _, rfl, T.xf 9 (by decide), T.m9.no, w90, (look3 (by decide +kernel)), ?_⟩
    obtain ⟨x91, y91, z91, w91⟩ := R12.get 9 rfl (by simp)
    refine ⟨_, rfl, r, _, _, _, rfl, rfl, SqL.of R12.hr, at_of (j := 9) (v := .ref x91) rfl z91, x91, _, y91, _, _, rfl, T.xf 9 (by decide), T.m9.no2, w91, look2, ?_⟩
    refine ⟨(by show 2 ≤ sizeLine; decide), fun l9 hl9 => ?_⟩
    have S13 := same_upd (o := .lst [a, b]) hl9
    have G13 : (upd H12 l9 (.lst [a, b])) l9 = some (.lst [a, b]) := upd_same
    have R13 := R12.keep S13
    generalize upd H12 l9 (.lst [a, b]) = H13 at *
    refine ⟨(by show 0 ≤ sizeLine; decide), fun l10 hl10 => ?_⟩
    have S14 := same_upd (o := .lst ([] : List V)) hl10
    have G14 : (upd H13 l10 (.lst ([] : List V))) l10 = some (.lst ([] : List V)) := upd_same
    have R14 := R13.keep S14
    generalize upd H13 l10 (.lst ([] : List V)) = H14 at *
    refine ⟨(by show 0 ≤ sizeLine; decide), fun l11 hl11 => ?_⟩
    have S15 := same_upd (o := .lst ([] : List V)) hl11
    have G15 : (upd H14 l11 (.lst ([] : List V))) l11 = some (.lst ([] : List V)) := upd_same
    have R15 := R14.keep S15
    generalize upd H14 l11 (.lst ([] : List V)) = H15 at *
    refine ⟨(by show 3 ≤ sizeLine; decide), fun p4 hp4 => ?_⟩
    have S16 := same_upd (o := .lst [V.ref l9, .ref l10, .ref l11]) hp4
    have G16 : (upd H15 p4 (.lst [V.ref l9, .ref l10, .ref l11])) p4 = some (.lst [V.ref l9, .ref l10, .ref l11]) := upd_same
    have R16 := R15.keep S16
    generalize upd H15 p4 (.lst [V.ref l9, .ref l10, .ref l11]) = H16 at *
    refine ⟨p3, p4, [V.ref l0, .ref l1, .ref l2, .ref l3, .ref l4, .ref l5, .ref l6, .ref l7, .ref l8], [V.ref l9, .ref l10, .ref l11], rfl, rfl, (S13.trans (S14.trans (S15.trans S16))) _ _ G3', G16, (by show 12 ≤ sizeLine; decide), fun p5 hp5 => ?_⟩
    have S17 := same_upd (o := .lst ([V.ref l0, .ref l1, .ref l2, .ref l3, .ref l4, .ref l5, .ref l6, .ref l7, .ref l8] ++ [V.ref l9, .ref l10, .ref l11])) hp5
    refine q p5 [l0, l1, l2, l3, l4, l5, l6, l7, l8, l9, l10, l11] _ ?_ upd_same ((S1.trans (S2.trans (S3.trans (S4.trans (S5.trans (S6.trans (S7.trans (S8.trans (S9.trans (S10.trans (S11.trans (S12.trans (S13.trans (S14.trans (S15.trans (S16.trans S17)))))))))))))))))
    exact (.cons ((S2.trans (S3.trans (S4.trans (S5.trans (S6.trans (S7.trans (S8.trans (S9.trans (S10.trans (S11.trans (S12.trans (S13.trans (S14.trans (S15.trans (S16.trans S17))))))))))))))) _ _ G1) (.cons ((S3.trans (S4.trans (S5.trans (S6.trans (S7.trans (S8.trans (S9.trans (S10.trans (S11.trans (S12.trans (S13.trans (S14.trans (S15.trans (S16.trans S17)))))))))))))) _ _ G2) (.cons ((S4.trans (S5.trans (S6.trans (S7.trans (S8.trans (S9.trans (S10.trans (S11.trans (S12.trans (S13.trans (S14.trans (S15.trans (S16.trans S17))))))))))))) _ _ G3) (.cons ((S5.trans (S6.trans (S7.trans (S8.trans (S9.trans (S10.trans (S11.trans (S12.trans (S13.trans (S14.trans (S15.trans (S16.trans S17)))))))))))) _ _ G4) (.cons ((S7.trans (S8.trans (S9.trans (S10.trans (S11.trans (S12.trans (S13.trans (S14.trans (S15.trans (S16.trans S17)))))))))) _ _ G6) (.cons ((S8.trans (S9.trans (S10.trans (S11.trans (S12.trans (S13.trans (S14.trans (S15.trans (S16.trans S17))))))))) _ _ G7) (.cons ((S9.trans (S10.trans (S11.trans (S12.trans (S13.trans (S14.trans (S15.trans (S16.trans S17)))))))) _ _ G8) (.cons ((S10.trans (S11.trans (S12.trans (S13.trans (S14.trans (S15.trans (S16.trans S17))))))) _ _ G9) (.cons ((S11.trans (S12.trans (S13.trans (S14.trans (S15.trans (S16.trans S17)))))) _ _ G10) (.cons ((S14.trans (S15.trans (S16.trans S17))) _ _ G13) (.cons ((S15.trans (S16.trans S17)) _ _ G14) (.cons ((S16.trans S17) _ _ G15) .nil))))))))))))
end
end K00

set_option maxRecDepth 100000
set_option maxHeartbeats 8000000
/-! The law. -/
namespace K00
open PySem L2
abbrev sLaw : Stmt := top 22
theorem _root_.L2.Gv.but {H H' : Hp} {p c : Addr} {ns : List Int} {m : Nat} {v : V} {d : PyData} (g : Gv H v d) (D : PenAt H p c ns m) (k : But p H H') : Gv H' v d := by
  obtain ⟨⟨_, _, _, _, hp, _⟩, _⟩ := D
  cases g with
  | non => exact .non
  | bl b => exact .bl b
  | int i h => exact .int i h
  | str x h c => exact .str x h c
  | tup i h e => exact .tup i h (k _ _ e (ne_of e hp (by intro z; cases z)))
  | lst i h e => exact .lst i h (k _ _ e (ne_of e hp (by intro z; cases z)))
  | dic i h e => exact .dic i h (k _ _ e (ne_of e hp (by
      intro z
      have q : ([(.inr "a", .int i)] : List (Key × V)) = pk _ _ _ _ _ := HO.dK.inj z
      have l := congrArg List.length q
      cases l)))
theorem _root_.L2.Gv.app {H : Hp} {g : Addr} {xs ys : List V} {v : V} {d : PyData} (q : Gv H v d) (hg : H g = some (.lst xs)) (hx : xs.length ≤ 1) : Gv (upd H g (.lst ys)) v d := by
  cases q with
  | non => exact .non
  | bl b => exact .bl b
  | int i h => exact .int i h
  | str x h c => exact .str x h c
  | tup i h e => exact .tup i h (by rw [upd_ne (ne_of e hg (by intro z; cases z))]; exact e)
  | lst i h e => exact .lst i h (by
      rw [upd_ne (ne_of e hg (by
        intro z
        have l := congrArg List.length (HO.lst.inj z)
        have l2 : 2 = xs.length := l
        omega))]
      exact e)
  | dic i h e => exact .dic i h (by rw [upd_ne (ne_of e hg (by intro z; cases z))]; exact e)
theorem _root_.L2.GvAll.map {H H' : Hp} : ∀ {vs : List V} {ds : List PyData}, GvAll H vs ds → (∀ v d, Gv H v d → Gv H' v d) → GvAll H' vs ds
  | _, _, .nil, _ => .nil
  | _, _, .cons g gs, f => .cons (f _ _ g) (L2.GvAll.map gs f)
theorem _root_.L2.GvAll.snoc {H : Hp} {v : V} {d : PyData} (g : Gv H v d) : ∀ {vs : List V} {ds : List PyData}, GvAll H vs ds → GvAll H (vs ++ [v]) (ds ++ [d])
  | _, _, .nil => .cons g .nil
  | _, _, .cons h hs => .cons h (L2.GvAll.snoc g hs)
theorem _root_.L2.GvAll.take {H : Hp} : ∀ {vs : List V} {ds : List PyData} (n : Nat), GvAll H vs ds → GvAll H (vs.take n) (ds.take n)
  | _, _, 0, _ => by simp; exact .nil
  | _, _, n + 1, .nil => .nil
  | _, _, n + 1, .cons g gs => .cons g (L2.GvAll.take n gs)
theorem code_small (x : String) : ∀ n ∈ (Str.ofString x).cps.toList, n < 16 ^ 8 := by
  intro n hn
  rw [Str.ofString_eq_toList] at hn
  simp at hn
  obtain ⟨c, _, rfl⟩ := hn
  exact c.val.toNat_lt
theorem xnum_codes (i : Int) : ∀ n ∈ (("x" : Str) ++ Str.ofString (toString i)).cps.toList, n < 16 ^ 8 := by
  intro n hn
  have e : (("x" : Str) ++ Str.ofString (toString i)).cps.toList = (Str.ofString "x").cps.toList ++ (Str.ofString (toString i)).cps.toList := by
    show ((Str.ofString "x").cps ++ (Str.ofString (toString i)).cps).toList = _
    rw [Array.toList_append]
  rw [e] at hn
  rcases List.mem_append.mp hn with h | h
  · exact code_small _ _ h
  · exact code_small _ _ h
def manys : List Int := [1, 2, 2, 1, 2, 1, 1, 1, 1, 2, 0, 0]
theorem cut_ok {a b : V} {i : Nat} {vs : List V} {m : Int} (h : (fvs a b)[i]? = some vs) (hm : manys[i]? = some m) : vs = [a, b].take m.toNat ∧ cutV [a, b] none (some m) = [a, b].take m.toNat := by
  have hi : i < 12 := by
    have z := (List.getElem?_eq_some_iff.mp hm).1
    exact z
  have q : i = 0 ∨ i = 1 ∨ i = 2 ∨ i = 3 ∨ i = 4 ∨ i = 5 ∨ i = 6 ∨ i = 7 ∨ i = 8 ∨ i = 9 ∨ i = 10 ∨ i = 11 := by omega
  rcases q with rfl | rfl | rfl | rfl | rfl | rfl | rfl | rfl | rfl | rfl | rfl | rfl <;> (cases Option.some.inj h; cases Option.some.inj hm; exact ⟨rfl, rfl⟩)
theorem dp_bools (K : PySem.W.Frag) (H : Hp) (f : Nat → Bool) : ∀ {l : List Nat}, DpAll K H (l.map fun m => V.bl (f m)) (l.map fun m => PyData.bool (f m))
  | [] => .nil
  | m :: l => .cons (.bl (f m)) (dp_bools K H f)
theorem bools_lay (f : Nat → Bool) : ∀ l : List Nat, PyData.canLayAll0 (l.map fun m => PyData.bool (f m)) = true
  | [] => rfl
  | m :: l => by simp [PyData.canLayAll0, PyData.canLay0, bools_lay f l]
theorem bools_deep (f : Nat → Bool) : ∀ l : List Nat, PyData.depthAll (l.map fun m => PyData.bool (f m)) = 0
  | [] => rfl
  | m :: l => by simp [PyData.depthAll, PyData.depth, bools_deep f l]
theorem bools_can (f : Nat → Bool) (l : List Nat) : (PyData.list (l.map fun m => PyData.bool (f m))).canLay0 = true := by
  simp only [PyData.canLay0]
  exact bools_lay f l
theorem bools_shaped (f : Nat → Bool) (l : List Nat) : SeqAt.shaped (.list (l.map fun m => PyData.bool (f m))) = true := by
  unfold SeqAt.shaped
  rw [bools_can, PyData.depth, bools_deep]
  rfl
theorem ks_c {c : Nat → Addr} {a b : V} {i : Nat} {k : Addr × List (Str × V)} (hi : i < 12) (h : (ks c a b)[i]? = some k) : k.1 = c i := by
  have q : i = 0 ∨ i = 1 ∨ i = 2 ∨ i = 3 ∨ i = 4 ∨ i = 5 ∨ i = 6 ∨ i = 7 ∨ i = 8 ∨ i = 9 ∨ i = 10 ∨ i = 11 := by omega
  rcases q with rfl | rfl | rfl | rfl | rfl | rfl | rfl | rfl | rfl | rfl | rfl | rfl <;> (cases Option.some.inj h; rfl)
structure LawTxt (P : Program) (w : World) (K : PySem.W.Frag) (mg : Str → Option Value) (base : Heap) (c : Nat → Addr) (L : Addr) : Prop where
  er : ErrTxt P w K mg base c
  gL : mg "LookError" = some (.ref L)
  kL : ∀ i, i < 12 → PySem.W.kitOne K (.ref (c i)) (.ref L) = some true
  kV : ∀ i, i < 12 → PySem.W.kitOne K (.ref (c i)) (.type "ValueError") = some true
  ve : mg "ValueError" = none
  str : mg "str" = none
  enum : mg "enumerate" = none
  zip : mg "zip" = none
  repr : mg "repr" = none
  len : mg "len" = none
  range : mg "range" = none
def spLaw (K : PySem.W.Frag) : Sp := fun vs H Q _ => ∃ (a : Addr) (ns : List Int), vs = [.ref a] ∧ SqL K H a (ns.map V.int) ∧ ns.length ≤ 63 ∧ ∀ H', Q (.bl true) H'
abbrev nLaw : List Str := ["_law_script", "_law_pen_here", "_law_given", "_law_k", "_law_far_here", "_law_row", "_law_e", "_law_fields_here", "_law_many", "_law_j"]
theorem scLaw : FnScope nLaw ["_law_script"] (defScope sLaw) := ⟨rfl, rfl, rfl, by decide +kernel, rfl, by decide +kernel, by decide +kernel⟩
section
variable {P : Program} {w : World} {K : PySem.W.Frag} {mg : Str → Option Value} {base : Heap} {c : Nat → Addr} {L : Addr}
structure Call1 (P : Program) (w : World) (K : PySem.W.Frag) (mg : Str → Option Value) (base : Heap) (k : Nat) (x : Str) (ps : List Str) (sp : Sp) : Prop where
  ex : ∃ f fd, mg x = some (.ref f) ∧ PySem.W.keepIn K (.ref f) = true ∧ FnOk P w K mg base CX0 k f fd ps sp ∧ Binds K fd ps []
theorem run_law {f : Addr} {fd : FuncData} (F : Fun K "law" "law" sLaw f fd) (hb : ∀ (s : Shared) (v : Value), BindsTo s fd ⟨[v], []⟩ [("_law_script", v)]) (T : LawTxt P w K mg base c L)
    (cPen : Call1 P w K mg base 1 "_law_pen" ["_law_script"] (spPen K)) (cFar : Call1 P w K mg base 3 "_law_far" ["_law_pen_here"] (spFar K)) (cPick : Call1 P w K mg base 2 "_law_pick" ["_law_pen_here", "_law_some"] (spPick K))
    (cObj : Call1 P w K mg base 3 "_law_objects" ["_law_a", "_law_b"] (spObj c)) (cKin : Call1 P w K mg base 1 "_law_kinds" ["_law_e"] (spKinds c)) (cFld : Call1 P w K mg base 1 "_law_fields" ["_law_row"] (spFields c)) :
    RunAt P w K mg base f (spLaw K) := by
  obtain ⟨fPen, _, gPen, kPen, GPen, bPen⟩ := cPen.ex
  obtain ⟨fFar, _, gFar, kFar, GFar, bFar⟩ := cFar.ex
  obtain ⟨fPick, _, gPick, kPick, GPick, bPick⟩ := cPick.ex
  obtain ⟨fObj, _, gObj, kObj, GObj, bObj⟩ := cObj.ex
  obtain ⟨fKin, _, gKin, kKin, GKin, bKin⟩ := cKin.ex
  obtain ⟨fFld, _, gFld, kFld, GFld, bFld⟩ := cFld.ex
  refine runAt_of (k := 4) F scLaw hb ⟨rfl, by decide, by decide⟩ fun cdv s H a Q E hr h => ?_
  obtain ⟨a', ns, e, hS, hlen, k⟩ := h
  cases e
  have hu := hu_of hr
  have hr1 : Room 1 _ := hr.mono (by decide)
  have hr2 : Room 2 _ := hr.mono (by decide)
  have hr3 : Room 3 _ := hr.mono (by decide)
  have nd := scLaw.nd
  refine ⟨_, pss_cons (ps_set (i := 1) nd rfl (Or.inl rfl) (pe_call GPen hr1 rfl gPen kPen bPen .nil pass0 (pa_cons (pv 0) pa_nil)))
    (pss_cons (ps_set (i := 2) nd rfl (Or.inl rfl) (pe_lst pa_nil))
    (pss_cons (ps_for PassesOwn.never rfl (pi_range1 rfl T.range (pa_cons pe_int pa_nil)) (pg_name (i := 3) nd rfl (Or.inr rfl))
      (pss_cons (ps_set (i := 4) nd rfl (Or.inl rfl) (pe_call GFar hr3 rfl gFar kFar bFar .nil pass0 (pa_cons (pv 1) pa_nil)))
      (pss_one (ps_expr (pe_bm PySem.F.plainAttrs_list PySem.F.slot_list_append PySem.F.type_list_append mt_append (pv 2) (pa_cons
        (pe_call GPick hr2 rfl gPick kPick bPick .nil pass0 (pa_cons (pv 1) (pa_cons (pe_lst (pa_cons (pv 4) (pa_cons (pe_un un_neg (pv 4)) (pa_cons (pe_op op_add_str pe_str (pe_callTy call_str_int (by rfl) T.str (by decide +kernel) (pa_cons (pv 4) pa_nil)))
          (pa_cons pe_non (pa_cons (pe_tup (pa_cons (pv 4) (pa_cons pe_str pa_nil))) (pa_cons (pe_lst (pa_cons (pv 4) (pa_cons pe_non pa_nil))) (pa_cons pe_bl (pa_cons pe_str
          (pa_cons (pe_disp (pps_cons pe_str (pv 4) pps_nil) (by rfl) (by rfl) (fun z => by cases z) (by decide)) pa_nil)))))))))) pa_nil))) pa_nil))))))
    (pss_cons (ps_set (i := 5) nd rfl (Or.inl rfl) (pe_call GObj hr3 rfl gObj kObj bObj .nil pass0 (pa_cons (pe_ix ix_list (pv 2) pe_int (fun _ _ => rfl)) (pa_cons (pe_ix ix_list (pv 2) pe_int (fun _ _ => rfl)) pa_nil))))
    (pss_cons (ps_for PassesOwn.never rfl (pi_enum (by rfl) T.enum (pa_cons (pv 5) pa_nil)) (pg_tup rfl (pgs_cons (pg_name (i := 3) nd rfl (Or.inr rfl)) (pgs_cons (pg_name (i := 6) nd rfl (Or.inl rfl)) pgs_nil)))
      (pss_cons (ps_if (PW.pt (pw_or (pt_not (pt_val (pe_callB call_isErr (by rfl) T.er.isi (by decide +kernel) (pa_cons (pv 6) (pa_cons (pe_glob (v := .ref L) rfl T.gL rfl) pa_nil)))))
          (pw_or1 (pt_not (pt_val (pe_callB call_isErr (by rfl) T.er.isi (by decide +kernel) (pa_cons (pv 6) (pa_cons (pe_bltn (v := .ty "ValueError") (by rfl) T.ve (by decide +kernel) rfl) pa_nil))))))))
        (pss_one (ps_ret pe_bl)) pss_nil)
      (pss_one (ps_if (pt_cmpR (op_neD hr.units) (pe_call GKin hr1 rfl gKin kKin bKin .nil pass0 (pa_cons (pv 6) pa_nil))
          (pe_lc (own := [("_law_j", 9)]) (g := gName 9) (tt := tYes) rfl nd (pi_range1 rfl T.range (pa_cons (pe_callB call_len (by rfl) T.len PySem.boot_len (pa_cons (pv 5) pa_nil)) pa_nil)) (blkOk_by (N := nLaw) (sc := defScope sLaw) (by decide +kernel))
            (fun _ _ _ _ _ => pg_name (i := 9) nd rfl (Or.inl rfl)) (fun _ _ _ _ _ => pts_nil) (fun _ _ _ _ _ => pe_cmpR op_eq (pv 9) (pv 3) (nomark _))) (nomark _))
        (pss_one (ps_ret pe_bl)) pss_nil))))
    (pss_cons (ps_for PassesOwn.never rfl (pi_zip (by rfl) T.zip (pa_cons (pe_call GFld hr1 rfl gFld kFld bFld .nil pass0 (pa_cons (pv 5) pa_nil)) (pa_cons (pe_lst (pa_cons pe_int (pa_cons pe_int (pa_cons pe_int (pa_cons pe_int (pa_cons pe_int (pa_cons pe_int
        (pa_cons pe_int (pa_cons pe_int (pa_cons pe_int (pa_cons pe_int (pa_cons pe_int (pa_cons pe_int pa_nil))))))))))))) pa_nil)))
        (pg_tup rfl (pgs_cons (pg_name (i := 7) nd rfl (Or.inl rfl)) (pgs_cons (pg_name (i := 8) nd rfl (Or.inl rfl)) pgs_nil)))
      (pss_one (ps_if (pt_cmpR op_ne (pe_callB (call_reprL rfl hr.units) (by rfl) T.repr PyProof.Rows.boot_repr (pa_cons (pv 7) pa_nil))
          (pe_callB (call_reprL rfl hr.units) (by rfl) T.repr PyProof.Rows.boot_repr (pa_cons (pe_slice sl_list (pv 2) po_none (po_some (pv 8))) pa_nil)) (nomark _))
        (pss_one (ps_ret pe_bl)) pss_nil)))
    (pss_one (ps_ret pe_bl))))))), ?_⟩
  -- pen = _law_pen(script)
  refine ⟨_, rfl, a, ns, rfl, hS, hlen, fun p cc H1 D1 S1 n1 => ?_⟩
  -- given = []
  refine ⟨(by show 0 ≤ sizeLine; decide), fun g hg => ?_⟩
  have ncg : cc ≠ g := ne_of_none D1.ls hg
  have D2 : PenAt (upd H1 g (.lst [])) p cc ns 0 := D1.keep (same_upd hg)
  have G2 : (upd H1 g (.lst [])) g = some (.lst []) := upd_same
  generalize upd H1 g (.lst []) = H2 at *
  -- for k in range(2)
  refine ⟨_, rfl, by decide, by decide, for_range (lo := 0) (n := 2) (fun i σ H => ∃ (gs : List V) (ds : List PyData) (v3 v4 : Option V), σ = [some (.ref a), some (.ref p), some (.ref g), v3, v4, none, none, none, none, none] ∧
      PenAt H p cc ns (9 * i) ∧ H g = some (.lst gs) ∧ gs.length = i ∧ GvAll H gs ds) ⟨[], [], none, none, rfl, D2, G2, rfl, .nil⟩ ?_ ?_⟩
  · rintro i σ H hi ⟨gs, ds, v3, v4, rfl, D, hG, hl, hA⟩
    refine ⟨_, rfl, p, cc, ns, _, rfl, D, hlen, by omega, fun far H3 bf D3 kb3 => ?_⟩
    have lf := small_log bf
    have ngp : g ≠ p := by
      obtain ⟨⟨_, _, _, _, q, _⟩, _⟩ := D
      exact ne_of hG q (by intro z; cases z)
    have hG3 := kb3 _ _ hG ngp
    have hA3 := hA.map fun v d q => q.but D kb3
    -- the nine things
    refine ⟨_, rfl, .inl ⟨rfl, _, SqL.of hG3⟩, _, rfl, _, rfl, _, rfl, _, rfl, _, rfl, _, rfl, lf, _, _, rfl, rfl, ?_, ?_⟩
    · show ("x" : Str).length + (Str.ofString (toString far)).length ≤ sizeLine
      have z1 := int_len bf
      have z2 : ("x" : Str).length = 1 := len1 "x" 1
      rw [sizeLine_eq]
      omega
    refine ⟨_, rfl, (by show 2 ≤ sizeLine; decide), fun t1 h1 => ?_⟩
    refine ⟨_, rfl, (by show 2 ≤ sizeLine; decide), fun t2 h2 => ?_⟩
    intro t3 h3
    refine ⟨_, rfl, upd_same, [(.inr "a", .int far)], rfl, (by show 1 ≤ 15; decide), ?_⟩
    have u1 := same_upd (o := .tup [.int far, .str "a"]) h1
    have x1 : (upd H3 t1 (.tup [.int far, .str "a"])) t1 = some (.tup [.int far, .str "a"]) := upd_same
    generalize upd H3 t1 (.tup [.int far, .str "a"]) = H4 at *
    have u2 := same_upd (o := .lst [.int far, .non]) h2
    have x2 : (upd H4 t2 (.lst [.int far, .non])) t2 = some (.lst [.int far, .non]) := upd_same
    generalize upd H4 t2 (.lst [.int far, .non]) = H5 at *
    have em : mergeK [] [((.inr "a" : Key), V.int far)] = [(.inr "a", .int far)] := rfl
    rw [em]
    have u3 : Same H5 (upd (upd H5 t3 (.dK [])) t3 (.dK [(.inr "a", .int far)])) := fun b o q => by
      rw [upd_ne (ne_of_none q h3), upd_ne (ne_of_none q h3)]
      exact q
    have x3 : (upd (upd H5 t3 (.dK [])) t3 (.dK [(.inr "a", .int far)])) t3 = some (.dK [(.inr "a", .int far)]) := upd_same
    generalize upd (upd H5 t3 (.dK [])) t3 (.dK [(.inr "a", .int far)]) = H6 at *
    refine ⟨(by show 9 ≤ sizeLine; decide), fun l h4 => ?_⟩
    refine ⟨p, cc, l, ns, _, _, rfl, ((D3.keep u1).keep (u2.trans u3)).keep (same_upd h4), hlen, by omega, upd_same, (by simp), (by show 9 < 1000; decide), fun v H7 hv D7 kb7 => ?_⟩
    have D6 : PenAt H6 p cc ns (9 * i + 8) := (D3.keep u1).keep (u2.trans u3)
    have kb6 : But p H6 H7 := fun b o q n => kb7 b o (same_upd h4 b o q) n
    obtain ⟨d, hd⟩ : ∃ d, Gv H6 v d := by
      simp only [List.mem_cons, List.not_mem_nil, or_false] at hv
      rcases hv with rfl | rfl | rfl | rfl | rfl | rfl | rfl | rfl | rfl
      · exact ⟨_, .int _ bf⟩
      · exact ⟨_, .int _ (by omega)⟩
      · refine ⟨_, .str _ ?_ (xnum_codes far)⟩
        rw [strLen_append]
        have z1 := int_len bf
        have z2 : ("x" : Str).length = 1 := len1 "x" 1
        omega
      · exact ⟨_, .non⟩
      · exact ⟨_, .tup far bf ((u2.trans u3) _ _ x1)⟩
      · exact ⟨_, .lst far bf (u3 _ _ x2)⟩
      · exact ⟨_, .bl _⟩
      · exact ⟨_, .str _ (by decide +kernel) (code_small "")⟩
      · exact ⟨_, .dic far bf x3⟩
    have hG7 := kb6 _ _ ((u1.trans (u2.trans u3)) _ _ hG3) ngp
    have hA7 := (hA3.map fun v d q => q.keep (u1.trans (u2.trans u3))).map fun v d q => q.but D6 kb6
    refine ⟨g, gs, v, rfl, rfl, hG7, (by rw [sizeLine_eq]; omega), ?_⟩
    have D8 : PenAt (upd H7 g (.lst (gs ++ [v]))) p cc ns (9 * (i + 1)) := by
      obtain ⟨⟨a0, d0, n0, f0, q, r⟩, l0⟩ := D7.mono (by omega : 9 * i + 8 + 1 ≤ 9 * (i + 1))
      exact ⟨⟨a0, d0, n0, f0, by rw [upd_ne ngp.symm]; exact q, r⟩, by rw [upd_ne ncg]; exact l0⟩
    refine ⟨gs ++ [v], ds ++ [d], _, _, rfl, D8, upd_same, by rw [List.length_append, hl]; rfl, ?_⟩
    exact (L2.GvAll.snoc (hd.but D6 kb6) hA7).map fun v d q => q.app hG7 (by omega)
  · rintro σ H ⟨gs, ds, v3, v4, rfl, _, hG, hl, hA⟩
    obtain ⟨v0, v1, d0, d1, rfl, rfl⟩ : ∃ v0 v1 d0 d1, gs = [v0, v1] ∧ ds = [d0, d1] := by
      cases hA with
      | nil => cases hl
      | cons q0 hA =>
        cases hA with
        | nil => cases hl
        | cons q1 hA =>
          cases hA with
          | nil => exact ⟨_, _, _, _, rfl, rfl⟩
          | cons _ _ => simp at hl
    -- row = _law_objects(given[0], given[1])
    refine ⟨_, rfl, g, _, _, _, rfl, rfl, SqL.of hG, at_of (j := 0) (v := v0) rfl rfl, _, rfl, g, _, _, _, rfl, rfl, SqL.of hG, at_of (j := 1) (v := v1) rfl rfl, v0, v1, rfl, fun r es H2 hE hR S2 => ?_⟩
    have hG2 := S2 _ _ hG
    have hA2 := hA.map fun v d q => q.keep S2
    have R2 : RowAt H2 r es (ks c v0 v1) := ⟨hR, hE⟩
    have eslen : es.length = 12 := hE.len
    -- for k, e in enumerate(row)
    refine ⟨_, rfl, r, _, rfl, SqL.of hR, for_it (walk_enum (K := K) (a := r) (xs := es.map V.ref)) (fun i σ H => ∃ w3 w6 : Option V, σ = [some (.ref a), some (.ref p), some (.ref g), w3, v4, some (.ref r), w6, none, none, none] ∧
        RowAt H r es (ks c v0 v1) ∧ H g = some (.lst [v0, v1]) ∧ GvAll H [v0, v1] [d0, d1]) ⟨v3, none, rfl, R2, hG2, hA2⟩ (fun i σ H _ ⟨_, _, _, R, _⟩ => SqL.of R.hr) ?_ ?_⟩
    · rintro i x σ H H' hi ⟨w3, w6, rfl, R, hGi, hAi⟩ ⟨t, x1, x2, rfl, ht, rfl, e1, e2⟩
      cases e1
      have hi' : i < 12 := by rw [List.length_map, eslen] at hi; exact hi
      obtain ⟨e, he, rfl⟩ : ∃ e, es[i]? = some e ∧ x2 = V.ref e := by
        have e3 : (es.map V.ref)[i]? = some x2 := e2
        rw [List.getElem?_map] at e3
        cases q : es[i]? with
        | none => rw [q] at e3; cases e3
        | some e => rw [q] at e3; exact ⟨e, rfl, (Option.some.inj e3).symm⟩
      have S3 : Same H (upd H t (.tup [.int (i : Nat), .ref e])) := same_upd ht
      have R3 := R.keep S3
      have hG3 := S3 _ _ hGi
      have hA3 := hAi.map fun v d q => q.keep S3
      refine ⟨t, _, rfl, SqT.of upd_same, rfl, _, _, rfl, _, _, rfl, rfl, ?_⟩
      generalize upd H t (.tup [.int (i : Nat), .ref e]) = H3 at *
      obtain ⟨kx, hk, d, hEr, _⟩ := R3.all.at_ he
      have hkc : kx.1 = c i := ks_c hi' hk
      rw [hkc] at hEr
      -- isinstance(e, LookError), isinstance(e, ValueError)
      refine ⟨_, rfl, e, c i, d, kx.2, _, _, _, rfl, .own _, T.er.ec i hi', hEr, T.kL i hi', _, rfl, ?_⟩
      refine iteF ?_
      refine ⟨_, rfl, e, c i, d, kx.2, _, _, _, rfl, .ty _, T.er.ec i hi', hEr, T.kV i hi', _, rfl, ?_⟩
      refine iteF ?_
      -- _law_kinds(e)
      refine ⟨_, rfl, e, i, d, kx.2, rfl, hi', hEr, fun r4 H4 hr4 S4 => ?_⟩
      have R4 := R3.keep S4
      have hG4 := S4 _ _ hG3
      have hA4 := hA3.map fun v d q => q.keep S4
      refine ⟨_, rfl, _, 12, rfl, .inl ⟨_, SqL.of R4.hr, by rw [List.length_map, eslen]⟩, _, rfl, by decide, by decide, fun z hz => lc_range (lo := 0) (n := 12) (fun j H => H z = some (.lst ((List.range j).map fun m => V.bl (decide (m = i)))) ∧ Same H4 H) ⟨upd_same, same_upd hz⟩ ?_ ?_⟩
      · intro j H5 hj ⟨hz5, S5⟩
        refine ⟨rfl, ?_⟩
        refine ⟨_, rfl, _, rfl, rfl, _, hz5, ?_, ?_, fun b o q => ?_⟩
        · rw [List.length_map, List.length_range, sizeLine_eq]
          omega
        · have ej : decide (V.int (0 + (j : Int)) = V.int (i : Int)) = decide (j = i) := by
            by_cases q : j = i
            · subst q
              simp
            · have q2 : ¬ V.int (0 + (j : Int)) = V.int (i : Int) := fun z => q (by
                have z2 := V.int.inj z
                omega)
              rw [decide_eq_false q, decide_eq_false q2]
          rw [ej, List.range_succ, List.map_append]
          exact upd_same
        · rw [upd_ne (ne_of_none q hz)]
          exact S5 _ _ q
      · intro H5 ⟨hz5, S5⟩
        have hr5 := S5 _ _ hr4
        refine ⟨_, _, .lst (SqL.of hr5) (dp_bools _ _ fun m => decide (m = i)), .lst (SqL.of hz5) (dp_bools _ _ fun m => decide (m = i)), bools_shaped _ _, bools_shaped _ _, _, rfl, ?_⟩
        rw [SeqAt.eqv_refl _ (bools_can _ _)]
        refine iteF ?_
        exact ⟨_, _, rfl, R4.keep S5, S5 _ _ hG4, hA4.map fun v d q => q.keep S5⟩
    · rintro σ H ⟨w3, w6, rfl, R, hGi, hAi⟩
      refine ⟨_, rfl, r, es, v0, v1, rfl, R.hr, R.all, fun r4 ls H4 hL hr4 S4 => ?_⟩
      refine ⟨(by show 12 ≤ sizeLine; decide), fun z hz => ?_⟩
      have hL5 := hL.imp fun l vs q => same_upd (o := .lst (manys.map V.int)) hz l (.lst vs) q
      have hr5 := same_upd (o := .lst (manys.map V.int)) hz _ _ hr4
      have hz5 : (upd H4 z (.lst (manys.map V.int))) z = some (.lst (manys.map V.int)) := upd_same
      have S5 : Same H4 (upd H4 z (.lst (manys.map V.int))) := same_upd hz
      have lsl : ls.length = 12 := hL.len
      refine ⟨r4, z, _, manys.map V.int, rfl, SqL.of hr5, SqL.of hz5, RZ.for_zipL (K := K) (a := r4) (b := z) (xs := ls.map V.ref) (ys := manys.map V.int) (by rw [List.length_map, lsl]; rfl) (fun i σ H => ∃ w3 w6 w7 w8 : Option V,
          σ = [some (.ref a), some (.ref p), some (.ref g), w3, v4, some (.ref r), w6, w7, w8, none] ∧ H r4 = some (.lst (ls.map V.ref)) ∧ H z = some (.lst (manys.map V.int)) ∧ All2 (fun l vs => H l = some (.lst vs)) ls (fvs v0 v1) ∧
          H g = some (.lst [v0, v1]) ∧ GvAll H [v0, v1] [d0, d1])
        ⟨w3, w6, none, none, rfl, hr5, hz5, hL5, S5 _ _ (S4 _ _ hGi), hAi.map fun v d q => (q.keep S4).keep S5⟩ (fun i σ H ⟨_, _, _, _, _, q1, q2, _⟩ => ⟨SqL.of q1, SqL.of q2⟩) ?_ ?_⟩
      · rintro i x y t σ H hx hy ⟨w3, w6, w7, w8, rfl, hr6, hz6, hL6, hG6, hA6⟩ ht
        obtain ⟨l, hl, rfl⟩ : ∃ l, ls[i]? = some l ∧ x = V.ref l := by
          rw [List.getElem?_map] at hx
          cases q : ls[i]? with
          | none => rw [q] at hx; cases hx
          | some l => rw [q] at hx; exact ⟨l, rfl, (Option.some.inj hx).symm⟩
        obtain ⟨m, hm, rfl⟩ : ∃ m, manys[i]? = some m ∧ y = V.int m := by
          rw [List.getElem?_map] at hy
          cases q : manys[i]? with
          | none => rw [q] at hy; cases hy
          | some m => rw [q] at hy; exact ⟨m, rfl, (Option.some.inj hy).symm⟩
        have S7 : Same H (upd H t (.tup [.ref l, .int m])) := same_upd ht
        have hr7 := S7 _ _ hr6
        have hz7 := S7 _ _ hz6
        have hL7 := hL6.imp fun l vs q => S7 l (.lst vs) q
        have hG7 := S7 _ _ hG6
        have hA7 := hA6.map fun v d q => q.keep S7
        refine ⟨t, _, rfl, SqT.of upd_same, rfl, _, _, rfl, _, _, rfl, rfl, ?_⟩
        generalize upd H t (.tup [.ref l, .int m]) = H7 at *
        obtain ⟨vs, hv, hlv⟩ := hL7.at_ hl
        obtain ⟨ev, ec⟩ := cut_ok hv hm
        have hT := L2.GvAll.take m.toNat hA7
        rw [← ev] at hT
        have hle : vs.length ≤ 2 := by rw [ev, List.length_take]; exact Nat.min_le_right ..
        refine ⟨_, rfl, l, vs, _, rfl, hlv, hT, hle, _, rfl, _, rfl, m, rfl, g, _, rfl, SqL.of hG7, fun u hu => ?_⟩
        have S8 : Same H7 (upd H7 u (.lst (cutV [v0, v1] none (some m)))) := same_upd hu
        have hA8 := hA7.map fun v d q => q.keep S8
        have hT8 := hT.map fun v d q => q.keep S8
        have ecv : cutV [v0, v1] none (some m) = vs := ec.trans ev.symm
        refine ⟨u, vs, _, rfl, (by rw [upd_same, ecv]), hT8, hle, rfl, _, rfl, ?_⟩
        refine iteNS rfl ?_
        exact ⟨_, _, _, _, rfl, S8 _ _ hr7, S8 _ _ hz7, hL7.imp fun l vs q => S8 l (.lst vs) q, S8 _ _ hG7, hA8⟩
      · rintro σ H ⟨w3, w6, w7, w8, rfl, _⟩
        exact k H
end
end K00

set_option maxRecDepth 100000
set_option maxHeartbeats 8000000
/-! What the top has written, and the row. -/
namespace K00
open PySem L2
def ecB (K : PySem.W.Frag) (D : Addr) : Bool :=
  decide (PySem.W.findIn K (.ref D) "__getattribute__" = some (some (.builtin "BaseException.__getattribute__"))) && (decide (PySem.W.findIn K (.ref D) "__getattr__" = some none) && (decide (PySem.W.subIn K (.ref D) (.type "BaseException") = some true) &&
    (PySem.W.hasDictIn K D && (decide (PySem.W.findIn K (.ref D) "__class__" = some (some (.builtin "object.__class__"))) && (decide (PySem.W.specialIn K (.builtin "object.__class__") "__get__" = some (some (.builtin "getset_descriptor.__get__"))) &&
      (decide (PySem.W.takesIn K (.builtin "object.__class__") = some true) && decide (PySem.W.mroIn K D (.type "object") = some true)))))))
theorem ecB_ok {K : PySem.W.Frag} {D : Addr} (h : ecB K D = true) : ExcC K D ∧ XfC K D := by
  obtain ⟨h1, h⟩ := Bool.and_eq_true_iff.mp h
  obtain ⟨h2, h⟩ := Bool.and_eq_true_iff.mp h
  obtain ⟨h3, h⟩ := Bool.and_eq_true_iff.mp h
  obtain ⟨h4, h⟩ := Bool.and_eq_true_iff.mp h
  obtain ⟨h5, h⟩ := Bool.and_eq_true_iff.mp h
  obtain ⟨h6, h⟩ := Bool.and_eq_true_iff.mp h
  obtain ⟨h7, h8⟩ := Bool.and_eq_true_iff.mp h
  exact ⟨⟨of_decide_eq_true h1, of_decide_eq_true h2, of_decide_eq_true h3, h4, of_decide_eq_true h5, of_decide_eq_true h6, of_decide_eq_true h7, of_decide_eq_true h8⟩, of_decide_eq_true h1, of_decide_eq_true h2, of_decide_eq_true h3, h4⟩
def oxB (K : PySem.W.Frag) (C : Addr) : Bool :=
  decide (PySem.W.findIn K (.ref C) "__setattr__" = some (some (.builtin "object.__setattr__"))) && (decide (PySem.W.subIn K (.ref C) (.type "BaseException") = some true) && (decide (PySem.W.typeIn K (.ref C) = some (.type "type")) && PySem.W.keepIn K (.ref C)))
def Lk (K : PySem.W.Frag) (C : Addr) : Prop := ∃ nm q N bs bm sn sub ab col dd k0 k1 k2 k3 k5, K.lookup C = some (excClassObj nm q C N bs bm true sn sub ab col dd k0 k1 k2 k3 k5 "ValueError.__new__") ∧ PySem.HandSPX.refsVE bm = true
theorem lk_of {K : PySem.W.Frag} {C N : Addr} {nm q : Str} {bs bm sub : List Value} {sn : List Str} {ab : Bool} {col : Option Bool} {dd : Option Addr} {k0 k1 k2 k3 k5 : Option Value}
    (h : K.lookup C = some (excClassObj nm q C N bs bm true sn sub ab col dd k0 k1 k2 k3 k5 "ValueError.__new__")) (r : PySem.HandSPX.refsVE bm = true) : Lk K C := ⟨nm, q, N, bs, bm, sn, sub, ab, col, dd, k0, k1, k2, k3, k5, h, r⟩
theorem ox_of {K : PySem.W.Frag} {C : Addr} (l : Lk K C) (h : oxB K C = true) : OexC K C := by
  obtain ⟨h1, h⟩ := Bool.and_eq_true_iff.mp h
  obtain ⟨h2, h⟩ := Bool.and_eq_true_iff.mp h
  obtain ⟨h3, h4⟩ := Bool.and_eq_true_iff.mp h
  exact ⟨l, of_decide_eq_true h1, of_decide_eq_true h2, of_decide_eq_true h3, h4⟩
def cl (C0 C1 C2 C3 C4 C5 C6 C7 C8 C9 C10 C11 : Addr) : Nat → Addr := fun i => [C0, C1, C2, C3, C4, C5, C6, C7, C8, C9, C10, C11].getD i 0
def kitsB (K : PySem.W.Frag) (c : Nat → Addr) (L : Addr) : Bool :=
  (List.range 12).all fun i => decide (PySem.W.kitOne K (.ref (c i)) (.ref L) = some true) && (decide (PySem.W.kitOne K (.ref (c i)) (.type "ValueError") = some true) && (ecB K (c i) &&
    (List.range 12).all fun j => decide (PySem.W.kitOne K (.ref (c i)) (.ref (c j)) = some (decide (j = i)))))
theorem kits_ok {K : PySem.W.Frag} {c : Nat → Addr} {L : Addr} (h : kitsB K c L = true) {i : Nat} (hi : i < 12) :
    PySem.W.kitOne K (.ref (c i)) (.ref L) = some true ∧ PySem.W.kitOne K (.ref (c i)) (.type "ValueError") = some true ∧ ExcC K (c i) ∧ XfC K (c i) ∧ ∀ j, j < 12 → PySem.W.kitOne K (.ref (c i)) (.ref (c j)) = some (decide (j = i)) := by
  have q := List.all_eq_true.mp h i (List.mem_range.mpr hi)
  obtain ⟨h1, q⟩ := Bool.and_eq_true_iff.mp q
  obtain ⟨h2, q⟩ := Bool.and_eq_true_iff.mp q
  obtain ⟨h3, q⟩ := Bool.and_eq_true_iff.mp q
  exact ⟨of_decide_eq_true h1, of_decide_eq_true h2, (ecB_ok h3).1, (ecB_ok h3).2, fun j hj => of_decide_eq_true (List.all_eq_true.mp q j (List.mem_range.mpr hj))⟩
/-- a def of the text stands at f -/
def DefAt (K : PySem.W.Frag) (x qual : Str) (st : Stmt) (f : Addr) : Prop := ∃ fd, Fun K x qual st f fd
abbrev sI0 : Stmt := inClass (top 2) 0
abbrev sI1 : Stmt := inClass (top 3) 0
abbrev sI2 : Stmt := inClass (top 4) 0
abbrev sI3 : Stmt := inClass (top 5) 0
abbrev sI4 : Stmt := inClass (top 6) 0
abbrev sI5 : Stmt := inClass (top 7) 0
abbrev sI6 : Stmt := inClass (top 8) 0
abbrev sI7 : Stmt := inClass (top 9) 0
abbrev sI8 : Stmt := inClass (top 10) 0
abbrev sI9 : Stmt := inClass (top 11) 0
theorem scI0 : FnScope ["self", "column"] ["self", "column"] (defScope sI0) := ⟨rfl, rfl, rfl, by decide +kernel, rfl, by decide +kernel, by decide +kernel⟩
theorem scI1 : FnScope ["self", "line", "column"] ["self", "line", "column"] (defScope sI1) := ⟨rfl, rfl, rfl, by decide +kernel, rfl, by decide +kernel, by decide +kernel⟩
theorem scI2 : FnScope ["self", "what", "number"] ["self", "what", "number"] (defScope sI2) := ⟨rfl, rfl, rfl, by decide +kernel, rfl, by decide +kernel, by decide +kernel⟩
theorem scI3 : FnScope ["self", "row"] ["self", "row"] (defScope sI3) := ⟨rfl, rfl, rfl, by decide +kernel, rfl, by decide +kernel, by decide +kernel⟩
theorem scI4 : FnScope ["self", "low", "high"] ["self", "low", "high"] (defScope sI4) := ⟨rfl, rfl, rfl, by decide +kernel, rfl, by decide +kernel, by decide +kernel⟩
theorem scI5 : FnScope ["self", "name"] ["self", "name"] (defScope sI5) := ⟨rfl, rfl, rfl, by decide +kernel, rfl, by decide +kernel, by decide +kernel⟩
theorem scI6 : FnScope ["self", "what"] ["self", "what"] (defScope sI6) := ⟨rfl, rfl, rfl, by decide +kernel, rfl, by decide +kernel, by decide +kernel⟩
theorem scI7 : FnScope ["self", "name"] ["self", "name"] (defScope sI7) := ⟨rfl, rfl, rfl, by decide +kernel, rfl, by decide +kernel, by decide +kernel⟩
theorem scI8 : FnScope ["self", "name"] ["self", "name"] (defScope sI8) := ⟨rfl, rfl, rfl, by decide +kernel, rfl, by decide +kernel, by decide +kernel⟩
theorem scI9 : FnScope ["self", "promise", "witness"] ["self", "promise", "witness"] (defScope sI9) := ⟨rfl, rfl, rfl, by decide +kernel, rfl, by decide +kernel, by decide +kernel⟩
section
variable {P : Program} {w : World} {K : PySem.W.Frag} {mg : Str → Option Value} {base : Heap}
theorem mk0 {C f : Addr} (g : mg "BadText" = some (.ref C)) (l : Lk K C) (ox : oxB K C = true) (no : decide (PySem.W.findIn K (.ref C) "column" = some none) = true) (a : PySem.W.findIn K (.ref C) "__init__" = some (some (.ref f)))
    (t : PySem.W.typeIn K (.ref f) = some (.type "function")) (D : DefAt K "__init__" "BadText.__init__" sI0 f) : Mk1 P w K mg base "BadText" "column" C := by
  obtain ⟨fd, F⟩ := D
  have X := ox_of l ox
  exact ⟨g, X, of_decide_eq_true no, f, fd, a, t, ok_i1 F scI0 ⟨_, _, _, _, rfl⟩ rfl rfl (by decide) (by decide) X (of_decide_eq_true no), F.binds fun _ _ _ _ _ _ us hl => match us, hl with | [_, _], _ => rfl⟩
theorem mk1 {C f : Addr} (g : mg "BadLine" = some (.ref C)) (l : Lk K C) (ox : oxB K C = true) (no : (decide (PySem.W.findIn K (.ref C) "line" = some none) && decide (PySem.W.findIn K (.ref C) "column" = some none)) = true) (a : PySem.W.findIn K (.ref C) "__init__" = some (some (.ref f)))
    (t : PySem.W.typeIn K (.ref f) = some (.type "function")) (D : DefAt K "__init__" "BadLine.__init__" sI1 f) : Mk2 P w K mg base "BadLine" "line" "column" C := by
  obtain ⟨fd, F⟩ := D
  have X := ox_of l ox
  obtain ⟨n1, n2⟩ := Bool.and_eq_true_iff.mp no
  exact ⟨g, X, of_decide_eq_true n1, of_decide_eq_true n2, f, fd, a, t, ok_i2 F scI1 ⟨_, _, _, _, _, _, _, _, rfl⟩ rfl rfl (by decide) (by decide) rfl (by decide) (by decide) X (of_decide_eq_true n1) (of_decide_eq_true n2), F.binds fun _ _ _ _ _ _ us hl => match us, hl with | [_, _, _], _ => rfl⟩
theorem mk2 {C f : Addr} (g : mg "BadNumber" = some (.ref C)) (l : Lk K C) (ox : oxB K C = true) (no : (decide (PySem.W.findIn K (.ref C) "what" = some none) && decide (PySem.W.findIn K (.ref C) "number" = some none)) = true) (a : PySem.W.findIn K (.ref C) "__init__" = some (some (.ref f)))
    (t : PySem.W.typeIn K (.ref f) = some (.type "function")) (D : DefAt K "__init__" "BadNumber.__init__" sI2 f) : Mk2 P w K mg base "BadNumber" "what" "number" C := by
  obtain ⟨fd, F⟩ := D
  have X := ox_of l ox
  obtain ⟨n1, n2⟩ := Bool.and_eq_true_iff.mp no
  exact ⟨g, X, of_decide_eq_true n1, of_decide_eq_true n2, f, fd, a, t, ok_i2 F scI2 ⟨_, _, _, _, _, _, _, _, rfl⟩ rfl rfl (by decide) (by decide) rfl (by decide) (by decide) X (of_decide_eq_true n1) (of_decide_eq_true n2), F.binds fun _ _ _ _ _ _ us hl => match us, hl with | [_, _, _], _ => rfl⟩
theorem mk3 {C f : Addr} (g : mg "BadRow" = some (.ref C)) (l : Lk K C) (ox : oxB K C = true) (no : decide (PySem.W.findIn K (.ref C) "row" = some none) = true) (a : PySem.W.findIn K (.ref C) "__init__" = some (some (.ref f)))
    (t : PySem.W.typeIn K (.ref f) = some (.type "function")) (D : DefAt K "__init__" "BadRow.__init__" sI3 f) : Mk1 P w K mg base "BadRow" "row" C := by
  obtain ⟨fd, F⟩ := D
  have X := ox_of l ox
  exact ⟨g, X, of_decide_eq_true no, f, fd, a, t, ok_i1 F scI3 ⟨_, _, _, _, rfl⟩ rfl rfl (by decide) (by decide) X (of_decide_eq_true no), F.binds fun _ _ _ _ _ _ us hl => match us, hl with | [_, _], _ => rfl⟩
theorem mk4 {C f : Addr} (g : mg "BadInterval" = some (.ref C)) (l : Lk K C) (ox : oxB K C = true) (no : (decide (PySem.W.findIn K (.ref C) "low" = some none) && decide (PySem.W.findIn K (.ref C) "high" = some none)) = true) (a : PySem.W.findIn K (.ref C) "__init__" = some (some (.ref f)))
    (t : PySem.W.typeIn K (.ref f) = some (.type "function")) (D : DefAt K "__init__" "BadInterval.__init__" sI4 f) : Mk2 P w K mg base "BadInterval" "low" "high" C := by
  obtain ⟨fd, F⟩ := D
  have X := ox_of l ox
  obtain ⟨n1, n2⟩ := Bool.and_eq_true_iff.mp no
  exact ⟨g, X, of_decide_eq_true n1, of_decide_eq_true n2, f, fd, a, t, ok_i2 F scI4 ⟨_, _, _, _, _, _, _, _, rfl⟩ rfl rfl (by decide) (by decide) rfl (by decide) (by decide) X (of_decide_eq_true n1) (of_decide_eq_true n2), F.binds fun _ _ _ _ _ _ us hl => match us, hl with | [_, _, _], _ => rfl⟩
theorem mk5 {C f : Addr} (g : mg "BadName" = some (.ref C)) (l : Lk K C) (ox : oxB K C = true) (no : decide (PySem.W.findIn K (.ref C) "name" = some none) = true) (a : PySem.W.findIn K (.ref C) "__init__" = some (some (.ref f)))
    (t : PySem.W.typeIn K (.ref f) = some (.type "function")) (D : DefAt K "__init__" "BadName.__init__" sI5 f) : Mk1 P w K mg base "BadName" "name" C := by
  obtain ⟨fd, F⟩ := D
  have X := ox_of l ox
  exact ⟨g, X, of_decide_eq_true no, f, fd, a, t, ok_i1 F scI5 ⟨_, _, _, _, rfl⟩ rfl rfl (by decide) (by decide) X (of_decide_eq_true no), F.binds fun _ _ _ _ _ _ us hl => match us, hl with | [_, _], _ => rfl⟩
theorem mk6 {C f : Addr} (g : mg "Unlike" = some (.ref C)) (l : Lk K C) (ox : oxB K C = true) (no : decide (PySem.W.findIn K (.ref C) "what" = some none) = true) (a : PySem.W.findIn K (.ref C) "__init__" = some (some (.ref f)))
    (t : PySem.W.typeIn K (.ref f) = some (.type "function")) (D : DefAt K "__init__" "Unlike.__init__" sI6 f) : Mk1 P w K mg base "Unlike" "what" C := by
  obtain ⟨fd, F⟩ := D
  have X := ox_of l ox
  exact ⟨g, X, of_decide_eq_true no, f, fd, a, t, ok_i1 F scI6 ⟨_, _, _, _, rfl⟩ rfl rfl (by decide) (by decide) X (of_decide_eq_true no), F.binds fun _ _ _ _ _ _ us hl => match us, hl with | [_, _], _ => rfl⟩
theorem mk7 {C f : Addr} (g : mg "NoName" = some (.ref C)) (l : Lk K C) (ox : oxB K C = true) (no : decide (PySem.W.findIn K (.ref C) "name" = some none) = true) (a : PySem.W.findIn K (.ref C) "__init__" = some (some (.ref f)))
    (t : PySem.W.typeIn K (.ref f) = some (.type "function")) (D : DefAt K "__init__" "NoName.__init__" sI7 f) : Mk1 P w K mg base "NoName" "name" C := by
  obtain ⟨fd, F⟩ := D
  have X := ox_of l ox
  exact ⟨g, X, of_decide_eq_true no, f, fd, a, t, ok_i1 F scI7 ⟨_, _, _, _, rfl⟩ rfl rfl (by decide) (by decide) X (of_decide_eq_true no), F.binds fun _ _ _ _ _ _ us hl => match us, hl with | [_, _], _ => rfl⟩
theorem mk8 {C f : Addr} (g : mg "TakenName" = some (.ref C)) (l : Lk K C) (ox : oxB K C = true) (no : decide (PySem.W.findIn K (.ref C) "name" = some none) = true) (a : PySem.W.findIn K (.ref C) "__init__" = some (some (.ref f)))
    (t : PySem.W.typeIn K (.ref f) = some (.type "function")) (D : DefAt K "__init__" "TakenName.__init__" sI8 f) : Mk1 P w K mg base "TakenName" "name" C := by
  obtain ⟨fd, F⟩ := D
  have X := ox_of l ox
  exact ⟨g, X, of_decide_eq_true no, f, fd, a, t, ok_i1 F scI8 ⟨_, _, _, _, rfl⟩ rfl rfl (by decide) (by decide) X (of_decide_eq_true no), F.binds fun _ _ _ _ _ _ us hl => match us, hl with | [_, _], _ => rfl⟩
theorem mk9 {C f : Addr} (g : mg "NotKept" = some (.ref C)) (l : Lk K C) (ox : oxB K C = true) (no : (decide (PySem.W.findIn K (.ref C) "promise" = some none) && decide (PySem.W.findIn K (.ref C) "witness" = some none)) = true) (a : PySem.W.findIn K (.ref C) "__init__" = some (some (.ref f)))
    (t : PySem.W.typeIn K (.ref f) = some (.type "function")) (D : DefAt K "__init__" "NotKept.__init__" sI9 f) : Mk2 P w K mg base "NotKept" "promise" "witness" C := by
  obtain ⟨fd, F⟩ := D
  have X := ox_of l ox
  obtain ⟨n1, n2⟩ := Bool.and_eq_true_iff.mp no
  exact ⟨g, X, of_decide_eq_true n1, of_decide_eq_true n2, f, fd, a, t, ok_i2 F scI9 ⟨_, _, _, _, _, _, _, _, rfl⟩ rfl rfl (by decide) (by decide) rfl (by decide) (by decide) X (of_decide_eq_true n1) (of_decide_eq_true n2), F.binds fun _ _ _ _ _ _ us hl => match us, hl with | [_, _, _], _ => rfl⟩
end
theorem all_mk {P : Program} {w : World} {K : PySem.W.Frag} {h : Heap} {mg : Str → Option Value} {fa L C0 C1 C2 C3 C4 C5 C6 C7 C8 C9 C10 C11 f0 f1 f2 f3 f4 f5 f6 f7 f8 f9 g0 g1 g2 g3 g4 g5 g6 g7 : Addr} (X : K.In h) (G : h.Ns mainGlobals mg) (hfa : mg "law" = some (.ref fa))
    (aL : PySem.W.nsIn K mainGlobals "LookError" = some (some (.ref L)))
    (aC0 : PySem.W.nsIn K mainGlobals "BadText" = some (some (.ref C0)))
    (aC1 : PySem.W.nsIn K mainGlobals "BadLine" = some (some (.ref C1)))
    (aC2 : PySem.W.nsIn K mainGlobals "BadNumber" = some (some (.ref C2)))
    (aC3 : PySem.W.nsIn K mainGlobals "BadRow" = some (some (.ref C3)))
    (aC4 : PySem.W.nsIn K mainGlobals "BadInterval" = some (some (.ref C4)))
    (aC5 : PySem.W.nsIn K mainGlobals "BadName" = some (some (.ref C5)))
    (aC6 : PySem.W.nsIn K mainGlobals "Unlike" = some (some (.ref C6)))
    (aC7 : PySem.W.nsIn K mainGlobals "NoName" = some (some (.ref C7)))
    (aC8 : PySem.W.nsIn K mainGlobals "TakenName" = some (some (.ref C8)))
    (aC9 : PySem.W.nsIn K mainGlobals "NotKept" = some (some (.ref C9)))
    (aC10 : PySem.W.nsIn K mainGlobals "NothingToUndo" = some (some (.ref C10)))
    (aC11 : PySem.W.nsIn K mainGlobals "NothingToRedo" = some (some (.ref C11)))
    (xL0 : Lk K C0) (ox0 : oxB K C0 = true) (no0 : decide (PySem.W.findIn K (.ref C0) "column" = some none) = true)
    (ai0 : PySem.W.findIn K (.ref C0) "__init__" = some (some (.ref f0))) (ti0 : PySem.W.typeIn K (.ref f0) = some (.type "function")) (di0 : DefAt K "__init__" "BadText.__init__" sI0 f0)
    (xL1 : Lk K C1) (ox1 : oxB K C1 = true) (no1 : (decide (PySem.W.findIn K (.ref C1) "line" = some none) && decide (PySem.W.findIn K (.ref C1) "column" = some none)) = true)
    (ai1 : PySem.W.findIn K (.ref C1) "__init__" = some (some (.ref f1))) (ti1 : PySem.W.typeIn K (.ref f1) = some (.type "function")) (di1 : DefAt K "__init__" "BadLine.__init__" sI1 f1)
    (xL2 : Lk K C2) (ox2 : oxB K C2 = true) (no2 : (decide (PySem.W.findIn K (.ref C2) "what" = some none) && decide (PySem.W.findIn K (.ref C2) "number" = some none)) = true)
    (ai2 : PySem.W.findIn K (.ref C2) "__init__" = some (some (.ref f2))) (ti2 : PySem.W.typeIn K (.ref f2) = some (.type "function")) (di2 : DefAt K "__init__" "BadNumber.__init__" sI2 f2)
    (xL3 : Lk K C3) (ox3 : oxB K C3 = true) (no3 : decide (PySem.W.findIn K (.ref C3) "row" = some none) = true)
    (ai3 : PySem.W.findIn K (.ref C3) "__init__" = some (some (.ref f3))) (ti3 : PySem.W.typeIn K (.ref f3) = some (.type "function")) (di3 : DefAt K "__init__" "BadRow.__init__" sI3 f3)
    (xL4 : Lk K C4) (ox4 : oxB K C4 = true) (no4 : (decide (PySem.W.findIn K (.ref C4) "low" = some none) && decide (PySem.W.findIn K (.ref C4) "high" = some none)) = true)
    (ai4 : PySem.W.findIn K (.ref C4) "__init__" = some (some (.ref f4))) (ti4 : PySem.W.typeIn K (.ref f4) = some (.type "function")) (di4 : DefAt K "__init__" "BadInterval.__init__" sI4 f4)
    (xL5 : Lk K C5) (ox5 : oxB K C5 = true) (no5 : decide (PySem.W.findIn K (.ref C5) "name" = some none) = true)
    (ai5 : PySem.W.findIn K (.ref C5) "__init__" = some (some (.ref f5))) (ti5 : PySem.W.typeIn K (.ref f5) = some (.type "function")) (di5 : DefAt K "__init__" "BadName.__init__" sI5 f5)
    (xL6 : Lk K C6) (ox6 : oxB K C6 = true) (no6 : decide (PySem.W.findIn K (.ref C6) "what" = some none) = true)
    (ai6 : PySem.W.findIn K (.ref C6) "__init__" = some (some (.ref f6))) (ti6 : PySem.W.typeIn K (.ref f6) = some (.type "function")) (di6 : DefAt K "__init__" "Unlike.__init__" sI6 f6)
    (xL7 : Lk K C7) (ox7 : oxB K C7 = true) (no7 : decide (PySem.W.findIn K (.ref C7) "name" = some none) = true)
    (ai7 : PySem.W.findIn K (.ref C7) "__init__" = some (some (.ref f7))) (ti7 : PySem.W.typeIn K (.ref f7) = some (.type "function")) (di7 : DefAt K "__init__" "NoName.__init__" sI7 f7)
    (xL8 : Lk K C8) (ox8 : oxB K C8 = true) (no8 : decide (PySem.W.findIn K (.ref C8) "name" = some none) = true)
    (ai8 : PySem.W.findIn K (.ref C8) "__init__" = some (some (.ref f8))) (ti8 : PySem.W.typeIn K (.ref f8) = some (.type "function")) (di8 : DefAt K "__init__" "TakenName.__init__" sI8 f8)
    (xL9 : Lk K C9) (ox9 : oxB K C9 = true) (no9 : (decide (PySem.W.findIn K (.ref C9) "promise" = some none) && decide (PySem.W.findIn K (.ref C9) "witness" = some none)) = true)
    (ai9 : PySem.W.findIn K (.ref C9) "__init__" = some (some (.ref f9))) (ti9 : PySem.W.typeIn K (.ref f9) = some (.type "function")) (di9 : DefAt K "__init__" "NotKept.__init__" sI9 f9)
    (ex10 : PySem.W.excIn K C10 veT "ValueError.__new__" = true) (kp10 : PySem.W.keepIn K (.ref C10) = true)
    (ex11 : PySem.W.excIn K C11 veT "ValueError.__new__" = true) (kp11 : PySem.W.keepIn K (.ref C11) = true)
    (kB : kitsB K (cl C0 C1 C2 C3 C4 C5 C6 C7 C8 C9 C10 C11) L = true)
    (ag0 : PySem.W.nsIn K mainGlobals "_law_pen" = some (some (.ref g0))) (dg0 : DefAt K "_law_pen" "_law_pen" sPen g0)
    (ag1 : PySem.W.nsIn K mainGlobals "_law_draw" = some (some (.ref g1))) (dg1 : DefAt K "_law_draw" "_law_draw" sDraw g1)
    (ag2 : PySem.W.nsIn K mainGlobals "_law_pick" = some (some (.ref g2))) (dg2 : DefAt K "_law_pick" "_law_pick" sPick g2)
    (ag3 : PySem.W.nsIn K mainGlobals "_law_far" = some (some (.ref g3))) (dg3 : DefAt K "_law_far" "_law_far" sFar g3)
    (ag4 : PySem.W.nsIn K mainGlobals "_law_kinds" = some (some (.ref g4))) (dg4 : DefAt K "_law_kinds" "_law_kinds" sKinds g4)
    (ag5 : PySem.W.nsIn K mainGlobals "_law_objects" = some (some (.ref g5))) (dg5 : DefAt K "_law_objects" "_law_objects" sObj g5)
    (ag6 : PySem.W.nsIn K mainGlobals "_law_fields" = some (some (.ref g6))) (dg6 : DefAt K "_law_fields" "_law_fields" sFields g6)
    (ag7 : PySem.W.nsIn K mainGlobals "law" = some (some (.ref g7))) (dg7 : DefAt K "law" "law" sLaw g7)
    (z_len : PySem.W.nsIn K mainGlobals "len" = some none)
    (z_list : PySem.W.nsIn K mainGlobals "list" = some none)
    (z_int : PySem.W.nsIn K mainGlobals "int" = some none)
    (z_range : PySem.W.nsIn K mainGlobals "range" = some none)
    (z_str : PySem.W.nsIn K mainGlobals "str" = some none)
    (z_enumerate : PySem.W.nsIn K mainGlobals "enumerate" = some none)
    (z_zip : PySem.W.nsIn K mainGlobals "zip" = some none)
    (z_repr : PySem.W.nsIn K mainGlobals "repr" = some none)
    (z_isinstance : PySem.W.nsIn K mainGlobals "isinstance" = some none)
    (z_ValueError : PySem.W.nsIn K mainGlobals "ValueError" = some none)
    (base : Heap) : RunAt P w K mg base fa (spLaw K) := by
  have e := hfa.symm.trans (PySem.W.mg_of X G ag7)
  cases e
  obtain ⟨fd0, F0⟩ := dg0
  obtain ⟨fd1, F1⟩ := dg1
  obtain ⟨fd2, F2⟩ := dg2
  obtain ⟨fd3, F3⟩ := dg3
  obtain ⟨fd4, F4⟩ := dg4
  obtain ⟨fd5, F5⟩ := dg5
  obtain ⟨fd6, F6⟩ := dg6
  obtain ⟨fd7, F7⟩ := dg7
  have b0 := F0.binds (ps := ["_law_script"]) fun _ _ _ _ _ _ us hl => match us, hl with | [_], _ => rfl
  have b1 := F1.binds (ps := ["_law_pen_here", "_law_many"]) fun _ _ _ _ _ _ us hl => match us, hl with | [_, _], _ => rfl
  have b2 := F2.binds (ps := ["_law_pen_here", "_law_some"]) fun _ _ _ _ _ _ us hl => match us, hl with | [_, _], _ => rfl
  have b3 := F3.binds (ps := ["_law_pen_here"]) fun _ _ _ _ _ _ us hl => match us, hl with | [_], _ => rfl
  have b4 := F4.binds (ps := ["_law_e"]) fun _ _ _ _ _ _ us hl => match us, hl with | [_], _ => rfl
  have b5 := F5.binds (ps := ["_law_a", "_law_b"]) fun _ _ _ _ _ _ us hl => match us, hl with | [_, _], _ => rfl
  have b6 := F6.binds (ps := ["_law_row"]) fun _ _ _ _ _ _ us hl => match us, hl with | [_], _ => rfl
  have PT : PenTxt K mg g1 g2 := ⟨PySem.W.mg_none_of X G z_len, PySem.W.mg_none_of X G z_list, PySem.W.mg_none_of X G z_int, PySem.W.mg_none_of X G z_range, PySem.W.mg_of X G ag1, F1.kp, PySem.W.mg_of X G ag2, F2.kp⟩
  have ET : ErrTxt P w K mg base (cl C0 C1 C2 C3 C4 C5 C6 C7 C8 C9 C10 C11) :=
    { m0 := mk0 (PySem.W.mg_of X G aC0) xL0 ox0 no0 ai0 ti0 di0
      m1 := mk1 (PySem.W.mg_of X G aC1) xL1 ox1 no1 ai1 ti1 di1
      m2 := mk2 (PySem.W.mg_of X G aC2) xL2 ox2 no2 ai2 ti2 di2
      m3 := mk3 (PySem.W.mg_of X G aC3) xL3 ox3 no3 ai3 ti3 di3
      m4 := mk4 (PySem.W.mg_of X G aC4) xL4 ox4 no4 ai4 ti4 di4
      m5 := mk5 (PySem.W.mg_of X G aC5) xL5 ox5 no5 ai5 ti5 di5
      m6 := mk6 (PySem.W.mg_of X G aC6) xL6 ox6 no6 ai6 ti6 di6
      m7 := mk7 (PySem.W.mg_of X G aC7) xL7 ox7 no7 ai7 ti7 di7
      m8 := mk8 (PySem.W.mg_of X G aC8) xL8 ox8 no8 ai8 ti8 di8
      m9 := mk9 (PySem.W.mg_of X G aC9) xL9 ox9 no9 ai9 ti9 di9
      m10 := ⟨PySem.W.mg_of X G aC10, ex10, kp10⟩
      m11 := ⟨PySem.W.mg_of X G aC11, ex11, kp11⟩
      isi := PySem.W.mg_none_of X G z_isinstance
      kt := fun i j hi hj => (kits_ok kB hi).2.2.2.2 j hj
      ec := fun i hi => (kits_ok kB hi).2.2.1
      xf := fun i hi => (kits_ok kB hi).2.2.2.1 }
  have LT : LawTxt P w K mg base (cl C0 C1 C2 C3 C4 C5 C6 C7 C8 C9 C10 C11) L :=
    { er := ET
      gL := PySem.W.mg_of X G aL
      kL := fun i hi => (kits_ok kB hi).1
      kV := fun i hi => (kits_ok kB hi).2.1
      ve := PySem.W.mg_none_of X G z_ValueError
      str := PySem.W.mg_none_of X G z_str
      enum := PySem.W.mg_none_of X G z_enumerate
      zip := PySem.W.mg_none_of X G z_zip
      repr := PySem.W.mg_none_of X G z_repr
      len := PySem.W.mg_none_of X G z_len
      range := PySem.W.mg_none_of X G z_range }
  have bL : ∀ (s : Shared) (v : Value), BindsTo s fd7 ⟨[v], []⟩ [("_law_script", v)] := by
    obtain ⟨_, _, _, _, _, _, _, _, _, rfl, _, _⟩ := F7.ex
    exact fun s v => .of_eq rfl
  exact run_law F7 bL LT ⟨g0, _, PySem.W.mg_of X G ag0, F0.kp, ok_pen F0 PT, b0⟩ ⟨g3, _, PySem.W.mg_of X G ag3, F3.kp, ok_far F3 PT F1 b1 F2 b2, b3⟩ ⟨g2, _, PySem.W.mg_of X G ag2, F2.kp, ok_pick F2 PT F1 b1, b2⟩
    ⟨g5, _, PySem.W.mg_of X G ag5, F5.kp, ok_obj F5 ET, b5⟩ ⟨g4, _, PySem.W.mg_of X G ag4, F4.kp, ok_kinds F4 ET, b4⟩ ⟨g6, _, PySem.W.mg_of X G ag6, F6.kp, ok_fields F6 ET, b6⟩
theorem walk {l : PySem.W.OpenLaw} {q : Program} {loose : List Str} {XP : (Str → Option Value) → Heap → Prop} {YP : World → Heap → Prop} {d : DefRec} {K : Params → PySem.W.Frag} (hn : l.most = some 63) (hdf : d.params.defaults = [])
    (hY : ∀ (w : World) (h : Heap), YP w h → (K w.params).In h)
    (G : ∀ (w : World) (mg : Str → Option Value) (fa : Addr) (h : Heap), (K w.params).In h → h.Ns mainGlobals mg → mg d.name = some (.ref fa) → ∀ base : Heap, RunAt l.prog w (K w.params) mg base fa (spLaw (K w.params))) :
    PySem.W.WalkO q loose XP YP l.row.toRowW d [] (fun f vs => PySem.call f vs) :=
  walkAt (n := 63) (sp := fun K => spLaw K) hn (by decide) hdf hY (fun w mg fa h KX g hmg base _ _ => G w mg fa h KX g hmg base) fun K H a ns hl hS => ⟨a, ns, rfl, hS, hl, fun _ => rfl⟩
end K00
open PySem PySem.W PyProof.Rows
set_option maxRecDepth 100000 in
set_option maxHeartbeats 0 in
theorem PySem.Challenge.cw_bestlooks_k00_errors_holds : PySem.Challenge.rw_bestlooks_k00_errors.Holds := by
  w_on; o_law; k_head; (case hw => w_witness2)
  k_fill
  refine K00.walk (l := PySem.Challenge.rw_bestlooks_k00_errors) rfl rfl (fun w h Y => PySem.W.kIn_of Y) ?G
  case G =>
    intro w mg fa h KX gm hmg base
    refine' K00.all_mk KX gm hmg ?aL ?aC0 ?aC1 ?aC2 ?aC3 ?aC4 ?aC5 ?aC6 ?aC7 ?aC8 ?aC9 ?aC10 ?aC11 ?xL0 ?ox0 ?no0 ?ai0 ?ti0 ?di0 ?xL1 ?ox1 ?no1 ?ai1 ?ti1 ?di1 ?xL2 ?ox2 ?no2 ?ai2 ?ti2 ?di2 ?xL3 ?ox3 ?no3 ?ai3 ?ti3 ?di3 ?xL4 ?ox4 ?no4 ?ai4 ?ti4 ?di4 ?xL5 ?ox5 ?no5 ?ai5 ?ti5 ?di5 ?xL6 ?ox6 ?no6 ?ai6 ?ti6 ?di6 ?xL7 ?ox7 ?no7 ?ai7 ?ti7 ?di7 ?xL8 ?ox8 ?no8 ?ai8 ?ti8 ?di8 ?xL9 ?ox9 ?no9 ?ai9 ?ti9 ?di9 ?ex10 ?kp10 ?ex11 ?kp11 ?kB ?ag0 ?dg0 ?ag1 ?dg1 ?ag2 ?dg2 ?ag3 ?dg3 ?ag4 ?dg4 ?ag5 ?dg5 ?ag6 ?dg6 ?ag7 ?dg7 ?z_len ?z_list ?z_int ?z_range ?z_str ?z_enumerate ?z_zip ?z_repr ?z_isinstance ?z_ValueError base
    (case aL => k_is)
    (case aC0 => k_is)
    (case aC1 => k_is)
    (case aC2 => k_is)
    (case aC3 => k_is)
    (case aC4 => k_is)
    (case aC5 => k_is)
    (case aC6 => k_is)
    (case aC7 => k_is)
    (case aC8 => k_is)
    (case aC9 => k_is)
    (case aC10 => k_is)
    (case aC11 => k_is)
    (case xL0 => (refine' K00.lk_of ?lk ?ve; (case lk => k_is); (case ve => decide +kernel)))
    (case ox0 => kernel_rfl)
    (case no0 => kernel_rfl)
    (case ai0 => k_is)
    (case ti0 => k_is)
    (case di0 => (refine' ⟨_, L2.fun_mk ?l1 ?c1 ?k1⟩; (case l1 => k_is); (case c1 => k_is); (case k1 => k_is)))
    (case xL1 => (refine' K00.lk_of ?lk ?ve; (case lk => k_is); (case ve => decide +kernel)))
    (case ox1 => kernel_rfl)
    (case no1 => kernel_rfl)
    (case ai1 => k_is)
    (case ti1 => k_is)
    (case di1 => (refine' ⟨_, L2.fun_mk ?l1 ?c1 ?k1⟩; (case l1 => k_is); (case c1 => k_is); (case k1 => k_is)))
    (case xL2 => (refine' K00.lk_of ?lk ?ve; (case lk => k_is); (case ve => decide +kernel)))
    (case ox2 => kernel_rfl)
    (case no2 => kernel_rfl)
    (case ai2 => k_is)
    (case ti2 => k_is)
    (case di2 => (refine' ⟨_, L2.fun_mk ?l1 ?c1 ?k1⟩; (case l1 => k_is); (case c1 => k_is); (case k1 => k_is)))
    (case xL3 => (refine' K00.lk_of ?lk ?ve; (case lk => k_is); (case ve => decide +kernel)))
    (case ox3 => kernel_rfl)
    (case no3 => kernel_rfl)
    (case ai3 => k_is)
    (case ti3 => k_is)
    (case di3 => (refine' ⟨_, L2.fun_mk ?l1 ?c1 ?k1⟩; (case l1 => k_is); (case c1 => k_is); (case k1 => k_is)))
    (case xL4 => (refine' K00.lk_of ?lk ?ve; (case lk => k_is); (case ve => decide +kernel)))
    (case ox4 => kernel_rfl)
    (case no4 => kernel_rfl)
    (case ai4 => k_is)
    (case ti4 => k_is)
    (case di4 => (refine' ⟨_, L2.fun_mk ?l1 ?c1 ?k1⟩; (case l1 => k_is); (case c1 => k_is); (case k1 => k_is)))
    (case xL5 => (refine' K00.lk_of ?lk ?ve; (case lk => k_is); (case ve => decide +kernel)))
    (case ox5 => kernel_rfl)
    (case no5 => kernel_rfl)
    (case ai5 => k_is)
    (case ti5 => k_is)
    (case di5 => (refine' ⟨_, L2.fun_mk ?l1 ?c1 ?k1⟩; (case l1 => k_is); (case c1 => k_is); (case k1 => k_is)))
    (case xL6 => (refine' K00.lk_of ?lk ?ve; (case lk => k_is); (case ve => decide +kernel)))
    (case ox6 => kernel_rfl)
    (case no6 => kernel_rfl)
    (case ai6 => k_is)
    (case ti6 => k_is)
    (case di6 => (refine' ⟨_, L2.fun_mk ?l1 ?c1 ?k1⟩; (case l1 => k_is); (case c1 => k_is); (case k1 => k_is)))
    (case xL7 => (refine' K00.lk_of ?lk ?ve; (case lk => k_is); (case ve => decide +kernel)))
    (case ox7 => kernel_rfl)
    (case no7 => kernel_rfl)
    (case ai7 => k_is)
    (case ti7 => k_is)
    (case di7 => (refine' ⟨_, L2.fun_mk ?l1 ?c1 ?k1⟩; (case l1 => k_is); (case c1 => k_is); (case k1 => k_is)))
    (case xL8 => (refine' K00.lk_of ?lk ?ve; (case lk => k_is); (case ve => decide +kernel)))
    (case ox8 => kernel_rfl)
    (case no8 => kernel_rfl)
    (case ai8 => k_is)
    (case ti8 => k_is)
    (case di8 => (refine' ⟨_, L2.fun_mk ?l1 ?c1 ?k1⟩; (case l1 => k_is); (case c1 => k_is); (case k1 => k_is)))
    (case xL9 => (refine' K00.lk_of ?lk ?ve; (case lk => k_is); (case ve => decide +kernel)))
    (case ox9 => kernel_rfl)
    (case no9 => kernel_rfl)
    (case ai9 => k_is)
    (case ti9 => k_is)
    (case di9 => (refine' ⟨_, L2.fun_mk ?l1 ?c1 ?k1⟩; (case l1 => k_is); (case c1 => k_is); (case k1 => k_is)))
    (case ex10 => kernel_rfl)
    (case kp10 => k_is)
    (case ex11 => kernel_rfl)
    (case kp11 => k_is)
    (case kB => kernel_rfl)
    (case ag0 => k_is)
    (case dg0 => (refine' ⟨_, L2.fun_mk ?l1 ?c1 ?k1⟩; (case l1 => k_is); (case c1 => k_is); (case k1 => k_is)))
    (case ag1 => k_is)
    (case dg1 => (refine' ⟨_, L2.fun_mk ?l1 ?c1 ?k1⟩; (case l1 => k_is); (case c1 => k_is); (case k1 => k_is)))
    (case ag2 => k_is)
    (case dg2 => (refine' ⟨_, L2.fun_mk ?l1 ?c1 ?k1⟩; (case l1 => k_is); (case c1 => k_is); (case k1 => k_is)))
    (case ag3 => k_is)
    (case dg3 => (refine' ⟨_, L2.fun_mk ?l1 ?c1 ?k1⟩; (case l1 => k_is); (case c1 => k_is); (case k1 => k_is)))
    (case ag4 => k_is)
    (case dg4 => (refine' ⟨_, L2.fun_mk ?l1 ?c1 ?k1⟩; (case l1 => k_is); (case c1 => k_is); (case k1 => k_is)))
    (case ag5 => k_is)
    (case dg5 => (refine' ⟨_, L2.fun_mk ?l1 ?c1 ?k1⟩; (case l1 => k_is); (case c1 => k_is); (case k1 => k_is)))
    (case ag6 => k_is)
    (case dg6 => (refine' ⟨_, L2.fun_mk ?l1 ?c1 ?k1⟩; (case l1 => k_is); (case c1 => k_is); (case k1 => k_is)))
    (case ag7 => k_is)
    (case dg7 => (refine' ⟨_, L2.fun_mk ?l1 ?c1 ?k1⟩; (case l1 => k_is); (case c1 => k_is); (case k1 => k_is)))
    (case z_len => k_is)
    (case z_list => k_is)
    (case z_int => k_is)
    (case z_range => k_is)
    (case z_str => k_is)
    (case z_enumerate => k_is)
    (case z_zip => k_is)
    (case z_repr => k_is)
    (case z_isinstance => k_is)
    (case z_ValueError => k_is)
