import PyProof.Rows.All
import Wide.All
import OpenK.AllK
import Wide.FinOn
import HandS.ForMost
import HandS.Exc
import HandS.Codes
import HandS.ExcInit
import KE.KExcIs
import HandS.ExcOwn
import PyProof.ReprRoads
import HandS.ExcValue
import HandS.TupAny
import HandS.Comp
import HandS.Style
import PySem.Challenge.RW_anymend_k01_errors
set_option Elab.async false
set_option linter.all false
set_option maxRecDepth 100000
namespace Z
open PySem L2 PyProof.Rows
/-! the text by places -/
def topS (i : Nat) : Stmt := PySem.Challenge.pw_anymend_k01_errors.main.body.getD i (.Pass ⟨0, 0, 0, 0⟩)
abbrev s_l_pen : Stmt := topS 14
abbrev s_l_draw : Stmt := topS 15
abbrev s_l_pick : Stmt := topS 16
theorem sc_l_pen : FnScope ["_law_script", "_law_fold", "_law_cell"] ["_law_script"] (defScope s_l_pen) := ⟨rfl, rfl, rfl, by decide +kernel, rfl, by decide +kernel, by decide +kernel⟩
theorem sc_l_draw : FnScope ["_law_pen_here", "_law_many", "_law_cell", "_law_digit", "_law_blend"] ["_law_pen_here", "_law_many"] (defScope s_l_draw) := ⟨rfl, rfl, rfl, by decide +kernel, rfl, by decide +kernel, by decide +kernel⟩
theorem sc_l_pick : FnScope ["_law_pen_here", "_law_some"] ["_law_pen_here", "_law_some"] (defScope s_l_pick) := ⟨rfl, rfl, rfl, by decide +kernel, rfl, by decide +kernel, by decide +kernel⟩
/-! heaps -/
/-- all but p stands -/
def But (p : Addr) (H H' : Hp) : Prop := ∀ b, b ≠ p → H' b = H b
/-- what stood stands, but at p -/
def Kp (p : Addr) (H H' : Hp) : Prop := ∀ b o, b ≠ p → H b = some o → H' b = some o
theorem But.kp {p : Addr} {H H' : Hp} (h : But p H H') : Kp p H H' := fun b o n e => (h b n).trans e
theorem Kp.refl (p : Addr) (H : Hp) : Kp p H H := fun _ _ _ e => e
theorem Kp.trans {p : Addr} {H H1 H2 : Hp} (a : Kp p H H1) (b : Kp p H1 H2) : Kp p H H2 := fun c o n e => b c o n (a c o n e)
theorem Kp.new {p q : Addr} {H : Hp} {o : HO} (h : H q = none) : Kp p H (upd H q o) := fun b u n e => by
  rw [upd_ne (ne_of_none e h)]
  exact e
theorem same_new {q : Addr} {H : Hp} {o : HO} (h : H q = none) : Same H (upd H q o) := fun b u e => by
  rw [upd_ne (ne_of_none e h)]
  exact e
theorem But.trans {p : Addr} {H H1 H2 : Hp} (a : But p H H1) (b : But p H1 H2) : But p H H2 := fun c n => (b c n).trans (a c n)
theorem But.upd {p : Addr} {H : Hp} {o : HO} : But p H (upd H p o) := fun b n => upd_ne n
/-! the pen -/
def penD (l : Addr) (a : Nat) (d : Int) (c : Nat) (f : Int) : List (Key × V) :=
  [(.inr "cells", .ref l), (.inr "at", .int (a : Int)), (.inr "digits", .int d), (.inr "count", .int (c : Int)), (.inr "fold", .int f)]
theorem gCells {H : Hp} {p l : Addr} {a : Nat} {d : Int} {c : Nat} {f : Int} (h : H p = some (.dK (penD l a d c f))) : DGet H p (.str "cells") (some (.ref l)) :=
  (show valV (penD l a d c f) (.inr "cells") = some (.ref l) by kernel_rfl) ▸ DGet.k (k := Sum.inr "cells") h
theorem gAt {H : Hp} {p l : Addr} {a : Nat} {d : Int} {c : Nat} {f : Int} (h : H p = some (.dK (penD l a d c f))) : DGet H p (.str "at") (some (.int (a : Int))) :=
  (show valV (penD l a d c f) (.inr "at") = some (.int (a : Int)) by kernel_rfl) ▸ DGet.k (k := Sum.inr "at") h
theorem gDigits {H : Hp} {p l : Addr} {a : Nat} {d : Int} {c : Nat} {f : Int} (h : H p = some (.dK (penD l a d c f))) : DGet H p (.str "digits") (some (.int d)) :=
  (show valV (penD l a d c f) (.inr "digits") = some (.int d) by kernel_rfl) ▸ DGet.k (k := Sum.inr "digits") h
theorem gCount {H : Hp} {p l : Addr} {a : Nat} {d : Int} {c : Nat} {f : Int} (h : H p = some (.dK (penD l a d c f))) : DGet H p (.str "count") (some (.int (c : Int))) :=
  (show valV (penD l a d c f) (.inr "count") = some (.int (c : Int)) by kernel_rfl) ▸ DGet.k (k := Sum.inr "count") h
theorem gFold {H : Hp} {p l : Addr} {a : Nat} {d : Int} {c : Nat} {f : Int} (h : H p = some (.dK (penD l a d c f))) : DGet H p (.str "fold") (some (.int f)) :=
  (show valV (penD l a d c f) (.inr "fold") = some (.int f) by kernel_rfl) ▸ DGet.k (k := Sum.inr "fold") h
theorem small5 : (5 : Nat) < sizeLine := by rw [sizeLine_eq]; decide
theorem pAt {H : Hp} {p l : Addr} {a : Nat} {d : Int} {c : Nat} {f : Int} (h : H p = some (.dK (penD l a d c f))) : DPut H p (.str "at") (.int ((a : Int) + 1)) (upd H p (.dK (penD l (a + 1) d c f))) :=
  (show putK (penD l a d c f) (.inr "at") (.int ((a : Int) + 1)) = penD l (a + 1) d c f by kernel_rfl) ▸ DPut.k (k := Sum.inr "at") h small5
theorem pCount {H : Hp} {p l : Addr} {a : Nat} {d : Int} {c : Nat} {f : Int} (h : H p = some (.dK (penD l a d c f))) : DPut H p (.str "count") (.int ((c : Int) + 1)) (upd H p (.dK (penD l a d (c + 1) f))) :=
  (show putK (penD l a d c f) (.inr "count") (.int ((c : Int) + 1)) = penD l a d (c + 1) f by kernel_rfl) ▸ DPut.k (k := Sum.inr "count") h small5
theorem pDigits {H : Hp} {p l : Addr} {a : Nat} {d e : Int} {c : Nat} {f : Int} (h : H p = some (.dK (penD l a d c f))) : DPut H p (.str "digits") (.int e) (upd H p (.dK (penD l a e c f))) :=
  (show putK (penD l a d c f) (.inr "digits") (.int e) = penD l a e c f by kernel_rfl) ▸ DPut.k (k := Sum.inr "digits") h small5
theorem pFold {H : Hp} {p l : Addr} {a : Nat} {d : Int} {c : Nat} {f g : Int} (h : H p = some (.dK (penD l a d c f))) : DPut H p (.str "fold") (.int g) (upd H p (.dK (penD l a d c g))) :=
  (show putK (penD l a d c f) (.inr "fold") (.int g) = penD l a d c g by kernel_rfl) ▸ DPut.k (k := Sum.inr "fold") h small5
/-- a pen stands at p, its cells at l, c draws made -/
structure Pen (H : Hp) (p l : Addr) (c : Nat) : Prop where
  ex : ∃ (ns : List Int) (a : Nat) (d f : Int), H p = some (.dK (penD l a d c f)) ∧ H l = some (.lst (ns.map V.int)) ∧ ns.length ≤ 63 ∧ a ≤ ns.length ∧ 0 ≤ d ∧ 0 ≤ f ∧ f < 2147483587
theorem Pen.same {H H' : Hp} {p l : Addr} {c : Nat} (h : Pen H p l c) (s : Same H H') : Pen H' p l c := by
  obtain ⟨ns, a, d, f, h1, h2, h3⟩ := h.ex
  exact ⟨ns, a, d, f, s _ _ h1, s _ _ h2, h3⟩
/-- a list or a tuple that is read -/
def SqX (K : PySem.W.Frag) (H : Hp) (q : Addr) (xs : List V) : Prop := SqL K H q xs ∨ SqT K H q xs
theorem SqX.but {K : PySem.W.Frag} {H H' : Hp} {p q : Addr} {xs : List V} {kvs : List (Key × V)} (hp : H p = some (.dK kvs)) (b : But p H H') (h : SqX K H q xs) : SqX K H' q xs := by
  have ne : ∀ o, H q = some o → o ≠ .dK kvs → q ≠ p := fun o e n z => by
    rw [z, hp] at e
    exact n (Option.some.inj e).symm
  rcases h with (h | h) | (h | h)
  · refine .inl (.inl ?_)
    rcases h with h | ⟨o, h⟩
    · exact .inl ((b _ (ne _ h (fun z => by cases z))).trans h)
    · exact .inr ⟨o, (b _ (ne _ h (fun z => by cases z))).trans h⟩
  · exact .inl (.inr h)
  · refine .inr (.inl ?_)
    rcases h with h | ⟨o, h⟩
    · exact .inl ((b _ (ne _ h (fun z => by cases z))).trans h)
    · exact .inr ⟨o, (b _ (ne _ h (fun z => by cases z))).trans h⟩
  · exact .inr (.inr h)
/-! promises -/
def spPen (K : PySem.W.Frag) : Sp := fun vs H Q _ => ∃ (a : Addr) (ns : List Int), vs = [.ref a] ∧ SqL K H a (ns.map V.int) ∧ ns.length ≤ 63 ∧
  ∀ (p l : Addr) (H' : Hp), H p = none → H l = none → Same H H' → Pen H' p l 0 → Q (.ref p) H'
def spDraw : Sp := fun vs H Q _ => ∃ (p l : Addr) (c : Nat) (m : Int), vs = [.ref p, .int m] ∧ Pen H p l c ∧ c < 2 ^ 40 ∧ 0 < m ∧ m < 1073741824 ∧
  ∀ (d : Int) (H' : Hp), 0 ≤ d → d < m → Pen H' p l (c + 1) → But p H H' → Q (.int d) H'
def spPick (K : PySem.W.Frag) : Sp := fun vs H Q _ => ∃ (p l q : Addr) (c : Nat) (xs : List V), vs = [.ref p, .ref q] ∧ Pen H p l c ∧ c < 2 ^ 40 ∧ SqX K H q xs ∧ 0 < xs.length ∧ xs.length < 1000 ∧
  ∀ (v : V) (H' : Hp), v ∈ xs → Pen H' p l (c + 1) → But p H H' → Q v H'
section
variable {P : Program} {w : World} {K : PySem.W.Frag} {mg : Str → Option Value} {base : Heap}
theorem ok_pen {f : Addr} {fd : FuncData} (F : Fun K "_law_pen" "_law_pen" s_l_pen f fd) (bi : mg "int" = none) (bl : mg "list" = none) : FnOk P w K mg base CX0 1 f fd ["_law_script"] (spPen K) := by
  refine F.ok sc_l_pen (fun vs H Q E h => ?_) (fun cdv A outer s H vs Q E hr h => ?_)
  · obtain ⟨a, ns, rfl, _⟩ := h
    rfl
  · obtain ⟨a, ns, rfl, hS, hl, k⟩ := h
    refine ⟨_, (pss_cons (ps_set (i := 1) sc_l_pen.nd rfl (Or.inl rfl) pe_int)
      (pss_cons (ps_for PassesOwn.never rfl (pi_list (pv 0)) (pg_name (i := 2) sc_l_pen.nd rfl (Or.inl rfl))
        (pss_one (ps_set (i := 1) sc_l_pen.nd rfl (Or.inl rfl) (pe_op op_mod (pe_callTy call_int1 (by rfl) bi (by decide +kernel) (pa_cons (pe_op op_add (pe_op op_mul (pv 1) pe_int) (pv 2)) pa_nil)) pe_int))))
      (pss_one (ps_ret (pe_disp (pps_cons pe_str (pe_callTy call_list_of (by rfl) bl (by decide +kernel) (pa_cons (pv 0) pa_nil)) (pps_cons pe_str pe_int (pps_cons pe_str pe_int (pps_cons pe_str pe_int (pps_cons pe_str (pv 1) pps_nil))))) (by rfl) (by rfl) (fun z => by cases z) (by decide)))))), ?_⟩
    refine ⟨.ref a, rfl, a, rfl, ⟨_, hS⟩, for_list (K := K) (a := a) (xs := ns.map V.int) (fun i σ H2 => ∃ (n : Int) (v : Option V), σ = [some (.ref a), some (.int n), v] ∧ H2 = H ∧ 0 ≤ n ∧ n < 1000000007)
      ⟨0, none, rfl, rfl, by decide, by decide⟩ (fun i σ H2 _ ⟨_, _, _, e, _⟩ => e ▸ hS) ?_ ?_⟩
    · rintro i y σ H2 hi ⟨n, v, rfl, rfl, h0, h1⟩
      obtain ⟨z, rfl⟩ : ∃ z, y = V.int z := by
        rw [List.getElem?_map] at hi
        cases e : ns[i]? with
        | none => rw [e] at hi; cases hi
        | some z => rw [e] at hi; exact ⟨z, (Option.some.inj hi).symm⟩
      refine ⟨_, rfl, _, _, rfl, rfl, .inl ⟨by omega, by omega⟩, _, rfl, _, _, rfl, rfl, .inl ⟨_, rfl, ?_⟩⟩
      refine ⟨_, _, rfl, rfl, (by show (0 : Int) < 1000000007; decide), ?_⟩
      exact ⟨_, _, rfl, rfl, Int.emod_nonneg _ (by decide), Int.emod_lt_of_pos _ (by decide)⟩
    · rintro σ H2 ⟨n, v, rfl, rfl, h0, h1⟩
      intro p hp
      refine ⟨.ref a, rfl, a, _, rfl, .inl ((same_new hp).seq hS), fun l hn => ?_⟩
      have nlp : l ≠ p := fun z => by rw [z, upd_same] at hn; cases hn
      have hl0 : H2 l = none := by rw [upd_ne nlp] at hn; exact hn
      refine ⟨_, rfl, (by rw [upd_ne nlp.symm]; exact upd_same), penD l 0 0 0 n, rfl, (by show 5 ≤ 15; decide), ?_⟩
      have e : mergeK [] (penD l 0 0 0 n) = penD l 0 0 0 n := by kernel_rfl
      rw [e]
      refine k p l _ hp hl0 (fun b o z => ?_) ⟨ns, 0, 0, n, upd_same, ?_, hl, Nat.zero_le _, by decide, h0, by omega⟩
      · rw [upd_ne (ne_of_none z hp), upd_ne (ne_of_none z hl0), upd_ne (ne_of_none z hp)]
        exact z
      · rw [upd_ne nlp, upd_same]
theorem ok_draw {f : Addr} {fd : FuncData} (F : Fun K "_law_draw" "_law_draw" s_l_draw f fd) (bi : mg "int" = none) (bn : mg "len" = none) : FnOk P w K mg base CX0 1 f fd ["_law_pen_here", "_law_many"] spDraw := by
  refine F.ok sc_l_draw (fun vs H Q E h => ?_) (fun cdv A outer s H vs Q E hr h => ?_)
  · obtain ⟨p, l, c, m, rfl, _⟩ := h
    rfl
  · obtain ⟨p, l, c, m, rfl, hP, hc, hm, hm2, k⟩ := h
    have hu := hu_of hr
    refine ⟨_, (pss_cons (ps_dput hu (pv 0) pe_str (pe_op op_add (pe_dget hu (pv 0) pe_str (fun _ _ => rfl)) pe_int) rfl)
      (C8.pss_cut (ps_if (PW.pt (pw_and (pt_cmpR op_eq (pe_dget hu (pv 0) pe_str (fun _ _ => rfl)) pe_int (nomark _)) (pw_and1 (pt_cmpR op_lt (pe_dget hu (pv 0) pe_str (fun _ _ => rfl)) (pe_callB call_len (by rfl) bn (by decide +kernel) (pa_cons (pe_dget hu (pv 0) pe_str (fun _ _ => rfl)) pa_nil)) (nomark _)))))
        (pss_cons (ps_set (i := 2) sc_l_draw.nd rfl (Or.inl rfl) (pe_ix ix_list (pe_dget hu (pv 0) pe_str (fun _ _ => rfl)) (pe_dget hu (pv 0) pe_str (fun _ _ => rfl)) (fun _ _ => rfl)))
          (pss_cons (ps_dput hu (pv 0) pe_str (pe_op op_add (pe_dget hu (pv 0) pe_str (fun _ _ => rfl)) pe_int) rfl)
          (pss_one (ps_if (pt_cmpR op_ge (pv 2) (pe_op op_pow pe_int pe_int) (nomark _))
            (pss_one (ps_dput hu (pv 0) pe_str (pe_op op_sub (pv 2) (pe_op op_pow pe_int pe_int)) rfl))
            (pss_one (ps_dput hu (pv 0) pe_str (pe_op op_mod (pe_callTy call_int1 (by rfl) bi (by decide +kernel) (pa_cons (pe_op op_add (pe_op op_mul (pe_dget hu (pv 0) pe_str (fun _ _ => rfl)) pe_int) (pv 2)) pa_nil)) pe_int) rfl))))))
        pss_nil)
      (pss_cons (ps_if (pt_cmpR op_gt (pe_dget hu (pv 0) pe_str (fun _ _ => rfl)) pe_int (nomark _))
        (pss_cons (ps_set (i := 3) sc_l_draw.nd rfl (Or.inl rfl) (pe_op op_mod (pe_callTy call_int1 (by rfl) bi (by decide +kernel) (pa_cons (pe_dget hu (pv 0) pe_str (fun _ _ => rfl)) pa_nil)) (pv 1)))
          (pss_cons (ps_dput hu (pv 0) pe_str (pe_op op_fdiv (pe_dget hu (pv 0) pe_str (fun _ _ => rfl)) (pv 1)) rfl)
          (pss_one (ps_ret (pv 3)))))
        pss_nil)
      (pss_cons (ps_set (i := 4) sc_l_draw.nd rfl (Or.inl rfl) (pe_op op_add (pe_op op_add (pe_dget hu (pv 0) pe_str (fun _ _ => rfl)) (pe_op op_mul (pe_dget hu (pv 0) pe_str (fun _ _ => rfl)) pe_int)) pe_int))
      (pss_one (ps_ret (pe_op op_mod (pe_op op_fdiv (pe_callTy call_int1 (by rfl) bi (by decide +kernel) (pa_cons (pe_op op_mod (pe_op op_pow (pv 4) pe_int) pe_int) pa_nil)) pe_int) (pv 1)))))))), ?_⟩
    obtain ⟨ns, a, d, f, h1, h2, hl, ha, hd, hf, hf2⟩ := hP.ex
    have npl : l ≠ p := ne_of h2 h1 (by intro z; cases z)
    have st : ∀ o, (upd H p o) l = some (.lst (ns.map V.int)) := fun o => by rw [upd_ne npl]; exact h2
    -- count
    refine ⟨_, rfl, p, _, rfl, gCount h1, _, _, rfl, rfl, _, rfl, p, _, rfl, pCount h1, ?_⟩
    refine ⟨fun σ' H2 => ∃ (v2 : Option V) (a2 : Nat) (d2 f2 : Int), σ' = [some (.ref p), some (.int m), v2, none, none] ∧ a2 ≤ ns.length ∧ 0 ≤ d2 ∧ 0 ≤ f2 ∧ f2 < 2147483587 ∧ H2 p = some (.dK (penD l a2 d2 (c + 1) f2)) ∧ But p H H2, ?_, ?_⟩
    · -- a cell is taken, or not
      refine ⟨_, rfl, p, _, rfl, gDigits upd_same, rfl, _, rfl, ?_⟩
      refine ite2 (fun _ => ?_) (fun _ => ?_)
      · refine ⟨_, rfl, p, _, rfl, gAt upd_same, _, rfl, p, _, rfl, gCells upd_same, _, _, rfl, .inl ⟨_, .inl (.inl (st _)), rfl⟩, _, _, rfl, rfl, _, rfl, ?_⟩
        refine ite2 (fun hlt => ?_) (fun _ => ?_)
        · have hlt : (a : Int) < ((ns.map V.int).length : Int) := of_decide_eq_true hlt
          rw [List.length_map] at hlt
          have hlt' : a < ns.length := by omega
          have ga : (ns.map V.int)[a]? = some (.int ns[a]) := by rw [List.getElem?_map, List.getElem?_eq_getElem hlt']; rfl
          refine ⟨_, rfl, p, _, rfl, gCells upd_same, _, rfl, p, _, rfl, gAt upd_same, l, _, _, _, rfl, rfl, .inl (.inl (st _)), atI_nat ga, ?_⟩
          refine ⟨_, rfl, p, _, rfl, gAt upd_same, _, _, rfl, rfl, _, rfl, p, _, rfl, pAt upd_same, ?_⟩
          refine ⟨_, rfl, _, _, rfl, rfl, ⟨by decide, by decide, by decide⟩, _, _, rfl, rfl, _, rfl, ?_⟩
          refine ite2 (fun hge => ?_) (fun hge => ?_)
          · refine ⟨_, rfl, _, _, rfl, rfl, ⟨by decide, by decide, by decide⟩, _, _, rfl, rfl, _, rfl, p, _, rfl, pDigits upd_same, ?_⟩
            have hge' := of_decide_eq_true hge
            exact ⟨_, a + 1, _, f, rfl, hlt', by omega, hf, hf2, upd_same, fun b hb => by rw [upd_ne hb, upd_ne hb, upd_ne hb]⟩
          · refine ⟨_, rfl, p, _, rfl, gFold upd_same, _, _, rfl, rfl, .inl ⟨by omega, by omega⟩, _, rfl, _, _, rfl, rfl, .inl ⟨_, rfl, ?_⟩⟩
            refine ⟨_, _, rfl, rfl, (by show (0 : Int) < 2147483587; decide), _, rfl, p, _, rfl, pFold upd_same, ?_⟩
            exact ⟨_, a + 1, d, _, rfl, hlt', hd, Int.emod_nonneg _ (by decide), Int.emod_lt_of_pos _ (by decide), upd_same, fun b hb => by rw [upd_ne hb, upd_ne hb, upd_ne hb]⟩
        · exact ⟨none, a, d, f, rfl, ha, hd, hf, hf2, upd_same, fun b hb => by rw [upd_ne hb]⟩
      · exact iteF ⟨none, a, d, f, rfl, ha, hd, hf, hf2, upd_same, fun b hb => by rw [upd_ne hb]⟩
    · rintro σ' H2 ⟨v2, a2, d2, f2, rfl, ha2, hd2, hf0, hf1, hH2, hb2⟩
      have hl2 : H2 l = some (.lst (ns.map V.int)) := (hb2 l npl).trans h2
      refine ⟨_, rfl, p, _, rfl, gDigits hH2, _, _, rfl, rfl, _, rfl, ?_⟩
      refine ite2 (fun hg => ?_) (fun hg => ?_)
      · have hg' : (0 : Int) < d2 := of_decide_eq_true hg
        refine ⟨_, rfl, p, _, rfl, gDigits hH2, .inl ⟨_, rfl, ?_⟩⟩
        refine ⟨_, rfl, _, _, rfl, rfl, hm, ?_⟩
        refine ⟨_, rfl, p, _, rfl, gDigits hH2, _, rfl, _, _, rfl, rfl, ⟨hm, hm2⟩, _, rfl, p, _, rfl, pDigits hH2, ?_⟩
        refine ⟨_, rfl, ?_⟩
        refine k _ _ (Int.emod_nonneg _ (by omega)) (Int.emod_lt_of_pos _ hm) ⟨ns, a2, _, f2, upd_same, ?_, hl, ha2, Int.ediv_nonneg hd2 (by omega), hf0, hf1⟩ (hb2.trans But.upd)
        rw [upd_ne npl]
        exact hl2
      · refine ⟨_, rfl, p, _, rfl, gFold hH2, _, rfl, p, _, rfl, gCount hH2, _, _, rfl, rfl, .inl ⟨by omega, by omega⟩, _, _, rfl, rfl, _, _, rfl, rfl, ?_⟩
        refine ⟨_, rfl, _, _, rfl, rfl, ⟨by decide, by decide, by omega⟩, _, _, rfl, rfl, (by show (0 : Int) < 2305843009213693951; decide), .inl ⟨_, rfl, ?_⟩⟩
        refine ⟨_, _, rfl, rfl, ⟨by decide, by decide⟩, _, rfl, _, _, rfl, rfl, hm, ?_⟩
        exact k _ _ (Int.emod_nonneg _ (by omega)) (Int.emod_lt_of_pos _ hm) ⟨ns, a2, d2, f2, hH2, hl2, hl, ha2, hd2, hf0, hf1⟩ hb2
theorem ok_pick {f fD : Addr} {fd fdD : FuncData} (F : Fun K "_law_pick" "_law_pick" s_l_pick f fd) (bn : mg "len" = none)
    (G : FnOk P w K mg base CX0 1 fD fdD ["_law_pen_here", "_law_many"] spDraw) (g : mg "_law_draw" = some (.ref fD)) (kp : PySem.W.keepIn K (.ref fD) = true) (b : Binds K fdD ["_law_pen_here", "_law_many"] []) :
    FnOk P w K mg base CX0 2 f fd ["_law_pen_here", "_law_some"] (spPick K) := by
  refine F.ok sc_l_pick (fun vs H Q E h => ?_) (fun cdv A outer s H vs Q E hr h => ?_)
  · obtain ⟨p, l, q, c, xs, rfl, _⟩ := h
    rfl
  · obtain ⟨p, l, q, c, xs, rfl, hP, hc, hX, hx0, hx1, k⟩ := h
    refine ⟨_, (pss_one (ps_ret (pe_ix ix_seq (pv 1) (pe_call G hr (by rfl) g kp b .nil pass0 (pa_cons (pv 0) (pa_cons (pe_callB call_len (by rfl) bn (by decide +kernel) (pa_cons (pv 1) pa_nil)) pa_nil))) (fun _ _ => rfl)))), ?_⟩
    obtain ⟨ns, a, d, f, h1, _⟩ := hP.ex
    refine ⟨_, rfl, _, rfl, _, rfl, .ref q, xs.length, rfl, ?_, ?_⟩
    · rcases hX with hX | hX
      · exact .inl ⟨_, hX, rfl⟩
      · exact .inr ⟨_, hX, rfl⟩
    refine ⟨p, l, c, _, rfl, hP, hc, by omega, by omega, fun i H' hi0 hi1 hP' hb => ?_⟩
    have hX' := hX.but h1 hb
    have hi : i.toNat < xs.length := by omega
    have ea : atI xs i = some xs[i.toNat] := by
      have e := atI_nat (xs := xs) (j := i.toNat) (List.getElem?_eq_getElem hi)
      rw [Int.toNat_of_nonneg hi0] at e
      exact e
    rcases hX' with hX' | hX'
    · exact .inl ⟨q, _, _, _, rfl, rfl, hX', ea, k _ _ (List.getElem_mem hi) hP' hb⟩
    · exact .inr (.inl ⟨q, _, _, _, rfl, rfl, hX', ea, k _ _ (List.getElem_mem hi) hP' hb⟩)
end
end Z
set_option Elab.async false
set_option linter.all false
set_option maxRecDepth 100000
namespace Z
open PySem L2 PyProof.Rows
abbrev s_l_big : Stmt := topS 17
abbrev s_l_name : Stmt := topS 18
theorem sc_l_big : FnScope ["_law_pen_here", "_law_figures", "_law_total", "_law_k"] ["_law_pen_here", "_law_figures"] (defScope s_l_big) := ⟨rfl, rfl, rfl, by decide +kernel, rfl, by decide +kernel, by decide +kernel⟩
theorem sc_l_name : FnScope ["_law_pen_here", "_law_used", "_law_signs", "_law_name_here", "_law_k"] ["_law_pen_here", "_law_used"] (defScope s_l_name) := ⟨rfl, rfl, rfl, by decide +kernel, rfl, by decide +kernel, by decide +kernel⟩
/-! numbers -/
theorem Pen.but {H H' : Hp} {p l q : Addr} {c : Nat} (h : Pen H p l c) (k : ∀ b o, b ≠ q → H b = some o → H' b = some o) (hp : p ≠ q) (hl : l ≠ q) : Pen H' p l c := by
  obtain ⟨ns, a, d, f, h1, h2, h3⟩ := h.ex
  exact ⟨ns, a, d, f, k _ _ hp h1, k _ _ hl h2, h3⟩
theorem Pen.ne {H : Hp} {p l : Addr} {c : Nat} (h : Pen H p l c) : l ≠ p := by
  obtain ⟨ns, a, d, f, h1, h2, h3⟩ := h.ex
  exact ne_of h2 h1 (by intro z; cases z)
theorem fold_lt : ∀ (cs : List Nat) (a : Nat), NumText.AllDigits cs → cs.foldl (fun acc c => acc * 10 + (c - 48)) a < (a + 1) * 10 ^ cs.length
  | [], a, _ => by simp
  | c :: r, a, h => by
    have hc := h.head
    have ih := fold_lt r (a * 10 + (c - 48)) h.tail
    rw [List.foldl_cons, List.length_cons, Nat.pow_succ]
    refine Nat.lt_of_lt_of_le ih ?_
    have e : (a * 10 + (c - 48) + 1) ≤ (a + 1) * 10 := by omega
    calc (a * 10 + (c - 48) + 1) * 10 ^ r.length ≤ ((a + 1) * 10) * 10 ^ r.length := Nat.mul_le_mul_right _ e
      _ = (a + 1) * (10 ^ r.length * 10) := by rw [Nat.mul_assoc, Nat.mul_comm 10]
theorem digitsVal_lt {cs : List Nat} (h : NumText.AllDigits cs) : NumText.digitsVal cs < 10 ^ cs.length := by
  have e := fold_lt cs 0 h
  rw [Nat.zero_add, Nat.one_mul] at e
  exact e
/-- int(str(n)[-k:]) -/
theorem tail_int {n k : Nat} (hk : 0 < k) (hn : n < 10 ^ 200) : ∃ v : Nat, v < 10 ^ k ∧ v < 10 ^ 200 ∧ PySem.intText? (cutS (toString ((n : Nat) : Int)) (some (-(k : Int))) none) = some (v : Int) ∧ (cutS (toString ((n : Nat) : Int)) (some (-(k : Int))) none).length ≤ 640 := by
  have e : (Str.ofString (toString ((n : Nat) : Int))) = SX.S (TL.numL n) := SX.num_S n
  have hL : (TL.numL n).length ≤ 200 := TL.numL_len (by decide) hn
  have hne : TL.numL n ≠ [] := TL.numL_ne n
  have hpos : 0 < (TL.numL n).length := List.length_pos_iff.mpr hne
  have el : (SX.S (TL.numL n)).length = (TL.numL n).length := SX.S_len _
  let s := ((-(k : Int)) + ((TL.numL n).length : Int)).toNat
  have hs : s < (TL.numL n).length := by show ((-(k : Int)) + ((TL.numL n).length : Int)).toNat < _; omega
  have hs2 : (TL.numL n).length - s ≤ k := by show _ - ((-(k : Int)) + ((TL.numL n).length : Int)).toNat ≤ _; omega
  have ec : cutS (toString ((n : Nat) : Int)) (some (-(k : Int))) none = SX.S ((TL.numL n).drop s) := by
    show cutS (Str.ofString (toString ((n : Nat) : Int))) _ _ = _
    rw [e]
    unfold cutS
    rw [el, HT.sIx_none]
    have e1 : HT.sIx (TL.numL n).length 0 (some (-(k : Int))) = s := by
      show (if (-(k : Int)) < 0 then _ else _) = _
      rw [if_pos (by omega)]
    rw [e1]
    have e2 : (SX.S (TL.numL n)).cps.toList = TL.numL n := rfl
    rw [e2, List.take_of_length_le (by rw [List.length_drop]; omega)]
  have hd : NumText.AllDigits ((TL.numL n).drop s) := fun c hc => TL.numL_digits n c (List.mem_of_mem_drop hc)
  have hlen : ((TL.numL n).drop s).length ≤ k := by rw [List.length_drop]; exact hs2
  have hlen3 : ((TL.numL n).drop s).length ≤ 200 := by rw [List.length_drop]; omega
  have hv := digitsVal_lt hd
  refine ⟨NumText.digitsVal ((TL.numL n).drop s), Nat.lt_of_lt_of_le hv (Nat.pow_le_pow_right (by decide) hlen), Nat.lt_of_lt_of_le hv (Nat.pow_le_pow_right (by decide) hlen3), ?_, ?_⟩
  · rw [ec]
    refine SX.int_S (List.all_eq_true.mpr fun c hc => ?_) (fun z => ?_) (by omega)
    · have q := hd c hc
      rw [Bool.and_eq_true, decide_eq_true_eq, decide_eq_true_eq]
      exact q
    · have z2 := congrArg List.length z
      rw [List.length_drop] at z2
      simp at z2
      omega
  · rw [ec, SX.S_len]
    omega
theorem log2_lt {n k : Nat} (hk : 0 < k) (h : n < 2 ^ k) : n.log2 < k := by
  by_cases h0 : n = 0
  · subst h0
    simpa using hk
  · exact (Nat.log2_lt h0).mpr h
theorem log2_small {n : Nat} (h : n < 10 ^ 200) : n.log2 < 1920 := by
  refine log2_lt (by decide) (Nat.lt_of_lt_of_le h ?_)
  have e1 : (10 : Nat) ^ 200 ≤ 16 ^ 200 := Nat.pow_le_pow_left (by decide) 200
  have e2 : (16 : Nat) ^ 200 = 2 ^ (4 * 200) := by rw [Nat.pow_mul]
  rw [e2] at e1
  exact Nat.le_trans e1 (Nat.pow_le_pow_right (by decide) (by decide))
def spBig : Sp := fun vs H Q _ => ∃ (p l : Addr) (c k : Nat), vs = [.ref p, .int (k : Int)] ∧ Pen H p l c ∧ c < 2 ^ 39 ∧ 0 < k ∧ k ≤ 100 ∧
  ∀ (n : Nat) (c' : Nat) (H' : Hp), n < 10 ^ k → n < 10 ^ 200 → c ≤ c' → c' ≤ c + 40 → Pen H' p l c' → Kp p H H' → Q (.int (n : Int)) H'
section
variable {P : Program} {w : World} {K : PySem.W.Frag} {mg : Str → Option Value} {base : Heap}
theorem ok_big {f fD fP : Addr} {fd fdD fdP : FuncData} (F : Fun K "_law_big" "_law_big" s_l_big f fd) (bi : mg "int" = none) (bs : mg "str" = none) (br : mg "range" = none)
    (GD : FnOk P w K mg base CX0 1 fD fdD ["_law_pen_here", "_law_many"] spDraw) (gD : mg "_law_draw" = some (.ref fD)) (kD : PySem.W.keepIn K (.ref fD) = true) (bD : Binds K fdD ["_law_pen_here", "_law_many"] [])
    (GP : FnOk P w K mg base CX0 2 fP fdP ["_law_pen_here", "_law_some"] (spPick K)) (gP : mg "_law_pick" = some (.ref fP)) (kP : PySem.W.keepIn K (.ref fP) = true) (bP : Binds K fdP ["_law_pen_here", "_law_some"] []) :
    FnOk P w K mg base CX0 3 f fd ["_law_pen_here", "_law_figures"] spBig := by
  refine F.ok sc_l_big (fun vs H Q E h => ?_) (fun cdv A outer s H vs Q E hr h => ?_)
  · obtain ⟨p, l, c, k, rfl, _⟩ := h
    rfl
  · obtain ⟨p, l, c, k, rfl, hP, hc, hk0, hk1, kk⟩ := h
    have hr1 : Room 1 _ := hr.mono (by decide)
    refine ⟨_, (pss_cons (ps_set (i := 2) sc_l_big.nd rfl (Or.inl rfl) pe_int)
      (pss_cons (ps_for PassesOwn.never rfl (pi_range1 (by rfl) br (pa_cons (pe_call GP hr (by rfl) gP kP bP .nil pass0 (pa_cons (pv 0) (pa_cons (pe_lst (pa_cons pe_int (pa_cons pe_int (pa_cons pe_int (pa_cons pe_int (pa_cons pe_int (pa_cons (pe_op op_fdiv (pe_op op_add (pv 1) pe_int) pe_int) pa_nil))))))) pa_nil))) pa_nil)) (pg_name (i := 3) sc_l_big.nd rfl (Or.inl rfl))
        (pss_one (ps_set (i := 2) sc_l_big.nd rfl (Or.inl rfl) (pe_op op_add (pe_op op_mul (pv 2) pe_int) (pe_call GD hr1 (by rfl) gD kD bD .nil pass0 (pa_cons (pv 0) (pa_cons pe_int pa_nil)))))))
      (pss_one (ps_ret (pe_callTy call_int_str (by rfl) bi (by decide +kernel) (pa_cons (pe_slice sl_str (pe_callTy call_str_int (by rfl) bs (by decide +kernel) (pa_cons (pv 2) pa_nil)) (po_some (pe_un un_neg (pv 1))) po_none) pa_nil)))))), ?_⟩
    refine ⟨_, rfl, _, rfl, _, _, rfl, rfl, _, _, rfl, rfl, ⟨by decide, by decide⟩, (by show 6 ≤ sizeLine; rw [sizeLine_eq]; decide), fun q hq => ?_⟩
    have hP1 : Pen (upd H q (.lst [.int 1, .int 1, .int 1, .int 2, .int 3, .int (((k : Int) + 2) / 3)])) p l c := hP.same (same_new hq)
    refine ⟨p, l, q, c, _, rfl, hP1, by omega, (.inl (.inl (.inl upd_same))), (by show 0 < 6; decide), (by show 6 < 1000; decide), fun v H1 hv hPen1 hB1 => ?_⟩
    obtain ⟨n, rfl, hn0, hn1⟩ : ∃ n : Nat, v = .int (n : Int) ∧ 0 ≤ n ∧ n ≤ 34 := by
      simp only [List.mem_cons, List.not_mem_nil, or_false] at hv
      rcases hv with rfl | rfl | rfl | rfl | rfl | rfl
      · exact ⟨1, rfl, by omega, by omega⟩
      · exact ⟨1, rfl, by omega, by omega⟩
      · exact ⟨1, rfl, by omega, by omega⟩
      · exact ⟨2, rfl, by omega, by omega⟩
      · exact ⟨3, rfl, by omega, by omega⟩
      · exact ⟨(k + 2) / 3, by congr 1, by omega, by omega⟩
    have hk1' : Kp p H H1 := (Kp.new hq).trans hB1.kp
    refine ⟨_, rfl, by omega, by omega, ?_⟩
    rw [Int.toNat_natCast]
    refine for_range (lo := 0) (n := n) (fun i σ H2 => ∃ (t : Nat) (v : Option V), σ = [some (.ref p), some (.int (k : Int)), some (.int (t : Int)), v] ∧ t < 1000 ^ i ∧ Pen H2 p l (c + 1 + i) ∧ Kp p H H2)
      ⟨0, none, rfl, by decide, hPen1, hk1'⟩ ?_ ?_
    · rintro i σ H2 hi ⟨t, v, rfl, ht, hPi, hKi⟩
      refine ⟨_, rfl, _, _, rfl, rfl, .inr ⟨by decide, by decide⟩, _, rfl, p, l, c + 1 + i, 1000, rfl, hPi, by omega, by decide, by decide, fun d H3 hd0 hd1 hP3 hB3 => ?_⟩
      refine ⟨_, _, rfl, rfl, t * 1000 + d.toNat, some (.int (0 + (i : Int))), ?_, ?_, hP3, hKi.trans hB3.kp⟩
      · have e : (t : Int) * 1000 + d = ((t * 1000 + d.toNat : Nat) : Int) := by omega
        show [some (V.ref p), some (V.int (k : Int)), some (V.int ((t : Int) * 1000 + d)), some (V.int (0 + (i : Int)))] = _
        rw [e]
      · rw [Nat.pow_succ]
        omega
    · rintro σ H2 ⟨t, v, rfl, ht, hPi, hKi⟩
      have ht3 : t < 10 ^ 102 := by
        refine Nat.lt_of_lt_of_le ht ?_
        rw [show (10 : Nat) ^ 102 = 1000 ^ 34 by decide]
        exact Nat.pow_le_pow_right (by decide) hn1
      have ht4 : t < 10 ^ 200 := Nat.lt_of_lt_of_le ht3 (Nat.pow_le_pow_right (by decide) (by decide))
      obtain ⟨r, hr1, hr2, hr3, hr4⟩ := tail_int (n := t) (k := k) hk0 ht4
      refine ⟨_, rfl, _, rfl, log2_small (show (t : Int).natAbs < 10 ^ 200 from ht4), _, rfl, _, rfl, _, rfl, _, rfl, ?_, _, _, rfl, hr3, hr4, ?_⟩
      · show (Str.ofString (toString ((t : Nat) : Int))).length ≤ sizeLine
        rw [SX.num_S t, SX.S_len, sizeLine_eq]
        exact Nat.le_trans (TL.numL_len (by decide) ht4) (by decide)
      · exact kk r (c + 1 + n) H2 hr1 hr2 (by omega) (by omega) hPi hKi
end
end Z
set_option Elab.async false
set_option linter.all false
set_option maxRecDepth 100000
namespace Z
open PySem L2 PyProof.Rows
/-! names -/
def letter (c : Nat) : Bool := decide (97 ≤ c) && decide (c ≤ 122)
def alnum (c : Nat) : Bool := letter c || (decide (48 ≤ c) && decide (c ≤ 57))
structure NameL (cs : List Nat) : Prop where
  head : ∃ c r, cs = c :: r ∧ letter c = true
  all : cs.all alnum = true
theorem letter_alnum {c : Nat} (h : letter c = true) : alnum c = true := by unfold alnum; rw [h]; rfl
theorem digit_alnum {c : Nat} (h : 48 ≤ c ∧ c ≤ 57) : alnum c = true := by
  unfold alnum
  rw [decide_eq_true h.1, decide_eq_true h.2]
  simp
theorem NameL.snoc {cs : List Nat} {c : Nat} (h : NameL cs) (hc : alnum c = true) : NameL (cs ++ [c]) := by
  obtain ⟨a, r, rfl, ha⟩ := h.head
  refine ⟨⟨a, r ++ [c], rfl, ha⟩, ?_⟩
  rw [List.all_append, h.all]
  simp [hc]
theorem NameL.cut {cs ds : List Nat} (h : NameL cs) (hd : ds.all alnum = true) : NameL (cs.take 8 ++ ds) := by
  obtain ⟨a, r, rfl, ha⟩ := h.head
  refine ⟨⟨a, r.take 7 ++ ds, rfl, ha⟩, ?_⟩
  rw [List.all_append, hd, Bool.and_true]
  exact List.all_eq_true.mpr fun c hc => List.all_eq_true.mp h.all c (List.mem_of_mem_take hc)
def signsL : List Nat := [97, 98, 99, 100, 101, 102, 103, 104, 105, 106, 107, 108, 109, 110, 111, 112, 113, 114, 115, 116, 117, 118, 119, 120, 121, 122, 48, 49, 50, 51, 52, 53, 54, 55, 56, 57]
theorem signs_is : Str.ofString "abcdefghijklmnopqrstuvwxyz0123456789" = SX.S signsL := by decide +kernel
theorem signs_al : ∀ i, i < 36 → alnum (signsL.getD i 0) = true := by decide +kernel
theorem signs_le : ∀ i, i < 26 → letter (signsL.getD i 0) = true := by decide +kernel
theorem at_signs {i : Int} (h0 : 0 ≤ i) (h1 : i < 36) : atI signsL i = some (signsL.getD i.toNat 0) := by
  have hi : i.toNat < signsL.length := by show i.toNat < 36; omega
  have e := atI_nat (xs := signsL) (j := i.toNat) (List.getElem?_eq_getElem hi)
  rw [Int.toNat_of_nonneg h0] at e
  rw [e, List.getD_eq_getElem?_getD, List.getElem?_eq_getElem hi]
  rfl
theorem S_snoc (cs ds : List Nat) : SX.S cs ++ SX.S ds = SX.S (cs ++ ds) := by
  refine TL.ext_tl ?_
  rw [TL.tl_append]
theorem cut8 (cs : List Nat) : cutS (SX.S cs) none (some 8) = SX.S (cs.take 8) := by
  rw [C8.cutS_slice, SX.slice_to (by decide)]
  rfl
theorem inV_str (z : Str) : ∀ used : List Str, inV (.str z) (used.map V.str) = used.any fun y => y == z
  | [] => rfl
  | y :: r => by
    show (eqV (.str y) (.str z) || inV (.str z) (r.map V.str)) = ((y == z) || r.any fun y => y == z)
    rw [inV_str z r]
    rfl
theorem all_flat_str : ∀ used : List Str, (used.map V.str).all flatV = true
  | [] => rfl
  | y :: r => by
    show (true && (r.map V.str).all flatV) = true
    rw [all_flat_str r]
    rfl
def spName : Sp := fun vs H Q _ => ∃ (p l u : Addr) (c : Nat) (used : List Str), vs = [.ref p, .ref u] ∧ Pen H p l c ∧ c < 2 ^ 39 ∧ H u = some (.lst (used.map V.str)) ∧ u ≠ p ∧ u ≠ l ∧ used.length ≤ 100 ∧
  ∀ (cs : List Nat) (c' : Nat) (H' : Hp), NameL cs → cs.length ≤ 12 → c ≤ c' → c' ≤ c + 20 → Pen H' p l c' → (∀ b o, b ≠ p → b ≠ u → H b = some o → H' b = some o) → H' u = some (.lst ((used ++ [SX.S cs]).map V.str)) → Q (.str (SX.S cs)) H'
section
variable {P : Program} {w : World} {K : PySem.W.Frag} {mg : Str → Option Value} {base : Heap}
theorem ok_name {f fD fP : Addr} {fd fdD fdP : FuncData} (F : Fun K "_law_name" "_law_name" s_l_name f fd) (bn : mg "len" = none) (bs : mg "str" = none) (br : mg "range" = none)
    (GD : FnOk P w K mg base CX0 1 fD fdD ["_law_pen_here", "_law_many"] spDraw) (gD : mg "_law_draw" = some (.ref fD)) (kD : PySem.W.keepIn K (.ref fD) = true) (bD : Binds K fdD ["_law_pen_here", "_law_many"] [])
    (GP : FnOk P w K mg base CX0 2 fP fdP ["_law_pen_here", "_law_some"] (spPick K)) (gP : mg "_law_pick" = some (.ref fP)) (kP : PySem.W.keepIn K (.ref fP) = true) (bP : Binds K fdP ["_law_pen_here", "_law_some"] []) :
    FnOk P w K mg base CX0 3 f fd ["_law_pen_here", "_law_used"] spName := by
  refine F.ok sc_l_name (fun vs H Q E h => ?_) (fun cdv A outer s H vs Q E hr h => ?_)
  · obtain ⟨p, l, u, c, used, rfl, _⟩ := h
    rfl
  · obtain ⟨p, l, u, c, used, rfl, hP, hc, hU, nup, nul, hul, kk⟩ := h
    have hr1 : Room 1 _ := hr.mono (by decide)
    refine ⟨_, (pss_cons (ps_set (i := 2) sc_l_name.nd rfl (Or.inl rfl) pe_str)
      (pss_cons (ps_set (i := 3) sc_l_name.nd rfl (Or.inl rfl) (pe_ix ix_str (pv 2) (pe_call GD hr1 (by rfl) gD kD bD .nil pass0 (pa_cons (pv 0) (pa_cons pe_int pa_nil))) (fun _ _ => rfl)))
      (pss_cons (ps_for PassesOwn.never rfl (pi_range1 (by rfl) br (pa_cons (pe_call GP hr (by rfl) gP kP bP .nil pass0 (pa_cons (pv 0) (pa_cons (pe_lst (pa_cons pe_int (pa_cons pe_int (pa_cons pe_int (pa_cons pe_int (pa_cons pe_int (pa_cons pe_int pa_nil))))))) pa_nil))) pa_nil)) (pg_name (i := 4) sc_l_name.nd rfl (Or.inl rfl))
        (pss_one (ps_set (i := 3) sc_l_name.nd rfl (Or.inl rfl) (pe_op op_add_str (pv 3) (pe_ix ix_str (pv 2) (pe_call GD hr1 (by rfl) gD kD bD .nil pass0 (pa_cons (pv 0) (pa_cons pe_int pa_nil))) (fun _ _ => rfl))))))
      (pss_cons (ps_for PassesOwn.never rfl (pi_range1 (by rfl) br (pa_cons (pe_op op_add (pe_callB call_len (by rfl) bn (by decide +kernel) (pa_cons (pv 1) pa_nil)) pe_int) pa_nil)) (pg_name (i := 4) sc_l_name.nd rfl (Or.inl rfl))
        (pss_cons (ps_if (pt_cmpR op_notIn_seq (pv 3) (pv 1) (by rfl))
            (pss_one ps_break)
            pss_nil)
          (pss_one (ps_set (i := 3) sc_l_name.nd rfl (Or.inl rfl) (pe_op op_add_str (pe_slice sl_str (pv 3) po_none (po_some pe_int)) (pe_callTy call_str_int (by rfl) bs (by decide +kernel) (pa_cons (pe_op op_add pe_int (pv 4)) pa_nil)))))))
      (pss_cons (ps_expr (pe_bm PySem.F.plainAttrs_list PySem.F.slot_list_append PySem.F.type_list_append mt_append (pv 1) (pa_cons (pv 3) pa_nil)))
      (pss_one (ps_ret (pv 3)))))))), ?_⟩
    rw [signs_is]
    refine ⟨_, rfl, _, rfl, p, l, c, 26, rfl, hP, by omega, by decide, by decide, fun d H1 hd0 hd1 hP1 hB1 => ?_⟩
    refine ⟨SX.S signsL, d, _, rfl, rfl, by decide +kernel, at_signs hd0 (by omega), ?_⟩
    have hU1 : H1 u = some (.lst (used.map V.str)) := (hB1 u nup).trans hU
    refine ⟨_, rfl, by rw [sizeLine_eq]; decide, fun q hq => ?_⟩
    have nuq : u ≠ q := ne_of_none hU1 hq
    refine ⟨p, l, q, c + 1, _, rfl, hP1.same (same_new hq), by omega, (.inl (.inl (.inl upd_same))), (by decide), (by decide), fun v H2 hv hP2 hB2 => ?_⟩
    obtain ⟨n, rfl, hn⟩ : ∃ n : Nat, v = .int (n : Int) ∧ n ≤ 7 := by
      simp only [List.mem_cons, List.not_mem_nil, or_false] at hv
      rcases hv with rfl | rfl | rfl | rfl | rfl | rfl
      · exact ⟨0, rfl, by omega⟩
      · exact ⟨0, rfl, by omega⟩
      · exact ⟨1, rfl, by omega⟩
      · exact ⟨2, rfl, by omega⟩
      · exact ⟨4, rfl, by omega⟩
      · exact ⟨7, rfl, by omega⟩
    have hU2 : H2 u = some (.lst (used.map V.str)) := (hB2 u nup).trans (by rw [upd_ne nuq]; exact hU1)
    have k02 : ∀ b o, b ≠ p → b ≠ u → H b = some o → H2 b = some o := fun b o h1 _ e => (hB2 b h1).trans (by
      have e1 : H1 b = some o := (hB1 b h1).trans e
      rw [upd_ne (ne_of_none e1 hq)]
      exact e1)
    refine ⟨_, rfl, by omega, by omega, ?_⟩
    rw [Int.toNat_natCast]
    refine for_range (lo := 0) (n := n) (fun i σ H3 => ∃ (cs : List Nat) (v : Option V), σ = [some (.ref p), some (.ref u), some (.str (SX.S signsL)), some (.str (SX.S cs)), v] ∧ NameL cs ∧ cs.length = i + 1 ∧ Pen H3 p l (c + 2 + i) ∧ H3 u = some (.lst (used.map V.str)) ∧ (∀ b o, b ≠ p → b ≠ u → H b = some o → H3 b = some o))
      ⟨[signsL.getD d.toNat 0], none, rfl, ⟨⟨_, [], rfl, signs_le _ (by omega)⟩, (by show (alnum (signsL.getD d.toNat 0) && true) = true; rw [letter_alnum (signs_le _ (by omega : d.toNat < 26))]; rfl)⟩, rfl, hP2, hU2, k02⟩ ?_ ?_
    · rintro i σ H3 hi ⟨cs, v, rfl, hN, hcl, hP3, hU3, k03⟩
      refine ⟨_, rfl, _, rfl, _, rfl, p, l, _, 36, rfl, hP3, by omega, by decide, by decide, fun e H4 he0 he1 hP4 hB4 => ?_⟩
      refine ⟨SX.S signsL, e, _, rfl, rfl, by decide +kernel, at_signs he0 he1, _, _, rfl, rfl, ?_, ?_⟩
      · rw [SX.S_len, sizeLine_eq, hcl]
        show i + 1 + 1 ≤ 16777216
        omega
      · refine ⟨cs ++ [signsL.getD e.toNat 0], some (.int (0 + (i : Int))), ?_, hN.snoc (signs_al _ (by omega)), by rw [List.length_append, hcl]; rfl, hP4, (hB4 u nup).trans hU3, fun b o h1 h2 z => (hB4 b h1).trans (k03 b o h1 h2 z)⟩
        rw [← S_snoc]
        rfl
    · rintro σ H3 ⟨cs, v, rfl, hN, hcl, hP3, hU3, k03⟩
      refine ⟨_, rfl, _, _, rfl, .inl ⟨_, .inl (.inl hU3), rfl⟩, _, _, rfl, rfl, _, rfl, by omega, by rw [List.length_map]; omega, ?_⟩
      rw [List.length_map, show (((used.length : Int) + 1).toNat) = used.length + 1 by omega]
      have tail : ∀ (cs : List Nat) (v : Option V), NameL cs → cs.length ≤ 12 → _ := fun cs v hN hcl => kk cs (c + 2 + n) (upd H3 u (.lst ((used ++ [SX.S cs]).map V.str))) hN hcl (by omega) (by omega) (hP3.but (fun b o hb e => by rw [upd_ne hb]; exact e) nup.symm nul.symm) (fun b o h1 h2 e => by rw [upd_ne h2]; exact k03 b o h1 h2 e) upd_same
      refine for_range (lo := 0) (n := used.length + 1) (fun i σ H4 => ∃ (cs : List Nat) (v : Option V), σ = [some (.ref p), some (.ref u), some (.str (SX.S signsL)), some (.str (SX.S cs)), v] ∧ NameL cs ∧ cs.length ≤ 12 ∧ H4 = H3)
        ⟨cs, v, rfl, hN, by omega, rfl⟩ ?_ ?_
      · rintro i σ H4 hi ⟨cs, v, rfl, hN, hcl, rfl⟩
        refine ⟨_, rfl, _, rfl, u, _, rfl, .inl (.inl (.inl hU3)), rfl, all_flat_str used, _, rfl, ?_⟩
        refine ite2 (fun _ => ?_) (fun _ => ?_)
        · refine ⟨_, rfl, .inl ⟨rfl, _, .inl (.inl hU3)⟩, _, rfl, u, _, _, rfl, rfl, hU3, by rw [List.length_map]; exact small1000 (by omega), ?_⟩
          refine ⟨_, rfl, ?_⟩
          rw [show used.map V.str ++ [V.str (SX.S cs)] = (used ++ [SX.S cs]).map V.str by rw [List.map_append]; rfl]
          exact tail cs v hN hcl
        · have hnum : Str.ofString (toString ((100 : Int) + (0 + (i : Int)))) = SX.S (TL.numL (100 + i)) := by
            rw [show (100 : Int) + (0 + (i : Int)) = ((100 + i : Nat) : Int) by omega]
            exact SX.num_S _
          have hl3 : (TL.numL (100 + i)).length ≤ 3 := TL.numL_len (by decide) (by omega)
          refine ⟨_, rfl, _, rfl, _, rfl, by rw [SX.S_len, sizeLine_eq]; omega, _, rfl, _, _, rfl, rfl, _, rfl, Nat.lt_trans (log2_lt (k := 20) (by decide) (by show ((100 : Int) + (0 + (i : Int))).natAbs < 2 ^ 20; omega)) (by decide), _, _, rfl, rfl, ?_, ?_⟩
          · show (cutS (SX.S cs) none (some 8)).length + (Str.ofString (toString ((100 : Int) + (0 + (i : Int))))).length ≤ sizeLine
            rw [hnum, cut8, SX.S_len, SX.S_len, sizeLine_eq, List.length_take]
            omega
          · refine ⟨cs.take 8 ++ TL.numL (100 + i), some (.int (0 + (i : Int))), ?_, hN.cut (List.all_eq_true.mpr fun c hc => digit_alnum (TL.numL_digits _ c hc)), by rw [List.length_append, List.length_take]; omega, rfl⟩
            show [some (V.ref p), some (V.ref u), some (V.str (SX.S signsL)), some (V.str (cutS (SX.S cs) none (some 8) ++ Str.ofString (toString ((100 : Int) + (0 + (i : Int)))))), some (V.int (0 + (i : Int)))] = _
            rw [hnum, cut8, S_snoc]
      · rintro σ H4 ⟨cs, v, rfl, hN, hcl, rfl⟩
        refine ⟨_, rfl, .inl ⟨rfl, _, .inl (.inl hU3)⟩, _, rfl, u, _, _, rfl, rfl, hU3, by rw [List.length_map]; exact small1000 (by omega), ?_⟩
        refine ⟨_, rfl, ?_⟩
        rw [show used.map V.str ++ [V.str (SX.S cs)] = (used ++ [SX.S cs]).map V.str by rw [List.map_append]; rfl]
        exact tail cs v hN hcl
end
end Z
set_option Elab.async false
set_option linter.all false
set_option maxRecDepth 100000
set_option maxHeartbeats 2000000
namespace Z
open PySem L2 PyProof.Rows
/-! a def that is called where no repr runs -/
structure FnG (P : Program) (w : World) (K : PySem.W.Frag) (mg : Str → Option Value) (base : Heap) (CX : CXT) (k : Nat) (f : Addr) (fd : FuncData) (ps : List Str) (sp : Sp) : Prop where
  len : ∀ vs H Q E, sp vs H Q E → vs.length = ps.length
  go : ∀ (A : Around), A.guards = some [] → ∀ (outer : List Env) (s : Shared) (H : Hp) (args : Args) (us : List Value) (vs : List V) (Q : VK) (E : XK), Room k A → Env0 P w K mg base A outer s H →
    BindsTo s fd args (ps.zip us) → Vals vs us → sp vs H Q E → codeAny (model P w) A (.call (.ref f) args) (CR CX outer P w H s Q E) s
section
variable {P : Program} {w : World} {K : PySem.W.Frag} {mg : Str → Option Value} {base : Heap}
theorem fnG_of {x qual : Str} {st : Stmt} {f : Addr} {fd : FuncData} {N ps : List Str} {k : Nat} {sp : Sp} (F : Fun K x qual st f fd) (S : FnScope N ps (defScope st)) (len : ∀ vs H Q E, sp vs H Q E → vs.length = ps.length)
    (hb : ∀ (cdv : Value) (A : Around), A.guards = some [] → ∀ (outer : List Env) (s : Shared) (H : Hp) (vs : List V) (Q : VK) (E : XK), Room k (A.deeper (envOfC qual (defScope st) s.heap.objs.size f cdv)) → sp vs H Q E →
      ∃ t, PSs (cxOf CX0 P w K mg base N qual (defScope st) f cdv A outer s H E).nox (defBody st) t ∧ t { nx := fun _ H' => Q .non H', rt := Q } (start N vs) H) : FnG P w K mg base CX0 (k + 1) f fd ps sp := by
  obtain ⟨oc, od, kV, doc, pm, an, cdv, ct, osl, rfl, lk, hcd⟩ := F.ex
  constructor
  · exact len
  · intro A hgd outer s H args us vs Q E room e0 bd rv hsp
    have n1 := len _ _ _ _ hsp
    have inH : K.In s.heap := e0.mod.kin.keeps fun b o z => (e0.bs b o z).1
    have nl : s.heap.NoLimit := e0.mod.nolimit.keeps fun b o z => (e0.bs b o z).1
    have kinds : ∀ y ∈ ps.zip us, (defScope st).names.lookup y.1 = some .local ∨ ((defScope st).names.lookup y.1 = some .cell ∧ ((cellsFrom (s.heap.objs.size + 1) (defScope st).names []).lookup y.1).isSome = true) := by
      rintro ⟨n, v⟩ hy
      cases S.par n (List.of_mem_zip hy).1 with
      | inl q => exact .inl q
      | inr q => exact .inr ⟨q, PySem.W.cellsFrom_some _ _ _ (.inl q)⟩
    refine codeAny_call_function room.depth (inH _ _ lk) rfl S.co S.gen rfl (PySem.W.codeRec_of inH hcd) (bd _ _ _ _ ?_)
    refine wpAny_newFunctionEnv_cells S.kind kinds fun env he s1 x => ?_
    cases he
    refine ⟨nl.keeps x.toInCall.keep, codeAny_func ?_⟩
    obtain ⟨t, ht, hq⟩ := hb cdv A hgd outer s H vs Q E (room.deeper _) hsp
    have I0 := inv_start (CX := CX0) (P := P) (w := w) (K := K) (mg := mg) (base := base) (E := E) S room.hd e0 n1 rv x
    refine wpAny_mono (ht.nox.run [] s1 (start N vs) H _ I0 hq) (fun fl s' hs => ?_) (fun e s' hs => hs)
    cases fl with
    | ret u =>
      obtain ⟨v, σ', H', J, rv, q⟩ := hs
      exact ⟨v, H', J.os, J.bare, J.base, J.hok, rv, q⟩
    | next =>
      obtain ⟨σ', H', J, q⟩ := hs
      exact ⟨V.non, H', J.os, J.bare, J.base, J.hok, rfl, q⟩
    | brk => exact hs.elim fun _ z => z.elim fun _ z => z.2.elim
    | cont => exact hs.elim fun _ z => z.elim fun _ z => z.2.elim
end
/-! the head's end, for such a law -/
theorem lawG {P : Program} {w : World} {K : PySem.W.Frag} {mg mb : Str → Option Value} {k : Nat} {fa a : Addr} {fd : FuncData} {x : Str} {sp : Sp} {s₁ : Shared} {vs : List Value} {ns : List Int}
    (inH : K.In s₁.heap) (hns : s₁.heap.Ns mainGlobals mg) (hb : s₁.heap.Ns builtinsNs mb) (hbb : ∀ x : Str, x ≠ "__name__" → mb x = bootBuiltins x) (nl : s₁.heap.NoLimit) (hg : s₁.gens = #[])
    (ha : s₁.heap.get? a = some { cls := .type "list", data := .seq vs.toArray }) (hi : IntsAre vs ns) (hl : ns.length ≤ sizeLine) (room : Room k callerA)
    (F : ∀ base : Heap, K.In base → base.Ns mainGlobals mg → FnG P w K mg base CX0 k fa fd [x] sp) (hbind : ∀ (s : Shared) (u : Value), BindsTo s fd ⟨[u], []⟩ [(x, u)])
    (hsp : ∀ H : Hp, SqL K H a (ns.map V.int) → sp [.ref a] H (fun v _ => v = .bl true) fun _ _ _ => False) :
    codeAny (model P w) callerA (.call (.ref fa) ⟨[.ref a], []⟩) (fun r s' => r = .ok (.ret (.bool true)) ∧ OldK s₁.heap s'.heap ∧ s'.os = s₁.os ∧ AllBare s'.gens) s₁ := by
  have rv := vals_ints hi
  have ln := hi.length
  -- any abstract heap that tracks at most the script, locked
  have main : ∀ H : Hp, (∀ b, H b = none ∨ ∃ o xs, H b = some (.frz o (.lst xs))) → SqL K H a (ns.map V.int) → HOk P w H s₁.heap → (∀ b, H b ≠ none → b = a ∧ K.lookup b = none) →
      codeAny (model P w) callerA (.call (.ref fa) ⟨[.ref a], []⟩) (fun r s' => r = .ok (.ret (.bool true)) ∧ OldK s₁.heap s'.heap ∧ s'.os = s₁.os ∧ AllBare s'.gens) s₁ := by
    intro H only hS hok hA
    have seen : ∀ {b : Addr} {o : Obj}, s₁.heap.get? b = some o → H b = none → (hidT s₁.heap H).get? b = some o := fun z n => hidT_get z n
    have dictFree : ∀ {b : Addr} {o : Obj} {es : Array DictEntry} {ep : Nat}, s₁.heap.get? b = some o → o.data = .dict es ep → H b = none := by
      intro b o es ep z d
      refine Classical.byContradiction fun n => ?_
      obtain ⟨rfl, _⟩ := hA b n
      rw [ha] at z
      cases z
      cases (show Data.seq vs.toArray _ = Data.dict es ep from d)
    have nsH : ∀ {b : Addr} {m : Str → Option Value}, s₁.heap.Ns b m → (hidT s₁.heap H).Ns b m := by
      rintro b m ⟨o, es, ep, z, d, r⟩
      exact ⟨o, es, ep, seen z (dictFree z d), d, r⟩
    have kin : K.In (hidT s₁.heap H) := by
      intro b o z
      refine seen (inH b o z) (Classical.byContradiction fun n => ?_)
      rw [(hA b n).2] at z
      cases z
    have md : Mod K mg (hidT s₁.heap H) := ⟨kin, nsH hns, ⟨mb, nsH hb, hbb⟩, nl.elim fun mc z => ⟨mc, nsH z.1, z.2⟩⟩
    have e0 : Env0 P w K mg (hidT s₁.heap H) callerA [] s₁ H :=
      ⟨rfl, md, fun b o z => of_hidT z, Nat.le_of_eq (hidT_size _ _), trivial, fun b z => (List.not_mem_nil (show b ∈ [] from z)).elim, hok, .of_eq hg⟩
    have run := (F _ kin (nsH hns)).go callerA rfl [] s₁ H ⟨[.ref a], []⟩ [.ref a] [.ref a] _ _ room e0 (hbind s₁ (.ref a)) (.cons rfl .nil) (hsp H hS)
    refine codeAny_mono run fun r s' h => ?_
    cases r with
    | error e => exact False.elim h
    | ok fl =>
      cases fl with
      | next => exact False.elim h
      | brk => exact False.elim h
      | cont => exact False.elim h
      | ret u =>
        obtain ⟨v, H', os, bare, un, hok', r', q⟩ := h
        cases (show v = .bl true from q)
        cases (show u = Value.bool true from r')
        refine ⟨rfl, OldK.of_keep fun b o z => ?_, os, bare⟩
        rcases only b with n | ⟨ob, xs, y⟩
        · exact un.keep b o z n (fun m => (List.not_mem_nil (show b ∈ [] from m)).elim) (by simp)
        · obtain ⟨e1, _⟩ := hok b _ y
          obtain ⟨e2, _⟩ := hok' b _ (un.frzs b ob _ y)
          cases z.symm.trans e1
          exact e2
  cases hk : K.lookup a with
  | some o =>
    have e := inH a o hk
    rw [ha] at e
    cases e
    exact main (fun _ => none) (fun _ => .inl rfl) (.inr ⟨_, vs.toArray, _, hk, rfl, rfl, rfl, by rw [List.size_toArray, ln]; exact hl, by simpa using rv⟩) (fun b u z => nomatch (show (none : Option HO) = some u from z)) fun b z => (z rfl).elim
  | none =>
    have off : ∀ b, b ≠ a → (fun b => if b = a then some (HO.frz { cls := .type "list", data := .seq vs.toArray } (.lst (ns.map V.int))) else none) b = none := fun b n => if_neg n
    have on : (fun b => if b = a then some (HO.frz { cls := .type "list", data := .seq vs.toArray } (.lst (ns.map V.int))) else none) a = some (HO.frz { cls := .type "list", data := .seq vs.toArray } (.lst (ns.map V.int))) := if_pos rfl
    refine main (fun b => if b = a then some (HO.frz { cls := .type "list", data := .seq vs.toArray } (.lst (ns.map V.int))) else none) (fun b => ?_) (.inl (.inr ⟨_, on⟩)) (fun b u z => ?_) (fun b z => ?_)
    · by_cases n : b = a
      · exact .inr ⟨_, _, if_pos n⟩
      · exact .inl (off b n)
    · by_cases n : b = a
      · subst n
        cases on.symm.trans z
        exact ⟨ha, by rw [List.length_map]; exact hl, vs, _, rv, ha⟩
      · cases (off b n).symm.trans z
    · by_cases n : b = a
      · exact ⟨n, n ▸ hk⟩
      · exact (z (off b n)).elim
theorem walkG {l : PySem.W.OpenLaw} {n k : Nat} {q : Program} {loose : List Str} {XP : (Str → Option Value) → Heap → Prop} {YP : World → Heap → Prop} {d : DefRec} {K : Params → PySem.W.Frag} {sp : World → Sp} {x : Str}
    (hn : l.most = some n) (hn2 : n ≤ sizeLine) (hdf : d.params.defaults = []) (room : Room k callerA) (hY : ∀ (w : World) (h : Heap), YP w h → (K w.params).In h)
    (F : ∀ (w : World) (mg : Str → Option Value) (fa : Addr) (h : Heap), (K w.params).In h → h.Ns mainGlobals mg → mg d.name = some (.ref fa) →
      ∃ fd : FuncData, (∀ (s : Shared) (u : Value), BindsTo s fd ⟨[u], []⟩ [(x, u)]) ∧ ∀ base : Heap, (K w.params).In base → base.Ns mainGlobals mg → FnG l.prog w (K w.params) mg base CX0 k fa fd [x] (sp w))
    (hsp : ∀ (w : World) (H : Hp) (a : Addr) (ns : List Int), ns.length ≤ n → SqL (K w.params) H a (ns.map V.int) → sp w [.ref a] H (fun v _ => v = .bl true) fun _ _ _ => False) :
    PySem.W.WalkO q loose XP YP l.row.toRowW d [] (fun f vs => PySem.call f vs) := by
  refine Att.attach_call hn hdf ?_
  intro w s₀ s₁ mg mb fa o pm cd doc a vs ns G Y ho hd hcd hmg hobj hints hlen hg
  obtain ⟨fd, bd, hF⟩ := F w mg fa _ (hY w _ Y) G.T.g hmg
  exact lawG (hY w _ Y) G.T.g G.T.b G.T.builtins G.T.nolimit hg hobj hints (Nat.le_trans hlen hn2) room hF bd fun H hS => hsp w H a ns hlen hS
/-! repr of data -/
def rRepD (K : PySem.W.Frag) : List V → Hp → VK → Prop := fun xs H Q => ∃ x d, xs = [x] ∧ Dp K H x d ∧ PyData.showable d = true ∧ PyData.hasDict d = false ∧ d.depth ≤ 40 ∧ d.shown.length ≤ sizeLine ∧ Q (.str d.shown) H
theorem call_reprD {X : Cx} (hg : X.A.guards = some []) (hu : X.A.units + 64 < cLine) : CallR X (.builtin "repr") (rRepD X.K) := by
  intro pins s σ H xs us Q I r h
  obtain ⟨x, d, rfl, hd, h1, h2, h3, h4, q⟩ := h
  obtain ⟨u, rfl, ru⟩ := vals1 r
  obtain ⟨as, rd⟩ := Dp.reads I d x u hd ru
  cases hd with
  | non =>
    cases ru
    exact PySem.P.repr_of_none ⟨.str _, H, I.tok _, ⟨_, rfl⟩, (show PyData.shown .none = "None" by simp only [PyData.shown]) ▸ q⟩
  | bl b =>
    cases ru
    have e : PyData.shown (.bool b) = (if b = true then Str.ofString "True" else Str.ofString "False") := by simp only [PyData.shown]
    rw [e] at q
    exact PySem.P.repr_of_bool ⟨.str _, H, I.tok _, ⟨_, rfl⟩, q⟩
  | int i =>
    obtain ⟨t, rfl⟩ := ru
    have hs : i.natAbs.log2 < 1920 := by simpa [PyData.showable] using h1
    exact PySem.P.repr_of_int hs ⟨.str _, H, I.tok _, ⟨_, rfl⟩, (show PyData.shown (.int i) = toString i by simp only [PyData.shown]) ▸ q⟩
  | str z =>
    obtain ⟨t, rfl⟩ := ru
    have e : PyData.shown (.str z) = reprText z := by simp only [PyData.shown]
    rw [e] at q h4
    exact PySem.P.repr_of_str ⟨.str _, H, I.tok _, ⟨_, rfl⟩, q⟩ h4
  | lst a b =>
    cases ru
    exact repr_of_reads' rd h1 (PyData.noDict_hsm h2) hg (by omega) (fun _ _ z => z) (fun h' t tk hk => ⟨.str _, H, I.kept (t' := tk) hk, ⟨t, rfl⟩, q⟩) h4
  | tup a b =>
    cases ru
    exact repr_of_reads' rd h1 (PyData.noDict_hsm h2) hg (by omega) (fun _ _ z => z) (fun h' t tk hk => ⟨.str _, H, I.kept (t' := tk) hk, ⟨t, rfl⟩, q⟩) h4
end Z
set_option Elab.async false
set_option linter.all false
set_option maxRecDepth 100000
set_option maxHeartbeats 2000000
namespace Z
open PySem L2 PyProof.Rows
/-! exceptions of the text's own classes, as values -/
structure XC (K : PySem.W.Frag) (C : Addr) : Prop where
  oe : OexC K C
  ga : PySem.W.findIn K (.ref C) "__getattribute__" = some (some (.builtin "BaseException.__getattribute__"))
  gg : PySem.W.findIn K (.ref C) "__getattr__" = some none
  hd : PySem.W.hasDictIn K C = true
  ha : PySem.W.findIn K (.ref C) "__class__" = some (some (.builtin "object.__class__"))
  hn : PySem.W.specialIn K (.builtin "object.__class__") "__get__" = some (some (.builtin "getset_descriptor.__get__"))
  ht : PySem.W.takesIn K (.builtin "object.__class__") = some true
  hm : PySem.W.mroIn K C (.type "object") = some true
theorem XC.cl {K : PySem.W.Frag} {C : Addr} (T : XC K C) : (PySem.W.clsIn K C).isSome = true := by
  obtain ⟨nm, q, N, bs, bm, sn, sub, ab, col, dd, k0, k1, k2, k3, k5, hC, _⟩ := T.oe.cls
  unfold PySem.W.clsIn
  rw [hC]
  rfl
/-- an exception of the class at D stands at a -/
structure ExV (K : PySem.W.Frag) (H : Hp) (a D : Addr) : Prop where
  c : XC K D
  at_ : ∃ d, H a = some (exo a D d) ∧ (d = none ∨ ∃ dd fs, d = some dd ∧ H dd = some (exd dd fs))
theorem ExV.keep {K : PySem.W.Frag} {H H' : Hp} {a D : Addr} (h : ExV K H a D) (k : ∀ b φ, H b = some (.ext φ) → H' b = some (.ext φ)) : ExV K H' a D := by
  obtain ⟨d, h1, h2⟩ := h.at_
  refine ⟨h.c, d, k _ _ h1, ?_⟩
  rcases h2 with h2 | ⟨dd, fs, e, h2⟩
  · exact .inl h2
  · exact .inr ⟨dd, fs, e, k _ _ h2⟩
section
variable {X : Cx} {pins : List (Addr × Obj)} {σ : L2.St} {H : Hp} {s : Shared} {a D : Addr}
theorem ExV.inst (h : ExV X.K H a D) (I : L2.Inv X pins σ H s) : ∃ oe od, PySem.W.InstAt s.heap a oe D od := by
  obtain ⟨d, h1, h2⟩ := h.at_
  obtain ⟨t1, e1⟩ := exo_at I.hok h1
  rcases h2 with rfl | ⟨dd, fs, rfl, h2⟩
  · exact ⟨_, none, e1, rfl, rfl, trivial⟩
  · obtain ⟨mA, ⟨o, _, _, ho, _⟩, _⟩ := exd_at I.hok h2
    exact ⟨_, some o, e1, rfl, rfl, ho⟩
end
/-- isinstance(e, C) -/
def rIsX (K : PySem.W.Frag) : List V → Hp → VK → Prop := fun xs H Q => ∃ (a D : Addr) (c : V) (cv : Value) (b : Bool), xs = [.ref a, c] ∧ ExV K H a D ∧ (∀ u, RelV c u → u = cv) ∧ PySem.W.kitOne K (.ref D) cv = some b ∧ Q (.bl b) H
theorem call_isX {X : Cx} : CallR X (.builtin "isinstance") (rIsX X.K) := by
  intro pins s σ H xs us Q I r h
  obtain ⟨a, D, c, cv, b, rfl, ex, hc, hk, q⟩ := h
  obtain ⟨u1, u2, rfl, r1, r2⟩ := vals2 r
  cases r1
  cases hc _ r2
  obtain ⟨oe, od, J⟩ := ex.inst I
  have T := ex.c
  exact PySem.W.kia_one (PySem.W.kitx_exc (od := od) T.cl T.ga T.gg T.oe.exC T.ha T.hn T.ht T.hm) I.kIn J hk (fun z => nomatch z) fun tk => ⟨.bl b, H, I.tok tk, rfl, q⟩
/-- e.n of such an exception -/
def tExf (K : PySem.W.Frag) (n : Str) (te : TE) : TE := fun σ H Q => te σ H fun x H1 => ∃ (a D dd : Addr) (fs : List (Str × V)) (v : V), x = .ref a ∧ XC K D ∧ PySem.W.findIn K (.ref D) n = some none ∧
  H1 a = some (exo a D (some dd)) ∧ H1 dd = some (exd dd fs) ∧ fs.lookup n = some v ∧ Q v H1
theorem pe_exf {X : Cx} {e : Expr} {te : TE} {pos : Pos} {n : Str} (he : PE X e te) (hb : attributeBase e n X.env (eval e X.env) = eval e X.env := by rfl) : PE X (.Attribute e n pos) (tExf X.K n te) := by
  constructor
  intro pins s σ H Q I h
  refine attr_of hb (thn (he.run pins s σ H _ I h) ?_)
  rintro u s1 ⟨x, H1, J, rx, a, D, dd, fs, v, rfl, T, hno, ea, ed, l, q⟩
  cases rx
  obtain ⟨t1, e1⟩ := exo_at J.hok ea
  obtain ⟨mA, hns, rel⟩ := exd_at J.hok ed
  obtain ⟨od, ho, hl⟩ := lookIn_ns hns
  obtain ⟨w', hu, ru⟩ := RelO.some_of (v := v) (o := mA n) (l ▸ rel n)
  have inst : PySem.W.InstAt s1.heap a _ D (some od) := ⟨e1, rfl, rfl, ho⟩
  exact HandSPX.exc_get J.kIn inst T.ga T.gg T.oe.exC (PySem.W.findObj_own T.hd hno rfl (by rw [hl, hu])) (handed_of ru) ⟨v, H1, J.tok _, ru, q⟩
/-- C(e, ..) as a value, C with an __init__ of its own that keeps sp -/
def tMkV (C : Addr) (sp : Sp) (ta : TA) : TE := fun σ H Q => ta σ H fun vs H1 => vs.length ≤ 1000 ∧ ∀ a, H1 a = none → sp (.ref a :: vs) (upd H1 a (exo a C none)) (fun v H2 => v = .non ∧ Q (.ref a) H2) (fun _ _ _ => False)
theorem pe_mkv {X : Cx} {x : Str} {C fI : Addr} {k : Nat} {fd : FuncData} {ps : List Str} {sp : Sp} {e : Expr} {es : List Expr} {ta : TA} {p pos : Pos} (T : OexC X.K C) (iC : PySem.W.findIn X.K (.ref C) "__init__" = some (some (.ref fI)))
    (tI : PySem.W.typeIn X.K (.ref fI) = some (.type "function")) (G : FnOk X.prog X.w X.K X.mg X.base CX0 k fI fd ps sp) (room : Room (k + 1) X.A) (bd : Binds X.K fd ps []) (hm : X.mg x = some (.ref C)) (ha : PA X (e :: es) ta) (hg : Gl X x := by rfl)
    (hdb : (x == ("__debug__" : Str)) = false := by decide) (he : starEach (e :: es) X.env = (false, eval e X.env) :: starEach es X.env := by rfl) (hpl : (backTo pos (starEach es X.env)).any (·.1) = false := by rfl) :
    PE X (.Call (.Name x p) (e :: es) [] pos) (tMkV C sp ta) := by
  constructor
  intro pins s σ H Q I h
  obtain ⟨nm, qn, N, bs, bm, sn, sub, ab, col, dd, k0, k1, k2, k3, k5, hC, hbm⟩ := T.cls
  refine wpAny_Call_Name_kw (ld_glob I hg hm ?_ hdb)
  refine PySem.W.callWith_K (h₀ := X.base) I.ok.mod.kin T.kC (thn (ha.run pos pins s σ H _ I h) ?_) he hpl
  rintro us s1 ⟨vs, H1, I1, r1, hz, q1⟩
  refine ⟨I1.kIn, ?_⟩
  show wpAny _ _ (call (.ref C) us) _ _ _
  obtain ⟨hp, g, dr, tk, os⟩ := s1
  have above : hp.objs.size ≤ (hp.objs.size + 1) := Nat.le_succ _
  have fr : H1 (hp.objs.size + 1) = none := I1.hok.fresh above
  have pr := q1 (hp.objs.size + 1) fr
  have old : ∀ b o, hp.get? b = some o → ((hp.push (PySem.W.kdv_tup us)).push (PySem.HandSPX.excO C hp.objs.size)).get? b = some o := fun b o z => Heap.get?_push_of_some _ (Heap.get?_push_of_some _ z)
  have here : ((hp.push (PySem.W.kdv_tup us)).push (PySem.HandSPX.excO C hp.objs.size)).get? (hp.objs.size + 1) = some (PySem.HandSPX.excO C hp.objs.size) := by heap_get
  have I2 : L2.Inv X pins σ (upd H1 (hp.objs.size + 1) (exo (hp.objs.size + 1) C none)) ⟨(hp.push (PySem.W.kdv_tup us)).push (PySem.HandSPX.excO C hp.objs.size), g, dr, tk, os⟩ :=
    I1.laid (t' := tk) (a := (hp.objs.size + 1)) (o := exo (hp.objs.size + 1) C none) (h' := (hp.push (PySem.W.kdv_tup us)).push (PySem.HandSPX.excO C hp.objs.size)) old above (exo_ok here)
  have r2 : Vals (V.ref (hp.objs.size + 1) :: vs) (Value.ref (hp.objs.size + 1) :: us) := .cons rfl r1
  have len1 : (Value.ref (hp.objs.size + 1) :: us).length = ps.length := by rw [← G.len _ _ _ _ pr]; exact r2.length.symm
  have small : us.length ≤ sizeLine := by rw [← Paired.length r1, sizeLine_eq]; omega
  have bd2 := bd ⟨(hp.push (PySem.W.kdv_tup us)).push (PySem.HandSPX.excO C hp.objs.size), g, dr, tk, os⟩ (Value.ref (hp.objs.size + 1) :: us) I2.kIn (by rw [List.append_nil]; exact len1)
  rw [List.append_nil] at bd2
  refine wpAny_call (PySem.HandSPX.call_own F.excBase_ValueError (fun Y => PySem.HandSPX.refsVE_contains Y bm hbm) (I1.kIn _ _ hC) (PySem.W.looks_findIn I1.kIn iC) (fun self => PySem.W.bind_fn I1.kIn self tI) small
    (codeAny_mono (G.run _ X.stack _ _ ⟨Value.ref (hp.objs.size + 1) :: us, []⟩ (Value.ref (hp.objs.size + 1) :: us) _ _ (fun _ _ _ => False) (room.make C us []) (I2.env0.make C us []) bd2 r2 pr) ?_))
  intro r s' back
  cases r with
  | error er => exact False.elim back
  | ok fl =>
    cases fl with
    | ret u =>
      obtain ⟨v, H2, os2, bare2, un2, hok2, rv, ev, q2⟩ := back
      subst ev
      obtain ⟨h2, g2, d2, t2, os'⟩ := s'
      exact ⟨rv, .ref (hp.objs.size + 1), H2, I2.call' (s' := ⟨h2, g2, d2, t2, os'⟩) (ch := []) os2 un2 hok2 bare2 (fun b z => absurd z (by simp)), rfl, q2⟩
    | next => exact False.elim back
    | brk => exact False.elim back
    | cont => exact False.elim back
/-- C() as a value, C without an __init__ of its own -/
theorem pe_mk0 {X : Cx} {x : Str} {C : Addr} {bmB : List Value} {B newId initId : String} {p pos : Pos} (Fb : ExcBaseFacts B newId initId bmB) (q : PySem.W.excIn X.K C bmB newId = true) (hm : X.mg x = some (.ref C)) (kC : PySem.W.keepIn X.K (.ref C) = true)
    (hg : Gl X x := by rfl) (hdb : (x == ("__debug__" : Str)) = false := by decide) : PE X (.Call (.Name x p) [] [] pos) (fun _ H Q => ∀ a, H a = none → Q (.ref a) (upd H a (exo a C none))) := by
  constructor
  intro pins s σ H Q I h
  refine wpAny_Call_Name_kw (ld_glob I hg hm ?_ hdb)
  refine PySem.W.callWith_K0 I.kIn kC ?_
  show wpAny _ _ (call (.ref C) []) _ _ _
  obtain ⟨bm, N, nm, qn, bs, hdct, sn, sub, ab, col, dd, k0, k1, k2, k3, k5, mN, hC, hN, hni, T⟩ := exc_obj I.kIn q
  obtain ⟨hp, g, dr, tk, os⟩ := s
  refine wpAny_call_exc_subT Fb T hC hN hni (fun h' e md => ?_) (by show 0 ≤ sizeLine; exact Nat.zero_le _)
  have fr : H e = none := I.hok.gone md.new
  obtain ⟨t, ht, _, _⟩ := md.there
  refine ⟨.ref e, upd H e (exo e C none), ?_, rfl, h e fr⟩
  exact I.laidN md.keeps md.new fr (exo_ok ht)
end Z
set_option Elab.async false
set_option linter.all false
set_option maxRecDepth 100000
set_option maxHeartbeats 2000000
namespace Z
open PySem L2 PyProof.Rows
theorem if_t {c : Bool} {A B : Prop} (h : c = true) (a : A) : if c = true then A else B := by rw [if_pos h]; exact a
theorem if_f {c : Bool} {A B : Prop} (h : c = false) (b : B) : if c = true then A else B := by rw [h]; exact iteF b
/-- an __init__ that stores its arguments -/
def spI (K : PySem.W.Frag) (fs : List Str) : Sp := fun vs H Q _ => ∃ (a C : Addr) (xs : List V), vs = .ref a :: xs ∧ xs.length = fs.length ∧ OexC K C ∧ (∀ f ∈ fs, PySem.W.findIn K (.ref C) f = some none) ∧ H a = some (exo a C none) ∧
  ∀ (dx : Addr) (H' : Hp), H dx = none → dx ≠ a → H' a = some (exo a C (some dx)) → H' dx = some (exd dx (fs.zip xs).reverse) → (∀ b o, b ≠ a → H b = some o → H' b = some o) → Q .non H'
structure MkE (P : Program) (w : World) (K : PySem.W.Frag) (mg : Str → Option Value) (base : Heap) (x : Str) (C : Addr) (ps fs : List Str) : Prop where
  xc : XC K C
  no : ∀ f ∈ fs, PySem.W.findIn K (.ref C) f = some none
  g : mg x = some (.ref C)
  ini : ∃ fI fd, PySem.W.findIn K (.ref C) "__init__" = some (some (.ref fI)) ∧ PySem.W.typeIn K (.ref fI) = some (.type "function") ∧ FnOk P w K mg base CX0 1 fI fd ps (spI K fs) ∧ Binds K fd ps []
structure Mk0 (K : PySem.W.Frag) (mg : Str → Option Value) (x : Str) (C : Addr) : Prop where
  xc : XC K C
  g : mg x = some (.ref C)
  ex : PySem.W.excIn K C [.type "ValueError", .type "Exception", .type "BaseException", .type "object"] "ValueError.__new__" = true
theorem pe_mkE {X : Cx} {x : Str} {C : Addr} {ps fs : List Str} {e : Expr} {es : List Expr} {ta : TA} {p pos : Pos} (M : MkE X.prog X.w X.K X.mg X.base x C ps fs) (room : Room 2 X.A) (ha : PA X (e :: es) ta) (hg : Gl X x := by rfl)
    (hdb : (x == ("__debug__" : Str)) = false := by decide) (he : starEach (e :: es) X.env = (false, eval e X.env) :: starEach es X.env := by rfl) (hpl : (backTo pos (starEach es X.env)).any (·.1) = false := by rfl) :
    PE X (.Call (.Name x p) (e :: es) [] pos) (tMkV C (spI X.K fs) ta) := by
  obtain ⟨fI, fd, h1, h2, h3, h4⟩ := M.ini
  exact pe_mkv M.xc.oe h1 h2 h3 room h4 M.g ha hg hdb he hpl
section
variable {P : Program} {w : World} {K : PySem.W.Frag} {mg : Str → Option Value} {base : Heap}

abbrev s_BadText : Stmt := inClass (topS 2) 0
theorem sc_BadText : FnScope ["self", "line", "column"] ["self", "line", "column"] (defScope s_BadText) := ⟨rfl, rfl, rfl, by decide +kernel, rfl, by decide +kernel, by decide +kernel⟩
theorem ok_BadText {f : Addr} {fd : FuncData} (F : Fun K "__init__" "BadText.__init__" s_BadText f fd) : FnOk P w K mg base CX0 1 f fd ["self", "line", "column"] (spI K ["line", "column"]) := by
  refine F.ok sc_BadText (fun vs H Q E h => ?_) (fun cdv A outer s H vs Q E hr h => ?_)
  · obtain ⟨a, C, xs, rfl, hl, _⟩ := h
    show xs.length + 1 = _
    rw [hl]
    rfl
  · obtain ⟨a, C, xs, rfl, hl, T, no, ha, k⟩ := h
    obtain ⟨x, y, rfl⟩ : ∃ x y, xs = [x, y] := by
      match xs, hl with
      | [x, y], _ => exact ⟨x, y, rfl⟩
    refine ⟨_, (pss_cons (ps_ost (pv 0) (pv 1)) (pss_one (ps_ost (pv 0) (pv 2)))), ?_⟩
    refine ⟨_, rfl, _, rfl, a, C, rfl, T, no "line" (by decide +kernel), .inl ⟨ha, fun dx hd ne => ?_⟩⟩
    have e0 : (upd (upd H dx (exd dx [("line", x)])) a (exo a C (some dx))) dx = some (exd dx [("line", x)]) := by rw [upd_ne ne, upd_same]
    have k0 : ∀ b o, b ≠ a → H b = some o → (upd (upd H dx (exd dx [("line", x)])) a (exo a C (some dx))) b = some o := fun b o h1 h2 => by
      rw [upd_ne h1, upd_ne (ne_of_none h2 hd)]
      exact h2
    refine ⟨_, rfl, _, rfl, a, C, rfl, T, no "column" (by decide +kernel), .inr ⟨dx, _, upd_same, e0, (by show 1 ≤ 900; decide), ?_⟩⟩
    refine k dx _ hd ne (by rw [upd_ne ne.symm]; exact upd_same) upd_same fun b o h1 h2 => ?_
    rw [upd_ne (ne_of_none h2 hd)]
    exact k0 b o h1 h2
abbrev s_BadNumber : Stmt := inClass (topS 3) 0
theorem sc_BadNumber : FnScope ["self", "what", "number"] ["self", "what", "number"] (defScope s_BadNumber) := ⟨rfl, rfl, rfl, by decide +kernel, rfl, by decide +kernel, by decide +kernel⟩
theorem ok_BadNumber {f : Addr} {fd : FuncData} (F : Fun K "__init__" "BadNumber.__init__" s_BadNumber f fd) : FnOk P w K mg base CX0 1 f fd ["self", "what", "number"] (spI K ["what", "number"]) := by
  refine F.ok sc_BadNumber (fun vs H Q E h => ?_) (fun cdv A outer s H vs Q E hr h => ?_)
  · obtain ⟨a, C, xs, rfl, hl, _⟩ := h
    show xs.length + 1 = _
    rw [hl]
    rfl
  · obtain ⟨a, C, xs, rfl, hl, T, no, ha, k⟩ := h
    obtain ⟨x, y, rfl⟩ : ∃ x y, xs = [x, y] := by
      match xs, hl with
      | [x, y], _ => exact ⟨x, y, rfl⟩
    refine ⟨_, (pss_cons (ps_ost (pv 0) (pv 1)) (pss_one (ps_ost (pv 0) (pv 2)))), ?_⟩
    refine ⟨_, rfl, _, rfl, a, C, rfl, T, no "what" (by decide +kernel), .inl ⟨ha, fun dx hd ne => ?_⟩⟩
    have e0 : (upd (upd H dx (exd dx [("what", x)])) a (exo a C (some dx))) dx = some (exd dx [("what", x)]) := by rw [upd_ne ne, upd_same]
    have k0 : ∀ b o, b ≠ a → H b = some o → (upd (upd H dx (exd dx [("what", x)])) a (exo a C (some dx))) b = some o := fun b o h1 h2 => by
      rw [upd_ne h1, upd_ne (ne_of_none h2 hd)]
      exact h2
    refine ⟨_, rfl, _, rfl, a, C, rfl, T, no "number" (by decide +kernel), .inr ⟨dx, _, upd_same, e0, (by show 1 ≤ 900; decide), ?_⟩⟩
    refine k dx _ hd ne (by rw [upd_ne ne.symm]; exact upd_same) upd_same fun b o h1 h2 => ?_
    rw [upd_ne (ne_of_none h2 hd)]
    exact k0 b o h1 h2
abbrev s_BadName : Stmt := inClass (topS 4) 0
theorem sc_BadName : FnScope ["self", "name"] ["self", "name"] (defScope s_BadName) := ⟨rfl, rfl, rfl, by decide +kernel, rfl, by decide +kernel, by decide +kernel⟩
theorem ok_BadName {f : Addr} {fd : FuncData} (F : Fun K "__init__" "BadName.__init__" s_BadName f fd) : FnOk P w K mg base CX0 1 f fd ["self", "name"] (spI K ["name"]) := by
  refine F.ok sc_BadName (fun vs H Q E h => ?_) (fun cdv A outer s H vs Q E hr h => ?_)
  · obtain ⟨a, C, xs, rfl, hl, _⟩ := h
    show xs.length + 1 = _
    rw [hl]
    rfl
  · obtain ⟨a, C, xs, rfl, hl, T, no, ha, k⟩ := h
    obtain ⟨x, rfl⟩ : ∃ x, xs = [x] := by
      match xs, hl with
      | [x], _ => exact ⟨x, rfl⟩
    refine ⟨_, (pss_one (ps_ost (pv 0) (pv 1))), ?_⟩
    refine ⟨_, rfl, _, rfl, a, C, rfl, T, no "name" (by decide +kernel), .inl ⟨ha, fun dx hd ne => ?_⟩⟩
    have e0 : (upd (upd H dx (exd dx [("name", x)])) a (exo a C (some dx))) dx = some (exd dx [("name", x)]) := by rw [upd_ne ne, upd_same]
    have k0 : ∀ b o, b ≠ a → H b = some o → (upd (upd H dx (exd dx [("name", x)])) a (exo a C (some dx))) b = some o := fun b o h1 h2 => by
      rw [upd_ne h1, upd_ne (ne_of_none h2 hd)]
      exact h2
    exact k dx _ hd ne upd_same e0 k0
abbrev s_BadLot : Stmt := inClass (topS 5) 0
theorem sc_BadLot : FnScope ["self", "lot"] ["self", "lot"] (defScope s_BadLot) := ⟨rfl, rfl, rfl, by decide +kernel, rfl, by decide +kernel, by decide +kernel⟩
theorem ok_BadLot {f : Addr} {fd : FuncData} (F : Fun K "__init__" "BadLot.__init__" s_BadLot f fd) : FnOk P w K mg base CX0 1 f fd ["self", "lot"] (spI K ["lot"]) := by
  refine F.ok sc_BadLot (fun vs H Q E h => ?_) (fun cdv A outer s H vs Q E hr h => ?_)
  · obtain ⟨a, C, xs, rfl, hl, _⟩ := h
    show xs.length + 1 = _
    rw [hl]
    rfl
  · obtain ⟨a, C, xs, rfl, hl, T, no, ha, k⟩ := h
    obtain ⟨x, rfl⟩ : ∃ x, xs = [x] := by
      match xs, hl with
      | [x], _ => exact ⟨x, rfl⟩
    refine ⟨_, (pss_one (ps_ost (pv 0) (pv 1))), ?_⟩
    refine ⟨_, rfl, _, rfl, a, C, rfl, T, no "lot" (by decide +kernel), .inl ⟨ha, fun dx hd ne => ?_⟩⟩
    have e0 : (upd (upd H dx (exd dx [("lot", x)])) a (exo a C (some dx))) dx = some (exd dx [("lot", x)]) := by rw [upd_ne ne, upd_same]
    have k0 : ∀ b o, b ≠ a → H b = some o → (upd (upd H dx (exd dx [("lot", x)])) a (exo a C (some dx))) b = some o := fun b o h1 h2 => by
      rw [upd_ne h1, upd_ne (ne_of_none h2 hd)]
      exact h2
    exact k dx _ hd ne upd_same e0 k0
abbrev s_NoName : Stmt := inClass (topS 6) 0
theorem sc_NoName : FnScope ["self", "name"] ["self", "name"] (defScope s_NoName) := ⟨rfl, rfl, rfl, by decide +kernel, rfl, by decide +kernel, by decide +kernel⟩
theorem ok_NoName {f : Addr} {fd : FuncData} (F : Fun K "__init__" "NoName.__init__" s_NoName f fd) : FnOk P w K mg base CX0 1 f fd ["self", "name"] (spI K ["name"]) := by
  refine F.ok sc_NoName (fun vs H Q E h => ?_) (fun cdv A outer s H vs Q E hr h => ?_)
  · obtain ⟨a, C, xs, rfl, hl, _⟩ := h
    show xs.length + 1 = _
    rw [hl]
    rfl
  · obtain ⟨a, C, xs, rfl, hl, T, no, ha, k⟩ := h
    obtain ⟨x, rfl⟩ : ∃ x, xs = [x] := by
      match xs, hl with
      | [x], _ => exact ⟨x, rfl⟩
    refine ⟨_, (pss_one (ps_ost (pv 0) (pv 1))), ?_⟩
    refine ⟨_, rfl, _, rfl, a, C, rfl, T, no "name" (by decide +kernel), .inl ⟨ha, fun dx hd ne => ?_⟩⟩
    have e0 : (upd (upd H dx (exd dx [("name", x)])) a (exo a C (some dx))) dx = some (exd dx [("name", x)]) := by rw [upd_ne ne, upd_same]
    have k0 : ∀ b o, b ≠ a → H b = some o → (upd (upd H dx (exd dx [("name", x)])) a (exo a C (some dx))) b = some o := fun b o h1 h2 => by
      rw [upd_ne h1, upd_ne (ne_of_none h2 hd)]
      exact h2
    exact k dx _ hd ne upd_same e0 k0
abbrev s_TakenName : Stmt := inClass (topS 7) 0
theorem sc_TakenName : FnScope ["self", "name"] ["self", "name"] (defScope s_TakenName) := ⟨rfl, rfl, rfl, by decide +kernel, rfl, by decide +kernel, by decide +kernel⟩
theorem ok_TakenName {f : Addr} {fd : FuncData} (F : Fun K "__init__" "TakenName.__init__" s_TakenName f fd) : FnOk P w K mg base CX0 1 f fd ["self", "name"] (spI K ["name"]) := by
  refine F.ok sc_TakenName (fun vs H Q E h => ?_) (fun cdv A outer s H vs Q E hr h => ?_)
  · obtain ⟨a, C, xs, rfl, hl, _⟩ := h
    show xs.length + 1 = _
    rw [hl]
    rfl
  · obtain ⟨a, C, xs, rfl, hl, T, no, ha, k⟩ := h
    obtain ⟨x, rfl⟩ : ∃ x, xs = [x] := by
      match xs, hl with
      | [x], _ => exact ⟨x, rfl⟩
    refine ⟨_, (pss_one (ps_ost (pv 0) (pv 1))), ?_⟩
    refine ⟨_, rfl, _, rfl, a, C, rfl, T, no "name" (by decide +kernel), .inl ⟨ha, fun dx hd ne => ?_⟩⟩
    have e0 : (upd (upd H dx (exd dx [("name", x)])) a (exo a C (some dx))) dx = some (exd dx [("name", x)]) := by rw [upd_ne ne, upd_same]
    have k0 : ∀ b o, b ≠ a → H b = some o → (upd (upd H dx (exd dx [("name", x)])) a (exo a C (some dx))) b = some o := fun b o h1 h2 => by
      rw [upd_ne h1, upd_ne (ne_of_none h2 hd)]
      exact h2
    exact k dx _ hd ne upd_same e0 k0
abbrev s_TooSmall : Stmt := inClass (topS 8) 0
theorem sc_TooSmall : FnScope ["self", "prime", "bound"] ["self", "prime", "bound"] (defScope s_TooSmall) := ⟨rfl, rfl, rfl, by decide +kernel, rfl, by decide +kernel, by decide +kernel⟩
theorem ok_TooSmall {f : Addr} {fd : FuncData} (F : Fun K "__init__" "TooSmall.__init__" s_TooSmall f fd) : FnOk P w K mg base CX0 1 f fd ["self", "prime", "bound"] (spI K ["prime", "bound"]) := by
  refine F.ok sc_TooSmall (fun vs H Q E h => ?_) (fun cdv A outer s H vs Q E hr h => ?_)
  · obtain ⟨a, C, xs, rfl, hl, _⟩ := h
    show xs.length + 1 = _
    rw [hl]
    rfl
  · obtain ⟨a, C, xs, rfl, hl, T, no, ha, k⟩ := h
    obtain ⟨x, y, rfl⟩ : ∃ x y, xs = [x, y] := by
      match xs, hl with
      | [x, y], _ => exact ⟨x, y, rfl⟩
    refine ⟨_, (pss_cons (ps_ost (pv 0) (pv 1)) (pss_one (ps_ost (pv 0) (pv 2)))), ?_⟩
    refine ⟨_, rfl, _, rfl, a, C, rfl, T, no "prime" (by decide +kernel), .inl ⟨ha, fun dx hd ne => ?_⟩⟩
    have e0 : (upd (upd H dx (exd dx [("prime", x)])) a (exo a C (some dx))) dx = some (exd dx [("prime", x)]) := by rw [upd_ne ne, upd_same]
    have k0 : ∀ b o, b ≠ a → H b = some o → (upd (upd H dx (exd dx [("prime", x)])) a (exo a C (some dx))) b = some o := fun b o h1 h2 => by
      rw [upd_ne h1, upd_ne (ne_of_none h2 hd)]
      exact h2
    refine ⟨_, rfl, _, rfl, a, C, rfl, T, no "bound" (by decide +kernel), .inr ⟨dx, _, upd_same, e0, (by show 1 ≤ 900; decide), ?_⟩⟩
    refine k dx _ hd ne (by rw [upd_ne ne.symm]; exact upd_same) upd_same fun b o h1 h2 => ?_
    rw [upd_ne (ne_of_none h2 hd)]
    exact k0 b o h1 h2
abbrev s_TooMany : Stmt := inClass (topS 9) 0
theorem sc_TooMany : FnScope ["self", "what", "many", "limit"] ["self", "what", "many", "limit"] (defScope s_TooMany) := ⟨rfl, rfl, rfl, by decide +kernel, rfl, by decide +kernel, by decide +kernel⟩
theorem ok_TooMany {f : Addr} {fd : FuncData} (F : Fun K "__init__" "TooMany.__init__" s_TooMany f fd) : FnOk P w K mg base CX0 1 f fd ["self", "what", "many", "limit"] (spI K ["what", "many", "limit"]) := by
  refine F.ok sc_TooMany (fun vs H Q E h => ?_) (fun cdv A outer s H vs Q E hr h => ?_)
  · obtain ⟨a, C, xs, rfl, hl, _⟩ := h
    show xs.length + 1 = _
    rw [hl]
    rfl
  · obtain ⟨a, C, xs, rfl, hl, T, no, ha, k⟩ := h
    obtain ⟨x, y, z, rfl⟩ : ∃ x y z, xs = [x, y, z] := by
      match xs, hl with
      | [x, y, z], _ => exact ⟨x, y, z, rfl⟩
    refine ⟨_, (pss_cons (ps_ost (pv 0) (pv 1)) (pss_cons (ps_ost (pv 0) (pv 2)) (pss_one (ps_ost (pv 0) (pv 3))))), ?_⟩
    refine ⟨_, rfl, _, rfl, a, C, rfl, T, no "what" (by decide +kernel), .inl ⟨ha, fun dx hd ne => ?_⟩⟩
    have e0 : (upd (upd H dx (exd dx [("what", x)])) a (exo a C (some dx))) dx = some (exd dx [("what", x)]) := by rw [upd_ne ne, upd_same]
    have k0 : ∀ b o, b ≠ a → H b = some o → (upd (upd H dx (exd dx [("what", x)])) a (exo a C (some dx))) b = some o := fun b o h1 h2 => by
      rw [upd_ne h1, upd_ne (ne_of_none h2 hd)]
      exact h2
    refine ⟨_, rfl, _, rfl, a, C, rfl, T, no "many" (by decide +kernel), .inr ⟨dx, _, upd_same, e0, (by show 1 ≤ 900; decide), ?_⟩⟩
    refine ⟨_, rfl, _, rfl, a, C, rfl, T, no "limit" (by decide +kernel), .inr ⟨dx, _, (by rw [upd_ne ne.symm]; exact upd_same), upd_same, (by show 2 ≤ 900; decide), ?_⟩⟩
    refine k dx _ hd ne (by rw [upd_ne ne.symm, upd_ne ne.symm]; exact upd_same) upd_same fun b o h1 h2 => ?_
    rw [upd_ne (ne_of_none h2 hd), upd_ne (ne_of_none h2 hd)]
    exact k0 b o h1 h2
abbrev s_NotKept : Stmt := inClass (topS 10) 0
theorem sc_NotKept : FnScope ["self", "promise", "witness"] ["self", "promise", "witness"] (defScope s_NotKept) := ⟨rfl, rfl, rfl, by decide +kernel, rfl, by decide +kernel, by decide +kernel⟩
theorem ok_NotKept {f : Addr} {fd : FuncData} (F : Fun K "__init__" "NotKept.__init__" s_NotKept f fd) : FnOk P w K mg base CX0 1 f fd ["self", "promise", "witness"] (spI K ["promise", "witness"]) := by
  refine F.ok sc_NotKept (fun vs H Q E h => ?_) (fun cdv A outer s H vs Q E hr h => ?_)
  · obtain ⟨a, C, xs, rfl, hl, _⟩ := h
    show xs.length + 1 = _
    rw [hl]
    rfl
  · obtain ⟨a, C, xs, rfl, hl, T, no, ha, k⟩ := h
    obtain ⟨x, y, rfl⟩ : ∃ x y, xs = [x, y] := by
      match xs, hl with
      | [x, y], _ => exact ⟨x, y, rfl⟩
    refine ⟨_, (pss_cons (ps_ost (pv 0) (pv 1)) (pss_one (ps_ost (pv 0) (pv 2)))), ?_⟩
    refine ⟨_, rfl, _, rfl, a, C, rfl, T, no "promise" (by decide +kernel), .inl ⟨ha, fun dx hd ne => ?_⟩⟩
    have e0 : (upd (upd H dx (exd dx [("promise", x)])) a (exo a C (some dx))) dx = some (exd dx [("promise", x)]) := by rw [upd_ne ne, upd_same]
    have k0 : ∀ b o, b ≠ a → H b = some o → (upd (upd H dx (exd dx [("promise", x)])) a (exo a C (some dx))) b = some o := fun b o h1 h2 => by
      rw [upd_ne h1, upd_ne (ne_of_none h2 hd)]
      exact h2
    refine ⟨_, rfl, _, rfl, a, C, rfl, T, no "witness" (by decide +kernel), .inr ⟨dx, _, upd_same, e0, (by show 1 ≤ 900; decide), ?_⟩⟩
    refine k dx _ hd ne (by rw [upd_ne ne.symm]; exact upd_same) upd_same fun b o h1 h2 => ?_
    rw [upd_ne (ne_of_none h2 hd)]
    exact k0 b o h1 h2
end
end Z
set_option Elab.async false
set_option linter.all false
set_option maxRecDepth 100000
set_option maxHeartbeats 2000000
namespace Z
open PySem L2 PyProof.Rows
abbrev s_l_made : Stmt := topS 19
theorem sc_l_made : FnScope ["_law_kind", "_law_a", "_law_b", "_law_c", "_law_e"] ["_law_kind", "_law_a", "_law_b", "_law_c"] (defScope s_l_made) := ⟨rfl, rfl, rfl, by decide +kernel, rfl, by decide +kernel, by decide +kernel⟩
abbrev s_l_kinds : Stmt := topS 20
theorem sc_l_kinds : FnScope ["_law_e", "_law_found"] ["_law_e"] (defScope s_l_kinds) := ⟨rfl, rfl, rfl, by decide +kernel, rfl, by decide +kernel, by decide +kernel⟩
structure All (P : Program) (w : World) (K : PySem.W.Frag) (mg : Str → Option Value) (base : Heap) (C0 C1 C2 C3 C4 C5 C6 C7 C8 C9 C10 : Addr) : Prop where
  BadText : MkE P w K mg base "BadText" C0 ["self", "line", "column"] ["line", "column"]
  BadNumber : MkE P w K mg base "BadNumber" C1 ["self", "what", "number"] ["what", "number"]
  BadName : MkE P w K mg base "BadName" C2 ["self", "name"] ["name"]
  BadLot : MkE P w K mg base "BadLot" C3 ["self", "lot"] ["lot"]
  NoName : MkE P w K mg base "NoName" C4 ["self", "name"] ["name"]
  TakenName : MkE P w K mg base "TakenName" C5 ["self", "name"] ["name"]
  TooSmall : MkE P w K mg base "TooSmall" C6 ["self", "prime", "bound"] ["prime", "bound"]
  TooMany : MkE P w K mg base "TooMany" C7 ["self", "what", "many", "limit"] ["what", "many", "limit"]
  NotKept : MkE P w K mg base "NotKept" C8 ["self", "promise", "witness"] ["promise", "witness"]
  NothingToUndo : Mk0 K mg "NothingToUndo" C9
  NothingToRedo : Mk0 K mg "NothingToRedo" C10
/-- how many fields the i-th error has -/
def many : Nat → Nat := fun i => [2, 2, 1, 1, 1, 1, 2, 3, 2, 0, 0].getD i 0
def spMade (K : PySem.W.Frag) (Cs : List Addr) : Sp := fun vs H Q _ => ∃ (i : Nat) (a b c : V) (D : Addr), vs = [.int (i : Int), a, b, c] ∧ i < 11 ∧ Cs[i]? = some D ∧
  ∀ (x T F : Addr) (H' : Hp), ExV K H' x D → H' T = some (.tup [.ref x, .ref F]) → H' F = some (.tup ([a, b, c].take (many i))) → Same H H' → Q (.ref T) H'
theorem same_trans3 {H H1 : Hp} {F T : Addr} {o u : HO} (s : Same H H1) (hF : H1 F = none) (hT : upd H1 F o T = none) : Same H (upd (upd H1 F o) T u) := (s.trans (same_new hF)).trans (same_new hT)
theorem exv_upd {K : PySem.W.Frag} {H1 : Hp} {x D F T : Addr} {o u : HO} (h : ExV K H1 x D) (hF : H1 F = none) (hT : upd H1 F o T = none) : ExV K (upd (upd H1 F o) T u) x D :=
  h.keep fun b φ e => same_new hT _ _ (same_new hF _ _ e)
section
variable {P : Program} {w : World} {K : PySem.W.Frag} {mg : Str → Option Value} {base : Heap}
theorem ok_made {f : Addr} {fd : FuncData} {C0 C1 C2 C3 C4 C5 C6 C7 C8 C9 C10 : Addr} (F : Fun K "_law_made" "_law_made" s_l_made f fd) (M : All P w K mg base C0 C1 C2 C3 C4 C5 C6 C7 C8 C9 C10) :
    FnOk P w K mg base CX0 3 f fd ["_law_kind", "_law_a", "_law_b", "_law_c"] (spMade K [C0, C1, C2, C3, C4, C5, C6, C7, C8, C9, C10]) := by
  refine F.ok sc_l_made (fun vs H Q E h => ?_) (fun cdv A outer s H vs Q E hr h => ?_)
  · obtain ⟨i, a, b, c, D, rfl, _⟩ := h
    rfl
  · obtain ⟨i, a, b, c, D, rfl, hi, hD, k⟩ := h
    refine ⟨_, (pss_cons (ps_if (pt_cmpR op_eq (pv 0) pe_int (nomark _))
        (pss_cons (ps_set (i := 4) sc_l_made.nd rfl (Or.inl rfl) (pe_mkE M.BadText hr (pa_cons (pv 1) (pa_cons (pv 2) pa_nil))))
          (pss_one (ps_ret (pe_tup (pa_cons (pv 4) (pa_cons (pe_tup (pa_cons (pe_exf (pv 4)) (pa_cons (pe_exf (pv 4)) pa_nil))) pa_nil))))))
        pss_nil)
      (pss_cons (ps_if (pt_cmpR op_eq (pv 0) pe_int (nomark _))
        (pss_cons (ps_set (i := 4) sc_l_made.nd rfl (Or.inl rfl) (pe_mkE M.BadNumber hr (pa_cons (pv 1) (pa_cons (pv 2) pa_nil))))
          (pss_one (ps_ret (pe_tup (pa_cons (pv 4) (pa_cons (pe_tup (pa_cons (pe_exf (pv 4)) (pa_cons (pe_exf (pv 4)) pa_nil))) pa_nil))))))
        pss_nil)
      (pss_cons (ps_if (pt_cmpR op_eq (pv 0) pe_int (nomark _))
        (pss_cons (ps_set (i := 4) sc_l_made.nd rfl (Or.inl rfl) (pe_mkE M.BadName hr (pa_cons (pv 1) pa_nil)))
          (pss_one (ps_ret (pe_tup (pa_cons (pv 4) (pa_cons (pe_tup (pa_cons (pe_exf (pv 4)) pa_nil)) pa_nil))))))
        pss_nil)
      (pss_cons (ps_if (pt_cmpR op_eq (pv 0) pe_int (nomark _))
        (pss_cons (ps_set (i := 4) sc_l_made.nd rfl (Or.inl rfl) (pe_mkE M.BadLot hr (pa_cons (pv 1) pa_nil)))
          (pss_one (ps_ret (pe_tup (pa_cons (pv 4) (pa_cons (pe_tup (pa_cons (pe_exf (pv 4)) pa_nil)) pa_nil))))))
        pss_nil)
      (pss_cons (ps_if (pt_cmpR op_eq (pv 0) pe_int (nomark _))
        (pss_cons (ps_set (i := 4) sc_l_made.nd rfl (Or.inl rfl) (pe_mkE M.NoName hr (pa_cons (pv 1) pa_nil)))
          (pss_one (ps_ret (pe_tup (pa_cons (pv 4) (pa_cons (pe_tup (pa_cons (pe_exf (pv 4)) pa_nil)) pa_nil))))))
        pss_nil)
      (pss_cons (ps_if (pt_cmpR op_eq (pv 0) pe_int (nomark _))
        (pss_cons (ps_set (i := 4) sc_l_made.nd rfl (Or.inl rfl) (pe_mkE M.TakenName hr (pa_cons (pv 1) pa_nil)))
          (pss_one (ps_ret (pe_tup (pa_cons (pv 4) (pa_cons (pe_tup (pa_cons (pe_exf (pv 4)) pa_nil)) pa_nil))))))
        pss_nil)
      (pss_cons (ps_if (pt_cmpR op_eq (pv 0) pe_int (nomark _))
        (pss_cons (ps_set (i := 4) sc_l_made.nd rfl (Or.inl rfl) (pe_mkE M.TooSmall hr (pa_cons (pv 1) (pa_cons (pv 2) pa_nil))))
          (pss_one (ps_ret (pe_tup (pa_cons (pv 4) (pa_cons (pe_tup (pa_cons (pe_exf (pv 4)) (pa_cons (pe_exf (pv 4)) pa_nil))) pa_nil))))))
        pss_nil)
      (pss_cons (ps_if (pt_cmpR op_eq (pv 0) pe_int (nomark _))
        (pss_cons (ps_set (i := 4) sc_l_made.nd rfl (Or.inl rfl) (pe_mkE M.TooMany hr (pa_cons (pv 1) (pa_cons (pv 2) (pa_cons (pv 3) pa_nil)))))
          (pss_one (ps_ret (pe_tup (pa_cons (pv 4) (pa_cons (pe_tup (pa_cons (pe_exf (pv 4)) (pa_cons (pe_exf (pv 4)) (pa_cons (pe_exf (pv 4)) pa_nil)))) pa_nil))))))
        pss_nil)
      (pss_cons (ps_if (pt_cmpR op_eq (pv 0) pe_int (nomark _))
        (pss_cons (ps_set (i := 4) sc_l_made.nd rfl (Or.inl rfl) (pe_mkE M.NotKept hr (pa_cons (pv 1) (pa_cons (pv 2) pa_nil))))
          (pss_one (ps_ret (pe_tup (pa_cons (pv 4) (pa_cons (pe_tup (pa_cons (pe_exf (pv 4)) (pa_cons (pe_exf (pv 4)) pa_nil))) pa_nil))))))
        pss_nil)
      (pss_one (ps_ret (pe_tup (pa_cons (pe_ifExp (pt_cmpR op_eq (pv 0) pe_int (nomark _)) (pe_mk0 PySem.F.excBase_ValueError M.NothingToUndo.ex M.NothingToUndo.g M.NothingToUndo.xc.oe.kC) (pe_mk0 PySem.F.excBase_ValueError M.NothingToRedo.ex M.NothingToRedo.g M.NothingToRedo.xc.oe.kC)) (pa_cons (pe_tup pa_nil) pa_nil)))))))))))))), ?_⟩
    have hi2 : i = 0 ∨ i = 1 ∨ i = 2 ∨ i = 3 ∨ i = 4 ∨ i = 5 ∨ i = 6 ∨ i = 7 ∨ i = 8 ∨ i = 9 ∨ i = 10 := by omega
    rcases hi2 with rfl | rfl | rfl | rfl | rfl | rfl | rfl | rfl | rfl | rfl | rfl
    · cases (Option.some.inj hD)
      refine ⟨_, rfl, rfl, _, rfl, if_t (by decide +kernel) ?_⟩
      refine ⟨_, rfl, _, rfl, (by show 2 ≤ 1000; decide), fun x hx => ⟨x, C0, [a, b], rfl, rfl, M.BadText.xc.oe, M.BadText.no, upd_same, fun dx H1 hd ne ha hb hk => ⟨rfl, ?_⟩⟩⟩
      have s1 : Same H H1 := fun b' o e => hk b' o (ne_of_none e hx) (by rw [upd_ne (ne_of_none e hx)]; exact e)
      have ex : ExV K H1 x C0 := ⟨M.BadText.xc, some dx, ha, .inr ⟨dx, _, rfl, hb⟩⟩
      refine ⟨_, rfl, _, rfl, x, C0, dx, _, a, rfl, M.BadText.xc, M.BadText.no "line" (by decide +kernel), ha, hb, (by kernel_rfl), _, rfl, x, C0, dx, _, b, rfl, M.BadText.xc, M.BadText.no "column" (by decide +kernel), ha, hb, (by kernel_rfl), (by show 2 ≤ sizeLine; rw [sizeLine_eq]; decide), fun F hF => ⟨(by show 2 ≤ sizeLine; rw [sizeLine_eq]; decide), fun T hT => ?_⟩⟩
      exact k x T F _ (exv_upd ex hF hT) upd_same (same_new hT _ _ upd_same) (same_trans3 s1 hF hT)
    · cases (Option.some.inj hD)
      refine ⟨_, rfl, rfl, _, rfl, if_f (by decide +kernel) ?_⟩
      refine ⟨_, rfl, rfl, _, rfl, if_t (by decide +kernel) ?_⟩
      refine ⟨_, rfl, _, rfl, (by show 2 ≤ 1000; decide), fun x hx => ⟨x, C1, [a, b], rfl, rfl, M.BadNumber.xc.oe, M.BadNumber.no, upd_same, fun dx H1 hd ne ha hb hk => ⟨rfl, ?_⟩⟩⟩
      have s1 : Same H H1 := fun b' o e => hk b' o (ne_of_none e hx) (by rw [upd_ne (ne_of_none e hx)]; exact e)
      have ex : ExV K H1 x C1 := ⟨M.BadNumber.xc, some dx, ha, .inr ⟨dx, _, rfl, hb⟩⟩
      refine ⟨_, rfl, _, rfl, x, C1, dx, _, a, rfl, M.BadNumber.xc, M.BadNumber.no "what" (by decide +kernel), ha, hb, (by kernel_rfl), _, rfl, x, C1, dx, _, b, rfl, M.BadNumber.xc, M.BadNumber.no "number" (by decide +kernel), ha, hb, (by kernel_rfl), (by show 2 ≤ sizeLine; rw [sizeLine_eq]; decide), fun F hF => ⟨(by show 2 ≤ sizeLine; rw [sizeLine_eq]; decide), fun T hT => ?_⟩⟩
      exact k x T F _ (exv_upd ex hF hT) upd_same (same_new hT _ _ upd_same) (same_trans3 s1 hF hT)
    · cases (Option.some.inj hD)
      refine ⟨_, rfl, rfl, _, rfl, if_f (by decide +kernel) ?_⟩
      refine ⟨_, rfl, rfl, _, rfl, if_f (by decide +kernel) ?_⟩
      refine ⟨_, rfl, rfl, _, rfl, if_t (by decide +kernel) ?_⟩
      refine ⟨_, rfl, (by show 1 ≤ 1000; decide), fun x hx => ⟨x, C2, [a], rfl, rfl, M.BadName.xc.oe, M.BadName.no, upd_same, fun dx H1 hd ne ha hb hk => ⟨rfl, ?_⟩⟩⟩
      have s1 : Same H H1 := fun b' o e => hk b' o (ne_of_none e hx) (by rw [upd_ne (ne_of_none e hx)]; exact e)
      have ex : ExV K H1 x C2 := ⟨M.BadName.xc, some dx, ha, .inr ⟨dx, _, rfl, hb⟩⟩
      refine ⟨_, rfl, _, rfl, x, C2, dx, _, a, rfl, M.BadName.xc, M.BadName.no "name" (by decide +kernel), ha, hb, (by kernel_rfl), (by show 1 ≤ sizeLine; rw [sizeLine_eq]; decide), fun F hF => ⟨(by show 2 ≤ sizeLine; rw [sizeLine_eq]; decide), fun T hT => ?_⟩⟩
      exact k x T F _ (exv_upd ex hF hT) upd_same (same_new hT _ _ upd_same) (same_trans3 s1 hF hT)
    · cases (Option.some.inj hD)
      refine ⟨_, rfl, rfl, _, rfl, if_f (by decide +kernel) ?_⟩
      refine ⟨_, rfl, rfl, _, rfl, if_f (by decide +kernel) ?_⟩
      refine ⟨_, rfl, rfl, _, rfl, if_f (by decide +kernel) ?_⟩
      refine ⟨_, rfl, rfl, _, rfl, if_t (by decide +kernel) ?_⟩
      refine ⟨_, rfl, (by show 1 ≤ 1000; decide), fun x hx => ⟨x, C3, [a], rfl, rfl, M.BadLot.xc.oe, M.BadLot.no, upd_same, fun dx H1 hd ne ha hb hk => ⟨rfl, ?_⟩⟩⟩
      have s1 : Same H H1 := fun b' o e => hk b' o (ne_of_none e hx) (by rw [upd_ne (ne_of_none e hx)]; exact e)
      have ex : ExV K H1 x C3 := ⟨M.BadLot.xc, some dx, ha, .inr ⟨dx, _, rfl, hb⟩⟩
      refine ⟨_, rfl, _, rfl, x, C3, dx, _, a, rfl, M.BadLot.xc, M.BadLot.no "lot" (by decide +kernel), ha, hb, (by kernel_rfl), (by show 1 ≤ sizeLine; rw [sizeLine_eq]; decide), fun F hF => ⟨(by show 2 ≤ sizeLine; rw [sizeLine_eq]; decide), fun T hT => ?_⟩⟩
      exact k x T F _ (exv_upd ex hF hT) upd_same (same_new hT _ _ upd_same) (same_trans3 s1 hF hT)
    · cases (Option.some.inj hD)
      refine ⟨_, rfl, rfl, _, rfl, if_f (by decide +kernel) ?_⟩
      refine ⟨_, rfl, rfl, _, rfl, if_f (by decide +kernel) ?_⟩
      refine ⟨_, rfl, rfl, _, rfl, if_f (by decide +kernel) ?_⟩
      refine ⟨_, rfl, rfl, _, rfl, if_f (by decide +kernel) ?_⟩
      refine ⟨_, rfl, rfl, _, rfl, if_t (by decide +kernel) ?_⟩
      refine ⟨_, rfl, (by show 1 ≤ 1000; decide), fun x hx => ⟨x, C4, [a], rfl, rfl, M.NoName.xc.oe, M.NoName.no, upd_same, fun dx H1 hd ne ha hb hk => ⟨rfl, ?_⟩⟩⟩
      have s1 : Same H H1 := fun b' o e => hk b' o (ne_of_none e hx) (by rw [upd_ne (ne_of_none e hx)]; exact e)
      have ex : ExV K H1 x C4 := ⟨M.NoName.xc, some dx, ha, .inr ⟨dx, _, rfl, hb⟩⟩
      refine ⟨_, rfl, _, rfl, x, C4, dx, _, a, rfl, M.NoName.xc, M.NoName.no "name" (by decide +kernel), ha, hb, (by kernel_rfl), (by show 1 ≤ sizeLine; rw [sizeLine_eq]; decide), fun F hF => ⟨(by show 2 ≤ sizeLine; rw [sizeLine_eq]; decide), fun T hT => ?_⟩⟩
      exact k x T F _ (exv_upd ex hF hT) upd_same (same_new hT _ _ upd_same) (same_trans3 s1 hF hT)
    · cases (Option.some.inj hD)
      refine ⟨_, rfl, rfl, _, rfl, if_f (by decide +kernel) ?_⟩
      refine ⟨_, rfl, rfl, _, rfl, if_f (by decide +kernel) ?_⟩
      refine ⟨_, rfl, rfl, _, rfl, if_f (by decide +kernel) ?_⟩
      refine ⟨_, rfl, rfl, _, rfl, if_f (by decide +kernel) ?_⟩
      refine ⟨_, rfl, rfl, _, rfl, if_f (by decide +kernel) ?_⟩
      refine ⟨_, rfl, rfl, _, rfl, if_t (by decide +kernel) ?_⟩
      refine ⟨_, rfl, (by show 1 ≤ 1000; decide), fun x hx => ⟨x, C5, [a], rfl, rfl, M.TakenName.xc.oe, M.TakenName.no, upd_same, fun dx H1 hd ne ha hb hk => ⟨rfl, ?_⟩⟩⟩
      have s1 : Same H H1 := fun b' o e => hk b' o (ne_of_none e hx) (by rw [upd_ne (ne_of_none e hx)]; exact e)
      have ex : ExV K H1 x C5 := ⟨M.TakenName.xc, some dx, ha, .inr ⟨dx, _, rfl, hb⟩⟩
      refine ⟨_, rfl, _, rfl, x, C5, dx, _, a, rfl, M.TakenName.xc, M.TakenName.no "name" (by decide +kernel), ha, hb, (by kernel_rfl), (by show 1 ≤ sizeLine; rw [sizeLine_eq]; decide), fun F hF => ⟨(by show 2 ≤ sizeLine; rw [sizeLine_eq]; decide), fun T hT => ?_⟩⟩
      exact k x T F _ (exv_upd ex hF hT) upd_same (same_new hT _ _ upd_same) (same_trans3 s1 hF hT)
    · cases (Option.some.inj hD)
      refine ⟨_, rfl, rfl, _, rfl, if_f (by decide +kernel) ?_⟩
      refine ⟨_, rfl, rfl, _, rfl, if_f (by decide +kernel) ?_⟩
      refine ⟨_, rfl, rfl, _, rfl, if_f (by decide +kernel) ?_⟩
      refine ⟨_, rfl, rfl, _, rfl, if_f (by decide +kernel) ?_⟩
      refine ⟨_, rfl, rfl, _, rfl, if_f (by decide +kernel) ?_⟩
      refine ⟨_, rfl, rfl, _, rfl, if_f (by decide +kernel) ?_⟩
      refine ⟨_, rfl, rfl, _, rfl, if_t (by decide +kernel) ?_⟩
      refine ⟨_, rfl, _, rfl, (by show 2 ≤ 1000; decide), fun x hx => ⟨x, C6, [a, b], rfl, rfl, M.TooSmall.xc.oe, M.TooSmall.no, upd_same, fun dx H1 hd ne ha hb hk => ⟨rfl, ?_⟩⟩⟩
      have s1 : Same H H1 := fun b' o e => hk b' o (ne_of_none e hx) (by rw [upd_ne (ne_of_none e hx)]; exact e)
      have ex : ExV K H1 x C6 := ⟨M.TooSmall.xc, some dx, ha, .inr ⟨dx, _, rfl, hb⟩⟩
      refine ⟨_, rfl, _, rfl, x, C6, dx, _, a, rfl, M.TooSmall.xc, M.TooSmall.no "prime" (by decide +kernel), ha, hb, (by kernel_rfl), _, rfl, x, C6, dx, _, b, rfl, M.TooSmall.xc, M.TooSmall.no "bound" (by decide +kernel), ha, hb, (by kernel_rfl), (by show 2 ≤ sizeLine; rw [sizeLine_eq]; decide), fun F hF => ⟨(by show 2 ≤ sizeLine; rw [sizeLine_eq]; decide), fun T hT => ?_⟩⟩
      exact k x T F _ (exv_upd ex hF hT) upd_same (same_new hT _ _ upd_same) (same_trans3 s1 hF hT)
    · cases (Option.some.inj hD)
      refine ⟨_, rfl, rfl, _, rfl, if_f (by decide +kernel) ?_⟩
      refine ⟨_, rfl, rfl, _, rfl, if_f (by decide +kernel) ?_⟩
      refine ⟨_, rfl, rfl, _, rfl, if_f (by decide +kernel) ?_⟩
      refine ⟨_, rfl, rfl, _, rfl, if_f (by decide +kernel) ?_⟩
      refine ⟨_, rfl, rfl, _, rfl, if_f (by decide +kernel) ?_⟩
      refine ⟨_, rfl, rfl, _, rfl, if_f (by decide +kernel) ?_⟩
      refine ⟨_, rfl, rfl, _, rfl, if_f (by decide +kernel) ?_⟩
      refine ⟨_, rfl, rfl, _, rfl, if_t (by decide +kernel) ?_⟩
      refine ⟨_, rfl, _, rfl, _, rfl, (by show 3 ≤ 1000; decide), fun x hx => ⟨x, C7, [a, b, c], rfl, rfl, M.TooMany.xc.oe, M.TooMany.no, upd_same, fun dx H1 hd ne ha hb hk => ⟨rfl, ?_⟩⟩⟩
      have s1 : Same H H1 := fun b' o e => hk b' o (ne_of_none e hx) (by rw [upd_ne (ne_of_none e hx)]; exact e)
      have ex : ExV K H1 x C7 := ⟨M.TooMany.xc, some dx, ha, .inr ⟨dx, _, rfl, hb⟩⟩
      refine ⟨_, rfl, _, rfl, x, C7, dx, _, a, rfl, M.TooMany.xc, M.TooMany.no "what" (by decide +kernel), ha, hb, (by kernel_rfl), _, rfl, x, C7, dx, _, b, rfl, M.TooMany.xc, M.TooMany.no "many" (by decide +kernel), ha, hb, (by kernel_rfl), _, rfl, x, C7, dx, _, c, rfl, M.TooMany.xc, M.TooMany.no "limit" (by decide +kernel), ha, hb, (by kernel_rfl), (by show 3 ≤ sizeLine; rw [sizeLine_eq]; decide), fun F hF => ⟨(by show 2 ≤ sizeLine; rw [sizeLine_eq]; decide), fun T hT => ?_⟩⟩
      exact k x T F _ (exv_upd ex hF hT) upd_same (same_new hT _ _ upd_same) (same_trans3 s1 hF hT)
    · cases (Option.some.inj hD)
      refine ⟨_, rfl, rfl, _, rfl, if_f (by decide +kernel) ?_⟩
      refine ⟨_, rfl, rfl, _, rfl, if_f (by decide +kernel) ?_⟩
      refine ⟨_, rfl, rfl, _, rfl, if_f (by decide +kernel) ?_⟩
      refine ⟨_, rfl, rfl, _, rfl, if_f (by decide +kernel) ?_⟩
      refine ⟨_, rfl, rfl, _, rfl, if_f (by decide +kernel) ?_⟩
      refine ⟨_, rfl, rfl, _, rfl, if_f (by decide +kernel) ?_⟩
      refine ⟨_, rfl, rfl, _, rfl, if_f (by decide +kernel) ?_⟩
      refine ⟨_, rfl, rfl, _, rfl, if_f (by decide +kernel) ?_⟩
      refine ⟨_, rfl, rfl, _, rfl, if_t (by decide +kernel) ?_⟩
      refine ⟨_, rfl, _, rfl, (by show 2 ≤ 1000; decide), fun x hx => ⟨x, C8, [a, b], rfl, rfl, M.NotKept.xc.oe, M.NotKept.no, upd_same, fun dx H1 hd ne ha hb hk => ⟨rfl, ?_⟩⟩⟩
      have s1 : Same H H1 := fun b' o e => hk b' o (ne_of_none e hx) (by rw [upd_ne (ne_of_none e hx)]; exact e)
      have ex : ExV K H1 x C8 := ⟨M.NotKept.xc, some dx, ha, .inr ⟨dx, _, rfl, hb⟩⟩
      refine ⟨_, rfl, _, rfl, x, C8, dx, _, a, rfl, M.NotKept.xc, M.NotKept.no "promise" (by decide +kernel), ha, hb, (by kernel_rfl), _, rfl, x, C8, dx, _, b, rfl, M.NotKept.xc, M.NotKept.no "witness" (by decide +kernel), ha, hb, (by kernel_rfl), (by show 2 ≤ sizeLine; rw [sizeLine_eq]; decide), fun F hF => ⟨(by show 2 ≤ sizeLine; rw [sizeLine_eq]; decide), fun T hT => ?_⟩⟩
      exact k x T F _ (exv_upd ex hF hT) upd_same (same_new hT _ _ upd_same) (same_trans3 s1 hF hT)
    · cases (Option.some.inj hD)
      refine ⟨_, rfl, rfl, _, rfl, if_f (by decide +kernel) ?_⟩
      refine ⟨_, rfl, rfl, _, rfl, if_f (by decide +kernel) ?_⟩
      refine ⟨_, rfl, rfl, _, rfl, if_f (by decide +kernel) ?_⟩
      refine ⟨_, rfl, rfl, _, rfl, if_f (by decide +kernel) ?_⟩
      refine ⟨_, rfl, rfl, _, rfl, if_f (by decide +kernel) ?_⟩
      refine ⟨_, rfl, rfl, _, rfl, if_f (by decide +kernel) ?_⟩
      refine ⟨_, rfl, rfl, _, rfl, if_f (by decide +kernel) ?_⟩
      refine ⟨_, rfl, rfl, _, rfl, if_f (by decide +kernel) ?_⟩
      refine ⟨_, rfl, rfl, _, rfl, if_f (by decide +kernel) ?_⟩
      refine ⟨_, rfl, rfl, _, rfl, if_t (by decide +kernel) ?_⟩
      intro x hx
      have s1 : Same H (upd H x (exo x C9 none)) := same_new hx
      have ex : ExV K (upd H x (exo x C9 none)) x C9 := ⟨M.NothingToUndo.xc, none, upd_same, .inl rfl⟩
      refine ⟨Nat.zero_le _, fun F hF => ⟨(by show 2 ≤ sizeLine; rw [sizeLine_eq]; decide), fun T hT => ?_⟩⟩
      exact k x T F _ (exv_upd ex hF hT) upd_same (same_new hT _ _ upd_same) (same_trans3 s1 hF hT)
    · cases (Option.some.inj hD)
      refine ⟨_, rfl, rfl, _, rfl, if_f (by decide +kernel) ?_⟩
      refine ⟨_, rfl, rfl, _, rfl, if_f (by decide +kernel) ?_⟩
      refine ⟨_, rfl, rfl, _, rfl, if_f (by decide +kernel) ?_⟩
      refine ⟨_, rfl, rfl, _, rfl, if_f (by decide +kernel) ?_⟩
      refine ⟨_, rfl, rfl, _, rfl, if_f (by decide +kernel) ?_⟩
      refine ⟨_, rfl, rfl, _, rfl, if_f (by decide +kernel) ?_⟩
      refine ⟨_, rfl, rfl, _, rfl, if_f (by decide +kernel) ?_⟩
      refine ⟨_, rfl, rfl, _, rfl, if_f (by decide +kernel) ?_⟩
      refine ⟨_, rfl, rfl, _, rfl, if_f (by decide +kernel) ?_⟩
      refine ⟨_, rfl, rfl, _, rfl, if_f (by decide +kernel) ?_⟩
      intro x hx
      have s1 : Same H (upd H x (exo x C10 none)) := same_new hx
      have ex : ExV K (upd H x (exo x C10 none)) x C10 := ⟨M.NothingToRedo.xc, none, upd_same, .inl rfl⟩
      refine ⟨Nat.zero_le _, fun F hF => ⟨(by show 2 ≤ sizeLine; rw [sizeLine_eq]; decide), fun T hT => ?_⟩⟩
      exact k x T F _ (exv_upd ex hF hT) upd_same (same_new hT _ _ upd_same) (same_trans3 s1 hF hT)
/-- which error is of which class -/
def Kit (K : PySem.W.Frag) (Cs : List Addr) : Prop := ∀ (i j : Nat) (D C : Addr), Cs[i]? = some D → Cs[j]? = some C → PySem.W.kitOne K (.ref D) (.ref C) = some (decide (j = i))
def spKinds (K : PySem.W.Frag) (Cs : List Addr) : Sp := fun vs H Q _ => ∃ (i : Nat) (x D : Addr), vs = [.ref x] ∧ Cs[i]? = some D ∧ ExV K H x D ∧
  ∀ (L : Addr) (H' : Hp), H' L = some (.lst ((List.range 11).map fun j => .bl (decide (j = i)))) → Same H H' → Q (.ref L) H'
theorem ok_kinds {f : Addr} {fd : FuncData} {C0 C1 C2 C3 C4 C5 C6 C7 C8 C9 C10 : Addr} (F : Fun K "_law_kinds" "_law_kinds" s_l_kinds f fd) (M : All P w K mg base C0 C1 C2 C3 C4 C5 C6 C7 C8 C9 C10) (kit : Kit K [C0, C1, C2, C3, C4, C5, C6, C7, C8, C9, C10]) (bI : mg "isinstance" = none) :
    FnOk P w K mg base CX0 1 f fd ["_law_e"] (spKinds K [C0, C1, C2, C3, C4, C5, C6, C7, C8, C9, C10]) := by
  refine F.ok sc_l_kinds (fun vs H Q E h => ?_) (fun cdv A outer s H vs Q E hr h => ?_)
  · obtain ⟨i, x, D, rfl, _⟩ := h
    rfl
  · obtain ⟨i, x, D, rfl, hD, ex, k⟩ := h
    refine ⟨_, (pss_cons (ps_set (i := 1) sc_l_kinds.nd rfl (Or.inl rfl) (pe_lst (pa_cons (pe_callB call_isX (by rfl) bI (by decide +kernel) (pa_cons (pv 0) (pa_cons (pe_glob (v := .ref C0) rfl M.BadText.g rfl) pa_nil))) (pa_cons (pe_callB call_isX (by rfl) bI (by decide +kernel) (pa_cons (pv 0) (pa_cons (pe_glob (v := .ref C1) rfl M.BadNumber.g rfl) pa_nil))) (pa_cons (pe_callB call_isX (by rfl) bI (by decide +kernel) (pa_cons (pv 0) (pa_cons (pe_glob (v := .ref C2) rfl M.BadName.g rfl) pa_nil))) (pa_cons (pe_callB call_isX (by rfl) bI (by decide +kernel) (pa_cons (pv 0) (pa_cons (pe_glob (v := .ref C3) rfl M.BadLot.g rfl) pa_nil))) pa_nil))))))
      (pss_cons (ps_set (i := 1) sc_l_kinds.nd rfl (Or.inl rfl) (pe_op op_cat (pv 1) (pe_lst (pa_cons (pe_callB call_isX (by rfl) bI (by decide +kernel) (pa_cons (pv 0) (pa_cons (pe_glob (v := .ref C4) rfl M.NoName.g rfl) pa_nil))) (pa_cons (pe_callB call_isX (by rfl) bI (by decide +kernel) (pa_cons (pv 0) (pa_cons (pe_glob (v := .ref C5) rfl M.TakenName.g rfl) pa_nil))) (pa_cons (pe_callB call_isX (by rfl) bI (by decide +kernel) (pa_cons (pv 0) (pa_cons (pe_glob (v := .ref C6) rfl M.TooSmall.g rfl) pa_nil))) (pa_cons (pe_callB call_isX (by rfl) bI (by decide +kernel) (pa_cons (pv 0) (pa_cons (pe_glob (v := .ref C7) rfl M.TooMany.g rfl) pa_nil))) pa_nil)))))))
      (pss_one (ps_ret (pe_op op_cat (pv 1) (pe_lst (pa_cons (pe_callB call_isX (by rfl) bI (by decide +kernel) (pa_cons (pv 0) (pa_cons (pe_glob (v := .ref C8) rfl M.NotKept.g rfl) pa_nil))) (pa_cons (pe_callB call_isX (by rfl) bI (by decide +kernel) (pa_cons (pv 0) (pa_cons (pe_glob (v := .ref C9) rfl M.NothingToUndo.g rfl) pa_nil))) (pa_cons (pe_callB call_isX (by rfl) bI (by decide +kernel) (pa_cons (pv 0) (pa_cons (pe_glob (v := .ref C10) rfl M.NothingToRedo.g rfl) pa_nil))) pa_nil))))))))), ?_⟩
    refine ⟨_, rfl, x, D, .ref C0, .ref C0, _, rfl, ex, (fun _ z => z), kit i 0 D C0 hD rfl, _, rfl, x, D, .ref C1, .ref C1, _, rfl, ex, (fun _ z => z), kit i 1 D C1 hD rfl, _, rfl, x, D, .ref C2, .ref C2, _, rfl, ex, (fun _ z => z), kit i 2 D C2 hD rfl, _, rfl, x, D, .ref C3, .ref C3, _, rfl, ex, (fun _ z => z), kit i 3 D C3 hD rfl, (by show 4 ≤ sizeLine; rw [sizeLine_eq]; decide), fun L1 h1 => ?_⟩
    have e1 : ExV K (upd H L1 (.lst [.bl (decide (0 = i)), .bl (decide (1 = i)), .bl (decide (2 = i)), .bl (decide (3 = i))])) x D := ex.keep fun b φ e => same_new h1 _ _ e
    refine ⟨_, rfl, _, rfl, x, D, .ref C4, .ref C4, _, rfl, e1, (fun _ z => z), kit i 4 D C4 hD rfl, _, rfl, x, D, .ref C5, .ref C5, _, rfl, e1, (fun _ z => z), kit i 5 D C5 hD rfl, _, rfl, x, D, .ref C6, .ref C6, _, rfl, e1, (fun _ z => z), kit i 6 D C6 hD rfl, _, rfl, x, D, .ref C7, .ref C7, _, rfl, e1, (fun _ z => z), kit i 7 D C7 hD rfl, (by show 4 ≤ sizeLine; rw [sizeLine_eq]; decide), fun L2 h2 => ?_⟩
    refine ⟨L1, L2, _, _, rfl, rfl, same_new h2 _ _ upd_same, upd_same, (by show 8 ≤ sizeLine; rw [sizeLine_eq]; decide), fun L3 h3 => ?_⟩
    have s3 := ((same_new (o := .lst [.bl (decide (0 = i)), .bl (decide (1 = i)), .bl (decide (2 = i)), .bl (decide (3 = i))]) h1).trans (same_new (o := .lst [.bl (decide (4 = i)), .bl (decide (5 = i)), .bl (decide (6 = i)), .bl (decide (7 = i))]) h2)).trans
      (same_new (o := .lst [.bl (decide (0 = i)), .bl (decide (1 = i)), .bl (decide (2 = i)), .bl (decide (3 = i)), .bl (decide (4 = i)), .bl (decide (5 = i)), .bl (decide (6 = i)), .bl (decide (7 = i))]) h3)
    have e3 := ex.keep fun b φ e => s3 _ _ e
    refine ⟨_, rfl, _, rfl, x, D, .ref C8, .ref C8, _, rfl, e3, (fun _ z => z), kit i 8 D C8 hD rfl, _, rfl, x, D, .ref C9, .ref C9, _, rfl, e3, (fun _ z => z), kit i 9 D C9 hD rfl, _, rfl, x, D, .ref C10, .ref C10, _, rfl, e3, (fun _ z => z), kit i 10 D C10 hD rfl, (by show 3 ≤ sizeLine; rw [sizeLine_eq]; decide), fun L4 h4 => ?_⟩
    refine ⟨L3, L4, _, _, rfl, rfl, same_new h4 _ _ upd_same, upd_same, (by show 11 ≤ sizeLine; rw [sizeLine_eq]; decide), fun L5 h5 => ?_⟩
    exact k L5 _ upd_same ((s3.trans (same_new h4)).trans (same_new h5))
end
end Z
set_option Elab.async false
set_option linter.all false
set_option maxRecDepth 100000
set_option maxHeartbeats 4000000
namespace Z
open PySem L2 PyProof.Rows
abbrev s_law : Stmt := topS 21
theorem sc_law : FnScope ["_law_script", "_law_pen_here", "_law_kind", "_law_menu", "_law_a", "_law_b", "_law_c", "_law_e", "_law_fields", "_law_k"] ["_law_script"] (defScope s_law) := ⟨rfl, rfl, rfl, by decide +kernel, rfl, by decide +kernel, by decide +kernel⟩
/-- all but dicts stands -/
def St (H H' : Hp) : Prop := ∀ b o, (∀ kvs, o ≠ .dK kvs) → H b = some o → H' b = some o
theorem Same.st {H H' : Hp} (s : Same H H') : St H H' := fun b o _ e => s b o e
theorem St.trans {H H1 H2 : Hp} (a : St H H1) (b : St H1 H2) : St H H2 := fun c o n e => b c o n (a c o n e)
theorem But.st {H H' : Hp} {p l : Addr} {c : Nat} (P : Pen H p l c) (b : But p H H') : St H H' := fun q o n e => by
  obtain ⟨ns, a, d, f, h1, _⟩ := P.ex
  refine (b q fun z => ?_).trans e
  rw [z, h1] at e
  exact n _ (Option.some.inj e).symm
theorem Kp.st {H H' : Hp} {p l : Addr} {c : Nat} (P : Pen H p l c) (b : Kp p H H') : St H H' := fun q o n e => by
  obtain ⟨ns, a, d, f, h1, _⟩ := P.ex
  refine b q o (fun z => ?_) e
  rw [z, h1] at e
  exact n _ (Option.some.inj e).symm
theorem St.lst {K : PySem.W.Frag} {H H' : Hp} {a : Addr} {xs : List V} (s : St H H') (h : SqL K H a xs) : SqL K H' a xs := by
  rcases h with (h | ⟨o, h⟩) | h
  · exact .inl (.inl (s _ _ (fun _ z => by cases z) h))
  · exact .inl (.inr ⟨o, s _ _ (fun _ z => by cases z) h⟩)
  · exact .inr h
theorem St.tup {K : PySem.W.Frag} {H H' : Hp} {a : Addr} {xs : List V} (s : St H H') (h : SqT K H a xs) : SqT K H' a xs := by
  rcases h with (h | ⟨o, h⟩) | h
  · exact .inl (.inl (s _ _ (fun _ z => by cases z) h))
  · exact .inl (.inr ⟨o, s _ _ (fun _ z => by cases z) h⟩)
  · exact .inr h
mutual
theorem Dp.st {K : PySem.W.Frag} {H H' : Hp} (s : St H H') : ∀ {v : V} {d : PyData}, Dp K H v d → Dp K H' v d
  | _, _, .non => .non
  | _, _, .bl b => .bl b
  | _, _, .int i => .int i
  | _, _, .str x => .str x
  | _, _, .lst h a => .lst (s.lst h) (DpAll.st s a)
  | _, _, .tup h a => .tup (s.tup h) (DpAll.st s a)
theorem DpAll.st {K : PySem.W.Frag} {H H' : Hp} (s : St H H') : ∀ {v : List V} {d : List PyData}, DpAll K H v d → DpAll K H' v d
  | _, _, .nil => .nil
  | _, _, .cons a b => .cons (Dp.st s a) (DpAll.st s b)
end
/-- a value of the menu -/
def MOk (K : PySem.W.Frag) (H : Hp) (v : V) : Prop := ∃ d, Dp K H v d ∧ PyData.showable d = true ∧ PyData.hasDict d = false ∧ d.depth ≤ 1 ∧ d.shown.length ≤ 400
theorem MOk.st {K : PySem.W.Frag} {H H' : Hp} {v : V} (s : St H H') (h : MOk K H v) : MOk K H' v := by
  obtain ⟨d, h1, h2⟩ := h
  exact ⟨d, Dp.st s h1, h2⟩
theorem mNon {K : PySem.W.Frag} {H : Hp} : MOk K H .non := ⟨.none, .non, by simp [PyData.showable], by simp [PyData.hasDict], by simp [PyData.depth], by simp only [PyData.shown]; decide +kernel⟩
theorem mTrue {K : PySem.W.Frag} {H : Hp} : MOk K H (.bl true) := ⟨.bool true, .bl true, by simp [PyData.showable], by simp [PyData.hasDict], by simp [PyData.depth], by simp only [PyData.shown]; decide +kernel⟩
theorem mInt {K : PySem.W.Frag} {H : Hp} {n : Nat} (h : n < 10 ^ 200) : MOk K H (.int (n : Int)) :=
  ⟨.int (n : Int), .int _, by simp only [PyData.showable]; exact decide_eq_true (log2_small (show (n : Int).natAbs < 10 ^ 200 from h)), by simp [PyData.hasDict], by simp [PyData.depth], by
    simp only [PyData.shown]
    show (Str.ofString (toString ((n : Nat) : Int))).length ≤ 400
    rw [SX.num_S n, SX.S_len]
    exact Nat.le_trans (TL.numL_len (by decide) h) (by decide)⟩
theorem mNeg {K : PySem.W.Frag} {H : Hp} {d : Int} (h0 : 0 ≤ d) (h1 : d < 9) : MOk K H (.int (-1 - d)) := by
  have e : d = 0 ∨ d = 1 ∨ d = 2 ∨ d = 3 ∨ d = 4 ∨ d = 5 ∨ d = 6 ∨ d = 7 ∨ d = 8 := by omega
  rcases e with rfl | rfl | rfl | rfl | rfl | rfl | rfl | rfl | rfl
  all_goals exact ⟨.int _, .int _, by decide +kernel, by decide +kernel, by decide +kernel, by decide +kernel⟩
theorem mStr {K : PySem.W.Frag} {H : Hp} {z : Str} (h1 : ∀ c ∈ z.cps.toList, c < 16 ^ 8) (h2 : z.length ≤ 30) : MOk K H (.str z) :=
  ⟨.str z, .str z, by simp [PyData.showable], by simp [PyData.hasDict], by simp [PyData.depth], by
    simp only [PyData.shown]
    have := StrLaws.reprText_len z h1
    omega⟩
theorem mPairI {K : PySem.W.Frag} {H : Hp} {t : Addr} (h : H t = some (.tup [.int 1, .int 2])) : MOk K H (.ref t) :=
  ⟨.tuple [.int 1, .int 2], .tup (SqT.of h) (.cons (.int 1) (.cons (.int 2) .nil)), by decide +kernel, by decide +kernel, by decide +kernel, by decide +kernel⟩
theorem mPairS {K : PySem.W.Frag} {H : Hp} {t : Addr} (h : H t = some (.tup [.str "b", .str "c"])) : MOk K H (.ref t) :=
  ⟨.tuple [.str "b", .str "c"], .tup (SqT.of h) (.cons (.str "b") (.cons (.str "c") .nil)), by decide +kernel, by decide +kernel, by decide +kernel, by decide +kernel⟩
theorem mOne {K : PySem.W.Frag} {H : Hp} {t : Addr} (h : H t = some (.lst [.int 3])) : MOk K H (.ref t) :=
  ⟨.list [.int 3], .lst (SqL.of h) (.cons (.int 3) .nil), by decide +kernel, by decide +kernel, by decide +kernel, by decide +kernel⟩

/-- several values of the menu, as data -/
theorem all_data {K : PySem.W.Frag} {H : Hp} : ∀ {vs : List V}, (∀ v ∈ vs, MOk K H v) → ∃ ds, DpAll K H vs ds ∧ PyData.showableAll ds = true ∧ PyData.hasDictAll ds = false ∧ PyData.depthAll ds ≤ 1 ∧ (∀ t ∈ PyData.shownAll ds, t.length ≤ 400) ∧ ds.length = vs.length
  | [], _ => ⟨[], .nil, rfl, rfl, by decide, fun t ht => absurd ht (by simp [PyData.shownAll]), rfl⟩
  | v :: r, h => by
    obtain ⟨d, a1, a2, a3, a4, a5⟩ := h v List.mem_cons_self
    obtain ⟨ds, b1, b2, b3, b4, b5, b6⟩ := all_data (vs := r) fun u hu => h u (List.mem_cons_of_mem _ hu)
    refine ⟨d :: ds, .cons a1 b1, by simp [PyData.showableAll, a2, b2], by simp [PyData.hasDictAll, a3, b3], ?_, fun t ht => ?_, by simp [b6]⟩
    · simp only [PyData.depthAll]
      omega
    · simp only [PyData.shownAll, List.mem_cons] at ht
      rcases ht with rfl | ht
      · exact a5
      · exact b5 t ht
theorem piled_le : ∀ {ts : List Str}, (∀ t ∈ ts, t.length ≤ 400) → piled ts ≤ 402 * ts.length
  | [], _ => by simp [piled_nil]
  | t :: r, h => by
    have h1 := h t List.mem_cons_self
    have h2 := piled_le (ts := r) fun u hu => h u (List.mem_cons_of_mem _ hu)
    rw [piled_cons, List.length_cons]
    omega
theorem shownAll_len : ∀ ds : List PyData, (PyData.shownAll ds).length = ds.length
  | [] => by simp [PyData.shownAll]
  | d :: r => by simp [PyData.shownAll, shownAll_len r]
theorem add_len (a b : Str) : (a ++ b).length = a.length + b.length := by
  have e := congrArg List.length (TL.tl_append a b)
  rw [List.length_append] at e
  exact e
theorem tupleText_len {ts : List Str} (h : ∀ t ∈ ts, t.length ≤ 400) : (tupleText ts).length ≤ 402 * ts.length + 10 := by
  unfold tupleText
  rw [add_len, add_len]
  have hp := piled_le h
  have h1 : ("(" : Str).length = 1 := by decide +kernel
  have h2 : (Str.ofString (if (ts.length == 1) = true then ",)" else ")")).length ≤ 2 := by
    split
    · decide +kernel
    · decide +kernel
  by_cases hn : ts = []
  · subst hn
    have : (Str.join ", " ([] : List Str)).length = 0 := by decide +kernel
    omega
  · have := join_length_add ts hn
    omega
/-- a tuple of values of the menu -/
theorem tup_data {K : PySem.W.Frag} {H : Hp} {F : Addr} {vs : List V} {ds : List PyData} (h : SqT K H F vs) (a : DpAll K H vs ds) (b2 : PyData.showableAll ds = true) (b3 : PyData.hasDictAll ds = false) (b4 : PyData.depthAll ds ≤ 1) (b5 : ∀ t ∈ PyData.shownAll ds, t.length ≤ 400) (hl : vs.length ≤ 20) (b6 : ds.length = vs.length) :
    Dp K H (.ref F) (.tuple ds) ∧ PyData.showable (.tuple ds) = true ∧ PyData.hasDict (.tuple ds) = false ∧ (PyData.tuple ds).depth ≤ 40 ∧ (PyData.tuple ds).shown.length ≤ sizeLine := by
  refine ⟨.tup h a, by simp only [PyData.showable]; exact b2, by simp only [PyData.hasDict]; exact b3, by simp only [PyData.depth]; omega, ?_⟩
  simp only [PyData.shown]
  have := tupleText_len b5
  rw [shownAll_len] at this
  rw [sizeLine_eq]
  omega
/-- a def that is called -/
structure Fx (P : Program) (w : World) (K : PySem.W.Frag) (mg : Str → Option Value) (base : Heap) (x : Str) (k : Nat) (ps : List Str) (sp : Sp) : Prop where
  ex : ∃ f fd, FnOk P w K mg base CX0 k f fd ps sp ∧ mg x = some (.ref f) ∧ PySem.W.keepIn K (.ref f) = true ∧ Binds K fd ps []
theorem pe_fx {X : Cx} {x : Str} {k : Nat} {ps : List Str} {sp : Sp} {e : Expr} {es : List Expr} {t : TA} {p pos : Pos} (G : Fx X.prog X.w X.K X.mg X.base x k ps sp) (hr : Room k X.A) (ha : PA X (e :: es) t) (hg : Gl X x := by rfl)
    (hdb : (x == ("__debug__" : Str)) = false := by decide) (he : starEach (e :: es) X.env = (false, eval e X.env) :: starEach es X.env := by rfl) (hpl : (backTo pos (starEach es X.env)).any (·.1) = false := by rfl) :
    PE X (.Call (.Name x p) (e :: es) [] pos) (tCall sp [] E0 t) := by
  obtain ⟨f, fd, h1, h2, h3, h4⟩ := G.ex
  exact pe_call h1 hr hg h2 h3 h4 .nil pass0 ha hdb he hpl
end Z
set_option Elab.async false
set_option linter.all false
set_option maxRecDepth 100000
set_option maxHeartbeats 4000000
namespace Z
open PySem L2 PyProof.Rows
structure TL (P : Program) (w : World) (K : PySem.W.Frag) (mg : Str → Option Value) (base : Heap) (CM : Addr) (Cs : List Addr) : Prop where
  f_l_pen : Fx P w K mg base "_law_pen" 1 ["_law_script"] (spPen K)
  f_l_draw : Fx P w K mg base "_law_draw" 1 ["_law_pen_here", "_law_many"] spDraw
  f_l_pick : Fx P w K mg base "_law_pick" 2 ["_law_pen_here", "_law_some"] (spPick K)
  f_l_big : Fx P w K mg base "_law_big" 3 ["_law_pen_here", "_law_figures"] spBig
  f_l_name : Fx P w K mg base "_law_name" 3 ["_law_pen_here", "_law_used"] spName
  f_l_made : Fx P w K mg base "_law_made" 3 ["_law_kind", "_law_a", "_law_b", "_law_c"] (spMade K Cs)
  f_l_kinds : Fx P w K mg base "_law_kinds" 1 ["_law_e"] (spKinds K Cs)
  b_range : mg "range" = none
  b_repr : mg "repr" = none
  b_len : mg "len" = none
  b_isinstance : mg "isinstance" = none
  bV : mg "ValueError" = none
  gM : mg "MendError" = some (.ref CM)
  len : Cs.length = 11
  kitM : ∀ (i : Nat) (D : Addr), Cs[i]? = some D → PySem.W.kitOne K (.ref D) (.ref CM) = some true
  kitV : ∀ (i : Nat) (D : Addr), Cs[i]? = some D → PySem.W.kitOne K (.ref D) (.type "ValueError") = some true
def spLaw (K : PySem.W.Frag) : Sp := fun vs H Q _ => ∃ (a : Addr) (ns : List Int), vs = [.ref a] ∧ SqL K H a (ns.map V.int) ∧ ns.length ≤ 63 ∧ ∀ H', Q (.bl true) H'
theorem name_signs {cs : List Nat} (h : NameL cs) : ∀ c ∈ (SX.S cs).cps.toList, c < 16 ^ 8 := fun c hc => by
  have q := List.all_eq_true.mp h.all c hc
  have : c ≤ 122 := by
    unfold alnum letter at q
    simp at q
    omega
  have : (122 : Nat) < 16 ^ 8 := by decide
  omega
theorem cut_take (a b c : V) : ∀ n : Nat, n ≤ 3 → cutV [a, b, c] none (some (n : Int)) = [a, b, c].take n := fun n hn => by
  unfold cutV
  rw [HT.sIx_none, HT.sIx_nat]
  show (([a, b, c] : List V).drop 0).take (min n 3 - 0) = _
  rw [List.drop_zero, Nat.sub_zero, Nat.min_eq_left hn]
theorem many_le : ∀ i, i < 11 → many i ≤ 3 := by decide
theorem dec_int (k i : Nat) : decide (V.int (0 + (k : Int)) = V.int (i : Int)) = decide (k = i) := by
  by_cases h : k = i
  · subst h
    rw [Int.zero_add, decide_eq_true rfl, decide_eq_true rfl]
  · rw [decide_eq_false h, decide_eq_false]
    intro z
    have := V.int.inj z
    omega
theorem flags_data {K : PySem.W.Frag} {H : Hp} (i : Nat) : ∀ l : List Nat, DpAll K H (l.map fun j => V.bl (decide (j = i))) (l.map fun j => PyData.bool (decide (j = i)))
  | [] => .nil
  | j :: r => .cons (.bl _) (flags_data i r)
theorem lay_flags (i : Nat) : ∀ l : List Nat, PyData.canLayAll0 (l.map fun j => PyData.bool (decide (j = i))) = true
  | [] => by simp [PyData.canLayAll0]
  | j :: r => by
    rw [List.map_cons]
    simp only [PyData.canLayAll0, PyData.canLay0, Bool.true_and]
    exact lay_flags i r
theorem depth_flags (i : Nat) : ∀ l : List Nat, PyData.depthAll (l.map fun j => PyData.bool (decide (j = i))) ≤ 0
  | [] => by simp [PyData.depthAll]
  | j :: r => by
    have := depth_flags i r
    rw [List.map_cons]
    simp only [PyData.depthAll, PyData.depth]
    omega
section
variable {P : Program} {w : World} {K : PySem.W.Frag} {mg : Str → Option Value} {base : Heap}
theorem ok_law {f : Addr} {fd : FuncData} {CM : Addr} {Cs : List Addr} (F : Fun K "law" "law" s_law f fd) (T : TL P w K mg base CM Cs) : FnG P w K mg base CX0 4 f fd ["_law_script"] (spLaw K) := by
  refine fnG_of F sc_law (fun vs H Q E h => ?_) (fun cdv A hgA outer s H vs Q E hr h => ?_)
  · obtain ⟨a, ns, rfl, _⟩ := h
    rfl
  · obtain ⟨a, ns, rfl, hS, hl, k⟩ := h
    have hgd : (A.deeper (envOfC "law" (defScope s_law) s.heap.objs.size f cdv)).guards = some [] := hgA
    refine ⟨_, (pss_cons (ps_set (i := 1) sc_law.nd rfl (Or.inl rfl) (pe_fx T.f_l_pen (hr.mono (by decide)) (pa_cons (pv 0) pa_nil)))
      (pss_cons (ps_for PassesOwn.never rfl (pi_range1 (by rfl) T.b_range (pa_cons pe_int pa_nil)) (pg_name (i := 2) sc_law.nd rfl (Or.inr rfl))
        (pss_cons (ps_set (i := 3) sc_law.nd rfl (Or.inl rfl) (pe_lst (pa_cons pe_non (pa_cons pe_bl (pa_cons (pe_fx T.f_l_big (hr.mono (by decide)) (pa_cons (pv 1) (pa_cons pe_int pa_nil))) (pa_cons pe_str (pa_cons (pe_fx T.f_l_name (hr.mono (by decide)) (pa_cons (pv 1) (pa_cons (pe_lst pa_nil) pa_nil))) (pa_cons (pe_tup (pa_cons pe_int (pa_cons pe_int pa_nil))) (pa_cons (pe_lst (pa_cons pe_int pa_nil)) (pa_cons (pe_op op_sub (pe_un un_neg pe_int) (pe_fx T.f_l_draw (hr.mono (by decide)) (pa_cons (pv 1) (pa_cons pe_int pa_nil)))) (pa_cons (pe_tup (pa_cons pe_str (pa_cons pe_str pa_nil))) pa_nil)))))))))))
          (pss_cons (ps_par3 (i := 4) (j := 5) (l := 6) rfl sc_law.nd rfl rfl rfl (by decide) (by decide) (by decide) rfl rfl rfl (pa_cons (pe_fx T.f_l_pick (hr.mono (by decide)) (pa_cons (pv 1) (pa_cons (pv 3) pa_nil))) (pa_cons (pe_fx T.f_l_pick (hr.mono (by decide)) (pa_cons (pv 1) (pa_cons (pv 3) pa_nil))) (pa_cons (pe_fx T.f_l_pick (hr.mono (by decide)) (pa_cons (pv 1) (pa_cons (pv 3) pa_nil))) pa_nil))) (by rfl))
          (pss_cons (ps_asg (pe_fx T.f_l_made (hr.mono (by decide)) (pa_cons (pv 2) (pa_cons (pv 4) (pa_cons (pv 5) (pa_cons (pv 6) pa_nil))))) (pg_tup rfl (pgs_cons (pg_name (i := 7) sc_law.nd rfl (Or.inl rfl)) (pgs_cons (pg_name (i := 8) sc_law.nd rfl (Or.inl rfl)) pgs_nil))))
          (C8.pss_cut (ps_if (pt_cmpR op_ne (pe_callB (call_reprD hgd hr.units) (by rfl) T.b_repr (by decide +kernel) (pa_cons (pv 8) pa_nil)) (pe_callB (call_reprD hgd hr.units) (by rfl) T.b_repr (by decide +kernel) (pa_cons (pe_slice sl_tupA (pe_tup (pa_cons (pv 4) (pa_cons (pv 5) (pa_cons (pv 6) pa_nil)))) po_none (po_some (pe_callB call_len (by rfl) T.b_len (by decide +kernel) (pa_cons (pv 8) pa_nil)))) pa_nil)) (nomark _))
            (pss_one (ps_ret pe_bl))
            pss_nil)
          (pss_cons (ps_if (PW.pt (pw_or (pt_not (pt_val (pe_callB call_isX (by rfl) T.b_isinstance (by decide +kernel) (pa_cons (pv 7) (pa_cons (pe_glob (v := .ref CM) rfl T.gM rfl) pa_nil))))) (pw_or1 (pt_not (pt_val (pe_callB call_isX (by rfl) T.b_isinstance (by decide +kernel) (pa_cons (pv 7) (pa_cons (pe_bltn (v := .ty "ValueError") (by rfl) T.bV PyProof.Rows.Boot.«ValueError» rfl) pa_nil))))))))
            (pss_one (ps_ret pe_bl))
            pss_nil)
          (pss_one (ps_if (pt_cmpR (op_neD hr.units) (pe_fx T.f_l_kinds (hr.mono (by decide)) (pa_cons (pv 7) pa_nil)) (pe_lc (own := [("_law_k", 9)]) (g := gName 9) (tt := tYes) rfl sc_law.nd (pi_range1 (by rfl) T.b_range (pa_cons pe_int pa_nil)) (blkOk_by (own := [("_law_k", 9)]) (N := ["_law_script", "_law_pen_here", "_law_kind", "_law_menu", "_law_a", "_law_b", "_law_c", "_law_e", "_law_fields", "_law_k"]) (sc := defScope s_law) (by decide +kernel)) (fun _ _ _ _ _ => pg_name (i := 9) sc_law.nd rfl (Or.inl rfl)) (fun _ _ _ _ _ => pts_nil) (fun _ _ _ _ _ => pe_cmpR op_eq (pv 9) (pv 2) (nomark _))) (nomark _))
            (pss_one (ps_ret pe_bl))
            pss_nil))))))))
      (pss_one (ps_ret pe_bl)))), ?_⟩
    refine ⟨_, rfl, a, ns, rfl, hS, hl, fun p l H1 hp0 hl0 s1 hP1 => ?_⟩
    refine ⟨11, rfl, by decide, by decide, ?_⟩
    refine for_range (lo := 0) (n := 11) (fun i σ H2 => ∃ (c : Nat) (v2 v3 v4 v5 v6 v7 v8 v9 : Option V), σ = [some (.ref a), some (.ref p), v2, v3, v4, v5, v6, v7, v8, v9] ∧ Pen H2 p l c ∧ c ≤ i * 100)
      ⟨0, none, none, none, none, none, none, none, none, rfl, hP1, Nat.zero_le _⟩ ?_ ?_
    · rintro i σ H2 hi ⟨c, v2, v3, v4, v5, v6, v7, v8, v9, rfl, hP2, hc⟩
      -- the menu
      refine ⟨_, rfl, p, l, c, 40, rfl, hP2, by omega, by decide, by decide, fun n c3 H3 hn1 hn2 hc3 hc3' hP3 kp3 => ?_⟩
      refine ⟨_, rfl, Nat.zero_le _, fun u hu => ?_⟩
      have hP3u : Pen (upd H3 u (.lst [])) p l c3 := hP3.same (same_new hu)
      have nup : u ≠ p := by
        obtain ⟨_, _, _, _, e, _⟩ := hP3.ex
        exact (ne_of_none e hu).symm
      have nul : u ≠ l := by
        obtain ⟨_, _, _, _, _, e, _⟩ := hP3.ex
        exact (ne_of_none e hu).symm
      refine ⟨p, l, u, c3, [], rfl, hP3u, by omega, upd_same, nup, nul, Nat.zero_le _, fun cs c4 H4 hN hcl hc4 hc4' hP4 kp4 hU4 => ?_⟩
      refine ⟨(by show 2 ≤ sizeLine; rw [sizeLine_eq]; decide), fun t1 ht1 => ⟨(by show 1 ≤ sizeLine; rw [sizeLine_eq]; decide), fun t2 ht2 => ?_⟩⟩
      have s45 := (same_new (o := .tup [.int 1, .int 2]) ht1).trans (same_new (o := .lst [.int 3]) ht2)
      have hP5 := hP4.same s45
      refine ⟨_, rfl, _, rfl, p, l, c4, 9, rfl, hP5, by omega, by decide, by decide, fun d H6 hd0 hd1 hP6 bu6 => ?_⟩
      refine ⟨_, _, rfl, rfl, (by show 2 ≤ sizeLine; rw [sizeLine_eq]; decide), fun t3 ht3 => ⟨(by show 9 ≤ sizeLine; rw [sizeLine_eq]; decide), fun m hm => ?_⟩⟩
      have st6 := bu6.st hP5
      have s7 := same_new (o := .tup [.str "b", .str "c"]) ht3
      have s8 := same_new (o := .lst [.non, .bl true, .int (n : Int), .str "", .str (SX.S cs), .ref t1, .ref t2, .int (-1 - d), .ref t3]) hm
      have hP8 := (hP6.same s7).same s8
      have menu : ∀ v ∈ [V.non, .bl true, .int (n : Int), .str "", .str (SX.S cs), .ref t1, .ref t2, .int (-1 - d), .ref t3], MOk K (upd (upd H6 t3 (.tup [.str "b", .str "c"])) m (.lst [.non, .bl true, .int (n : Int), .str "", .str (SX.S cs), .ref t1, .ref t2, .int (-1 - d), .ref t3])) v := by
        intro v hv
        simp only [List.mem_cons, List.not_mem_nil, or_false] at hv
        rcases hv with rfl | rfl | rfl | rfl | rfl | rfl | rfl | rfl | rfl
        · exact mNon
        · exact mTrue
        · exact mInt hn2
        · exact mStr (by decide +kernel) (by decide +kernel)
        · exact mStr (name_signs hN) (by rw [SX.S_len]; omega)
        · exact mPairI (s8 _ _ (s7 _ _ (st6 _ _ (fun _ z => by cases z) (same_new ht2 _ _ upd_same))))
        · exact mOne (s8 _ _ (s7 _ _ (st6 _ _ (fun _ z => by cases z) upd_same)))
        · exact mNeg hd0 hd1
        · exact mPairS (s8 _ _ upd_same)
      -- three of it
      have nine : ∀ c', c' ≤ c + 70 → c' < 2 ^ 40 := fun c' h => by omega
      refine ⟨_, rfl, _, rfl, p, l, m, _, _, rfl, hP8, by omega, .inl (SqL.of upd_same), (by show 0 < 9; decide), (by show 9 < 1000; decide), fun va HA hva hPA bA => ?_⟩
      have stA := bA.st hP8
      have mA := stA.lst (K := K) (SqL.of upd_same)
      refine ⟨_, rfl, _, rfl, p, l, m, _, _, rfl, hPA, by omega, .inl mA, (by show 0 < 9; decide), (by show 9 < 1000; decide), fun vb HB hvb hPB bB => ?_⟩
      have stB := bB.st hPA
      have mB := stB.lst mA
      refine ⟨_, rfl, _, rfl, p, l, m, _, _, rfl, hPB, by omega, .inl mB, (by show 0 < 9; decide), (by show 9 < 1000; decide), fun vc HC hvc hPC bC => ?_⟩
      have stC := bC.st hPB
      have okA : MOk K HC va := (menu va hva).st ((stA.trans stB).trans stC)
      have okB : MOk K HC vb := (menu vb hvb).st ((stA.trans stB).trans stC)
      have okC : MOk K HC vc := (menu vc hvc).st ((stA.trans stB).trans stC)
      have okAll : ∀ v ∈ [va, vb, vc], MOk K HC v := by
        intro v hv
        simp only [List.mem_cons, List.not_mem_nil, or_false] at hv
        rcases hv with rfl | rfl | rfl
        · exact okA
        · exact okB
        · exact okC
      refine ⟨va, vb, vc, rfl, ?_⟩
      -- the error
      obtain ⟨D, hD⟩ : ∃ D, Cs[i]? = some D := ⟨_, List.getElem?_eq_getElem (by rw [T.len]; exact hi)⟩
      refine ⟨_, rfl, _, rfl, _, rfl, _, rfl, i, va, vb, vc, D, (by show [V.int (0 + (i : Int)), va, vb, vc] = _; rw [Int.zero_add]), hi, hD, fun x TT FF HD exD hT hF sD => ?_⟩
      refine ⟨TT, [.ref x, .ref FF], rfl, SqT.of hT, rfl, .ref x, [.ref FF], rfl, .ref FF, [], rfl, rfl, ?_⟩
      -- its fields
      have hm3 := many_le i hi
      have stD := Same.st sD
      obtain ⟨ds, d1, d2, d3, d4, d5, d6⟩ := all_data (K := K) (H := HD) (vs := [va, vb, vc].take (many i)) fun v hv => (okAll v (List.mem_of_mem_take hv)).st stD
      have ln : ([va, vb, vc].take (many i)).length = many i := by
        rw [List.length_take]
        show min (many i) 3 = many i
        omega
      have hlen : ([va, vb, vc].take (many i)).length ≤ 20 := by omega
      have fin : ∀ (R : Addr) (HE : Hp), Same HD HE → HE R = some (.tup ([va, vb, vc].take (many i))) → _ := fun R HE sE hR => tup_data (K := K) (H := HE) (F := R) (SqT.of hR) (DpAll.st (Same.st sE) d1) d2 d3 d4 d5 hlen d6
      refine ⟨fun σ' H' => σ' = [some (.ref a), some (.ref p), some (.int (0 + (i : Int))), some (.ref m), some va, some vb, some vc, some (.ref x), some (.ref FF), v9] ∧ Same HD H', ?_, ?_⟩
      · obtain ⟨e1, e2, e3, e4, e5⟩ := fin FF HD (Same.refl HD) hF
        refine ⟨_, rfl, _, _, rfl, e1, e2, e3, e4, e5, ?_⟩
        refine ⟨_, rfl, _, rfl, _, rfl, (by show 3 ≤ sizeLine; rw [sizeLine_eq]; decide), fun T2 hT2 => ?_⟩
        have s2 := same_new (o := .tup [va, vb, vc]) hT2
        refine ⟨_, rfl, _, many i, rfl, .inr ⟨_, SqT.of (s2 _ _ hF), ln.symm⟩, _, rfl, T2, _, rfl, SqT.of upd_same, fun hw => ?_, fun hw R hR => ?_⟩
        · have h3 : many i = 3 := by
            have := hw.2
            rw [HT.sIx_nat] at this
            have z : min (many i) 3 = 3 := this
            omega
          have hT : (upd HD T2 (.tup [va, vb, vc])) T2 = some (.tup ([va, vb, vc].take (many i))) := by rw [h3]; exact upd_same
          obtain ⟨f1, f2, f3, f4, f5⟩ := fin T2 _ s2 hT
          refine ⟨_, _, rfl, f1, f2, f3, f4, f5, rfl, _, rfl, iteNS rfl ?_⟩
          refine ⟨?_, s2⟩
          rfl
        · rw [cut_take va vb vc _ hm3] at *
          have s3 := same_new (o := .tup ([va, vb, vc].take (many i))) hR
          obtain ⟨f1, f2, f3, f4, f5⟩ := fin R _ (s2.trans s3) upd_same
          refine ⟨_, _, rfl, f1, f2, f3, f4, f5, rfl, _, rfl, iteNS rfl ?_⟩
          refine ⟨?_, s2.trans s3⟩
          rfl
      · rintro σ' HE ⟨rfl, sE⟩
        have exE : ExV K HE x D := exD.keep fun b φ e => sE _ _ e
        refine ⟨_, rfl, x, D, .ref CM, .ref CM, true, rfl, exE, (fun _ z => z), T.kitM i D hD, _, rfl, if_f rfl ?_⟩
        refine ⟨_, rfl, x, D, .ty "ValueError", .type "ValueError", true, rfl, exE, (fun _ z => z), T.kitV i D hD, _, rfl, if_f rfl ?_⟩
        refine ⟨_, rfl, i, x, D, rfl, hD, exE, fun L HG hL sG => ?_⟩
        refine ⟨11, rfl, by decide, by decide, fun DD hDD => ?_⟩
        refine lc_range (lo := 0) (n := 11) (fun j HH => HH = upd HG DD (.lst ((List.range j).map fun k => .bl (decide (k = i))))) rfl ?_ ?_
        · rintro j HH hj rfl
          refine ⟨rfl, ?_⟩
          refine ⟨_, rfl, _, rfl, rfl, _, upd_same, ?_, ?_⟩
          · rw [List.length_map, List.length_range, sizeLine_eq]
            omega
          · rw [upd_upd, show (0 : Int) + (i : Int) = (i : Int) from Int.zero_add _, dec_int, List.range_succ, List.map_append]
            rfl
        · rintro HH rfl
          have shp : SeqAt.shaped (.list ((List.range 11).map fun j => PyData.bool (decide (j = i)))) = true := by
            unfold SeqAt.shaped
            have h1 := lay_flags i (List.range 11)
            have h2 := depth_flags i (List.range 11)
            rw [Bool.and_eq_true]
            refine ⟨?_, decide_eq_true ?_⟩
            · simp only [PyData.canLay0]
              exact h1
            · simp only [PyData.depth]
              omega
          refine ⟨_, _, .lst (SqL.of (same_new hDD _ _ hL)) (flags_data i _), .lst (SqL.of upd_same) (flags_data i _), shp, shp, _, rfl, ?_⟩
          rw [SeqAt.eqv_refl _ (SeqAt.canLay_of_shaped shp)]
          refine if_f rfl ?_
          have sZ : Same HD (upd HG DD (.lst ((List.range 11).map fun k => .bl (decide (k = i))))) := (sE.trans sG).trans (same_new hDD)
          have pZ := (hPC.same sD).same sZ
          exact ⟨_, _, _, _, _, _, _, _, _, rfl, pZ, by omega⟩
    · rintro σ H2 ⟨c, v2, v3, v4, v5, v6, v7, v8, v9, rfl, hP2, hc⟩
      exact k H2
end
end Z
set_option Elab.async false
set_option linter.all false
set_option maxRecDepth 100000
set_option maxHeartbeats 4000000
namespace Z
open PySem L2 PyProof.Rows
theorem xc_mk {K : PySem.W.Frag} {C CM : Addr} {nm q : Str} {N : Addr} {bs : List Value} {sn : List Str} {sub : List Value} {ab : Bool} {col : Option Bool} {dd : Option Addr} {m0 m1 m2 m3 m5 : Option Value}
    (x : K.lookup C = some (excClassObj nm q C N bs (.ref CM :: [.type "ValueError", .type "Exception", .type "BaseException", .type "object"]) true sn sub ab col dd m0 m1 m2 m3 m5 "ValueError.__new__"))
    (sa : PySem.W.findIn K (.ref C) "__setattr__" = some (some (.builtin "object.__setattr__"))) (ga : PySem.W.findIn K (.ref C) "__getattribute__" = some (some (.builtin "BaseException.__getattribute__")))
    (gg : PySem.W.findIn K (.ref C) "__getattr__" = some none) (cc : PySem.W.findIn K (.ref C) "__class__" = some (some (.builtin "object.__class__"))) (eC : PySem.W.subIn K (.ref C) (.type "BaseException") = some true)
    (tC : PySem.W.typeIn K (.ref C) = some (.type "type")) (kC : PySem.W.keepIn K (.ref C) = true) (hC : PySem.W.hasDictIn K C = true) (hm : PySem.W.mroIn K C (.type "object") = some true)
    (hn : PySem.W.specialIn K (.builtin "object.__class__") "__get__" = some (some (.builtin "getset_descriptor.__get__"))) (ht : PySem.W.takesIn K (.builtin "object.__class__") = some true) : XC K C :=
  ⟨⟨⟨nm, q, N, bs, _, sn, sub, ab, col, dd, m0, m1, m2, m3, m5, x, by show PySem.HandSPX.refsVE [.type "ValueError", .type "Exception", .type "BaseException", .type "object"] = true; decide +kernel⟩, sa, eC, tC, kC⟩, ga, gg, hC, cc, hn, ht, hm⟩
/-- a class whose row of bases is known -/
structure Row (K : PySem.W.Frag) (CM C : Addr) : Prop where
  ty : PySem.W.typeIn K (.ref C) = some (.type "type")
  cd : ∃ cd, PySem.W.clsIn K C = some cd ∧ cd.mro = [.ref C, .ref CM, .type "ValueError", .type "Exception", .type "BaseException", .type "object"]
theorem row_mk {K : PySem.W.Frag} {C CM : Addr} {nm q : Str} {N : Addr} {bs : List Value} {sn : List Str} {sub : List Value} {ab : Bool} {col : Option Bool} {dd : Option Addr} {m0 m1 m2 m3 m5 : Option Value}
    (x : K.lookup C = some (excClassObj nm q C N bs (.ref CM :: [.type "ValueError", .type "Exception", .type "BaseException", .type "object"]) true sn sub ab col dd m0 m1 m2 m3 m5 "ValueError.__new__"))
    (tC : PySem.W.typeIn K (.ref C) = some (.type "type")) : Row K CM C := by
  refine ⟨tC, ?_⟩
  unfold PySem.W.clsIn
  rw [x]
  exact ⟨_, rfl, rfl⟩
theorem row_mro {K : PySem.W.Frag} {C CM : Addr} (R : Row K CM C) (b : Value) : PySem.W.mroIn K C b = some (([.ref C, .ref CM, .type "ValueError", .type "Exception", .type "BaseException", .type "object"] : List Value).contains b) := by
  obtain ⟨cd, h1, h2⟩ := R.cd
  unfold PySem.W.mroIn
  rw [h1, Option.bind_some, h2]
  rfl
theorem ref_beq {a b : Addr} (h : a ≠ b) : (Value.ref a == Value.ref b) = false := by
  rw [beq_eq_false_iff_ne]
  intro z
  exact h (Value.ref.inj z)
theorem kit_self {K : PySem.W.Frag} {C : Addr} : PySem.W.kitOne K (.ref C) (.ref C) = some true := by
  unfold PySem.W.kitOne
  rw [if_pos (beq_self_eq_true _)]
theorem kit_ref {K : PySem.W.Frag} {C B CM : Addr} (R : Row K CM C) (h : C ≠ B) (hc : (PySem.W.clsIn K B).isSome = true) (ht : PySem.W.typeIn K (.ref B) = some (.type "type")) : PySem.W.kitOne K (.ref C) (.ref B) = some (decide (B = CM)) := by
  have e1 : ((PySem.W.clsIn K B).isSome && PySem.W.typeIn K (.ref B) == some (.type "type")) = true := by rw [hc, ht] <;> rfl
  unfold PySem.W.kitOne
  rw [ref_beq h, if_neg Bool.false_ne_true]
  show (if ((PySem.W.clsIn K B).isSome && PySem.W.typeIn K (.ref B) == some (.type "type")) = true then PySem.W.subIn K (.ref C) (.ref B) else none) = _
  rw [if_pos e1]
  show PySem.W.mroIn K C (.ref B) = _
  rw [row_mro R]
  congr 1
  by_cases e : B = CM
  · subst e
    simp
  · rw [decide_eq_false e]
    simp [e, Ne.symm h]
theorem kit_ve {K : PySem.W.Frag} {C CM : Addr} (R : Row K CM C) : PySem.W.kitOne K (.ref C) (.type "ValueError") = some true := by
  have e1 : PySem.W.kitMeta "ValueError" = true := by decide +kernel
  have e0 : (Value.ref C == Value.type "ValueError") = false := by
    rw [beq_eq_false_iff_ne]
    intro z
    cases z
  unfold PySem.W.kitOne
  rw [e0, if_neg Bool.false_ne_true]
  show (if PySem.W.kitMeta "ValueError" = true then PySem.W.subIn K (.ref C) (.type "ValueError") else none) = _
  rw [if_pos e1]
  show PySem.W.mroIn K C (.type "ValueError") = _
  rw [row_mro R]
  congr 1
theorem row_some {K : PySem.W.Frag} {C CM : Addr} (R : Row K CM C) : (PySem.W.clsIn K C).isSome = true := by
  obtain ⟨cd, h, _⟩ := R.cd
  rw [h]
  rfl
theorem nd_ix {α : Type} : ∀ {l : List α} {i j : Nat} {a : α}, l.Nodup → l[i]? = some a → l[j]? = some a → i = j
  | [], _, _, _, _, h, _ => by simp at h
  | x :: r, 0, 0, _, _, _, _ => rfl
  | x :: r, 0, j + 1, a, nd, h1, h2 => by
    cases (Option.some.inj h1)
    exact absurd (List.mem_of_getElem? (show r[j]? = some _ from h2)) (List.nodup_cons.mp nd).1
  | x :: r, i + 1, 0, a, nd, h1, h2 => by
    cases (Option.some.inj h2)
    exact absurd (List.mem_of_getElem? (show r[i]? = some _ from h1)) (List.nodup_cons.mp nd).1
  | x :: r, i + 1, j + 1, a, nd, h1, h2 => by
    rw [nd_ix (List.nodup_cons.mp nd).2 (show r[i]? = some a from h1) (show r[j]? = some a from h2)]
theorem kit_all {K : PySem.W.Frag} {CM : Addr} {Cs : List Addr} (R : ∀ C ∈ Cs, Row K CM C) (nd : (CM :: Cs).Nodup) : Kit K Cs := by
  intro i j D C hi hj
  have mi := List.mem_of_getElem? hi
  have mj := List.mem_of_getElem? hj
  have hM : C ≠ CM := fun z => (List.nodup_cons.mp nd).1 (z ▸ mj)
  by_cases e : j = i
  · subst e
    rw [hi] at hj
    cases hj
    rw [decide_eq_true rfl]
    exact kit_self
  · rw [decide_eq_false e]
    have ne : D ≠ C := by
      intro z
      subst z
      exact e (nd_ix (List.nodup_cons.mp nd).2 hj hi)
    have q := kit_ref (R D mi) ne (row_some (R C mj)) (R C mj).ty
    rw [decide_eq_false hM] at q
    exact q

theorem all_mk {P : Program} {w : World} {K : PySem.W.Frag} {h : Heap} {mg : Str → Option Value} {fa : Addr} (X : K.In h) (G : h.Ns mainGlobals mg) (hfa : mg "law" = some (.ref fa))
    {CM C0 C1 C2 C3 C4 C5 C6 C7 C8 C9 C10 : Addr}
    {nm0 q0 : Str} {N0 : Addr} {bs0 : List Value} {sn0 : List Str} {sub0 : List Value} {ab0 : Bool} {col0 : Option Bool} {dd0 : Option Addr} {m00 m10 m20 m30 m50 : Option Value}
    {f0 : Addr} {odi0 ani0 : Option Addr} {sli0 : Array (Option Value)} {oci0 kVi0 dci0 pmi0 cdi0 cti0 : Value}
    {nm1 q1 : Str} {N1 : Addr} {bs1 : List Value} {sn1 : List Str} {sub1 : List Value} {ab1 : Bool} {col1 : Option Bool} {dd1 : Option Addr} {m01 m11 m21 m31 m51 : Option Value}
    {f1 : Addr} {odi1 ani1 : Option Addr} {sli1 : Array (Option Value)} {oci1 kVi1 dci1 pmi1 cdi1 cti1 : Value}
    {nm2 q2 : Str} {N2 : Addr} {bs2 : List Value} {sn2 : List Str} {sub2 : List Value} {ab2 : Bool} {col2 : Option Bool} {dd2 : Option Addr} {m02 m12 m22 m32 m52 : Option Value}
    {f2 : Addr} {odi2 ani2 : Option Addr} {sli2 : Array (Option Value)} {oci2 kVi2 dci2 pmi2 cdi2 cti2 : Value}
    {nm3 q3 : Str} {N3 : Addr} {bs3 : List Value} {sn3 : List Str} {sub3 : List Value} {ab3 : Bool} {col3 : Option Bool} {dd3 : Option Addr} {m03 m13 m23 m33 m53 : Option Value}
    {f3 : Addr} {odi3 ani3 : Option Addr} {sli3 : Array (Option Value)} {oci3 kVi3 dci3 pmi3 cdi3 cti3 : Value}
    {nm4 q4 : Str} {N4 : Addr} {bs4 : List Value} {sn4 : List Str} {sub4 : List Value} {ab4 : Bool} {col4 : Option Bool} {dd4 : Option Addr} {m04 m14 m24 m34 m54 : Option Value}
    {f4 : Addr} {odi4 ani4 : Option Addr} {sli4 : Array (Option Value)} {oci4 kVi4 dci4 pmi4 cdi4 cti4 : Value}
    {nm5 q5 : Str} {N5 : Addr} {bs5 : List Value} {sn5 : List Str} {sub5 : List Value} {ab5 : Bool} {col5 : Option Bool} {dd5 : Option Addr} {m05 m15 m25 m35 m55 : Option Value}
    {f5 : Addr} {odi5 ani5 : Option Addr} {sli5 : Array (Option Value)} {oci5 kVi5 dci5 pmi5 cdi5 cti5 : Value}
    {nm6 q6 : Str} {N6 : Addr} {bs6 : List Value} {sn6 : List Str} {sub6 : List Value} {ab6 : Bool} {col6 : Option Bool} {dd6 : Option Addr} {m06 m16 m26 m36 m56 : Option Value}
    {f6 : Addr} {odi6 ani6 : Option Addr} {sli6 : Array (Option Value)} {oci6 kVi6 dci6 pmi6 cdi6 cti6 : Value}
    {nm7 q7 : Str} {N7 : Addr} {bs7 : List Value} {sn7 : List Str} {sub7 : List Value} {ab7 : Bool} {col7 : Option Bool} {dd7 : Option Addr} {m07 m17 m27 m37 m57 : Option Value}
    {f7 : Addr} {odi7 ani7 : Option Addr} {sli7 : Array (Option Value)} {oci7 kVi7 dci7 pmi7 cdi7 cti7 : Value}
    {nm8 q8 : Str} {N8 : Addr} {bs8 : List Value} {sn8 : List Str} {sub8 : List Value} {ab8 : Bool} {col8 : Option Bool} {dd8 : Option Addr} {m08 m18 m28 m38 m58 : Option Value}
    {f8 : Addr} {odi8 ani8 : Option Addr} {sli8 : Array (Option Value)} {oci8 kVi8 dci8 pmi8 cdi8 cti8 : Value}
    {nm9 q9 : Str} {N9 : Addr} {bs9 : List Value} {sn9 : List Str} {sub9 : List Value} {ab9 : Bool} {col9 : Option Bool} {dd9 : Option Addr} {m09 m19 m29 m39 m59 : Option Value}
    {nm10 q10 : Str} {N10 : Addr} {bs10 : List Value} {sn10 : List Str} {sub10 : List Value} {ab10 : Bool} {col10 : Option Bool} {dd10 : Option Addr} {m010 m110 m210 m310 m510 : Option Value}
    {g_l_pen : Addr} {od_l_pen an_l_pen : Option Addr} {sl_l_pen : Array (Option Value)} {oc_l_pen kV_l_pen dc_l_pen pm_l_pen cd_l_pen ct_l_pen : Value}
    {g_l_draw : Addr} {od_l_draw an_l_draw : Option Addr} {sl_l_draw : Array (Option Value)} {oc_l_draw kV_l_draw dc_l_draw pm_l_draw cd_l_draw ct_l_draw : Value}
    {g_l_pick : Addr} {od_l_pick an_l_pick : Option Addr} {sl_l_pick : Array (Option Value)} {oc_l_pick kV_l_pick dc_l_pick pm_l_pick cd_l_pick ct_l_pick : Value}
    {g_l_big : Addr} {od_l_big an_l_big : Option Addr} {sl_l_big : Array (Option Value)} {oc_l_big kV_l_big dc_l_big pm_l_big cd_l_big ct_l_big : Value}
    {g_l_name : Addr} {od_l_name an_l_name : Option Addr} {sl_l_name : Array (Option Value)} {oc_l_name kV_l_name dc_l_name pm_l_name cd_l_name ct_l_name : Value}
    {g_l_made : Addr} {od_l_made an_l_made : Option Addr} {sl_l_made : Array (Option Value)} {oc_l_made kV_l_made dc_l_made pm_l_made cd_l_made ct_l_made : Value}
    {g_l_kinds : Addr} {od_l_kinds an_l_kinds : Option Addr} {sl_l_kinds : Array (Option Value)} {oc_l_kinds kV_l_kinds dc_l_kinds pm_l_kinds cd_l_kinds ct_l_kinds : Value}
    {g_law : Addr} {od_law an_law : Option Addr} {sl_law : Array (Option Value)} {oc_law kV_law dc_law pm_law cd_law ct_law : Value}
    (aM : PySem.W.nsIn K mainGlobals "MendError" = some (some (.ref CM)))
    (isM : PySem.W.isClsIn K CM = true)
    (tyM : PySem.W.typeIn K (.ref CM) = some (.type "type"))
    (hn : PySem.W.specialIn K (.builtin "object.__class__") "__get__" = some (some (.builtin "getset_descriptor.__get__")))
    (ht : PySem.W.takesIn K (.builtin "object.__class__") = some true)
    (nd : [CM, C0, C1, C2, C3, C4, C5, C6, C7, C8, C9, C10].Nodup)
    (a0 : PySem.W.nsIn K mainGlobals "BadText" = some (some (.ref C0)))
    (x0 : K.lookup C0 = some (excClassObj nm0 q0 C0 N0 bs0 (.ref CM :: [.type "ValueError", .type "Exception", .type "BaseException", .type "object"]) true sn0 sub0 ab0 col0 dd0 m00 m10 m20 m30 m50 "ValueError.__new__"))
    (sa0 : PySem.W.findIn K (.ref C0) "__setattr__" = some (some (.builtin "object.__setattr__")))
    (ga0 : PySem.W.findIn K (.ref C0) "__getattribute__" = some (some (.builtin "BaseException.__getattribute__")))
    (gg0 : PySem.W.findIn K (.ref C0) "__getattr__" = some none)
    (cc0 : PySem.W.findIn K (.ref C0) "__class__" = some (some (.builtin "object.__class__")))
    (eC0 : PySem.W.subIn K (.ref C0) (.type "BaseException") = some true)
    (tC0 : PySem.W.typeIn K (.ref C0) = some (.type "type"))
    (kC0 : PySem.W.keepIn K (.ref C0) = true)
    (hC0 : PySem.W.hasDictIn K C0 = true)
    (hm0 : PySem.W.mroIn K C0 (.type "object") = some true)
    (iC0 : PySem.W.findIn K (.ref C0) "__init__" = some (some (.ref f0)))
    (tI0 : PySem.W.typeIn K (.ref f0) = some (.type "function"))
    (li0 : K.lookup f0 = some ⟨oci0, odi0, .func (PySem.W.fnOf "__init__" "BadText.__init__" (defArgs s_BadText) (defBody s_BadText) (defScope s_BadText) .none kVi0 dci0 pmi0 ani0 cdi0 cti0), sli0⟩)
    (ci0 : PySem.W.codeIn K cdi0 "BadText.__init__" = true)
    (ki0 : PySem.W.keepIn K (.ref f0) = true)
    (no0line : PySem.W.findIn K (.ref C0) "line" = some none)
    (no0column : PySem.W.findIn K (.ref C0) "column" = some none)
    (a1 : PySem.W.nsIn K mainGlobals "BadNumber" = some (some (.ref C1)))
    (x1 : K.lookup C1 = some (excClassObj nm1 q1 C1 N1 bs1 (.ref CM :: [.type "ValueError", .type "Exception", .type "BaseException", .type "object"]) true sn1 sub1 ab1 col1 dd1 m01 m11 m21 m31 m51 "ValueError.__new__"))
    (sa1 : PySem.W.findIn K (.ref C1) "__setattr__" = some (some (.builtin "object.__setattr__")))
    (ga1 : PySem.W.findIn K (.ref C1) "__getattribute__" = some (some (.builtin "BaseException.__getattribute__")))
    (gg1 : PySem.W.findIn K (.ref C1) "__getattr__" = some none)
    (cc1 : PySem.W.findIn K (.ref C1) "__class__" = some (some (.builtin "object.__class__")))
    (eC1 : PySem.W.subIn K (.ref C1) (.type "BaseException") = some true)
    (tC1 : PySem.W.typeIn K (.ref C1) = some (.type "type"))
    (kC1 : PySem.W.keepIn K (.ref C1) = true)
    (hC1 : PySem.W.hasDictIn K C1 = true)
    (hm1 : PySem.W.mroIn K C1 (.type "object") = some true)
    (iC1 : PySem.W.findIn K (.ref C1) "__init__" = some (some (.ref f1)))
    (tI1 : PySem.W.typeIn K (.ref f1) = some (.type "function"))
    (li1 : K.lookup f1 = some ⟨oci1, odi1, .func (PySem.W.fnOf "__init__" "BadNumber.__init__" (defArgs s_BadNumber) (defBody s_BadNumber) (defScope s_BadNumber) .none kVi1 dci1 pmi1 ani1 cdi1 cti1), sli1⟩)
    (ci1 : PySem.W.codeIn K cdi1 "BadNumber.__init__" = true)
    (ki1 : PySem.W.keepIn K (.ref f1) = true)
    (no1what : PySem.W.findIn K (.ref C1) "what" = some none)
    (no1number : PySem.W.findIn K (.ref C1) "number" = some none)
    (a2 : PySem.W.nsIn K mainGlobals "BadName" = some (some (.ref C2)))
    (x2 : K.lookup C2 = some (excClassObj nm2 q2 C2 N2 bs2 (.ref CM :: [.type "ValueError", .type "Exception", .type "BaseException", .type "object"]) true sn2 sub2 ab2 col2 dd2 m02 m12 m22 m32 m52 "ValueError.__new__"))
    (sa2 : PySem.W.findIn K (.ref C2) "__setattr__" = some (some (.builtin "object.__setattr__")))
    (ga2 : PySem.W.findIn K (.ref C2) "__getattribute__" = some (some (.builtin "BaseException.__getattribute__")))
    (gg2 : PySem.W.findIn K (.ref C2) "__getattr__" = some none)
    (cc2 : PySem.W.findIn K (.ref C2) "__class__" = some (some (.builtin "object.__class__")))
    (eC2 : PySem.W.subIn K (.ref C2) (.type "BaseException") = some true)
    (tC2 : PySem.W.typeIn K (.ref C2) = some (.type "type"))
    (kC2 : PySem.W.keepIn K (.ref C2) = true)
    (hC2 : PySem.W.hasDictIn K C2 = true)
    (hm2 : PySem.W.mroIn K C2 (.type "object") = some true)
    (iC2 : PySem.W.findIn K (.ref C2) "__init__" = some (some (.ref f2)))
    (tI2 : PySem.W.typeIn K (.ref f2) = some (.type "function"))
    (li2 : K.lookup f2 = some ⟨oci2, odi2, .func (PySem.W.fnOf "__init__" "BadName.__init__" (defArgs s_BadName) (defBody s_BadName) (defScope s_BadName) .none kVi2 dci2 pmi2 ani2 cdi2 cti2), sli2⟩)
    (ci2 : PySem.W.codeIn K cdi2 "BadName.__init__" = true)
    (ki2 : PySem.W.keepIn K (.ref f2) = true)
    (no2name : PySem.W.findIn K (.ref C2) "name" = some none)
    (a3 : PySem.W.nsIn K mainGlobals "BadLot" = some (some (.ref C3)))
    (x3 : K.lookup C3 = some (excClassObj nm3 q3 C3 N3 bs3 (.ref CM :: [.type "ValueError", .type "Exception", .type "BaseException", .type "object"]) true sn3 sub3 ab3 col3 dd3 m03 m13 m23 m33 m53 "ValueError.__new__"))
    (sa3 : PySem.W.findIn K (.ref C3) "__setattr__" = some (some (.builtin "object.__setattr__")))
    (ga3 : PySem.W.findIn K (.ref C3) "__getattribute__" = some (some (.builtin "BaseException.__getattribute__")))
    (gg3 : PySem.W.findIn K (.ref C3) "__getattr__" = some none)
    (cc3 : PySem.W.findIn K (.ref C3) "__class__" = some (some (.builtin "object.__class__")))
    (eC3 : PySem.W.subIn K (.ref C3) (.type "BaseException") = some true)
    (tC3 : PySem.W.typeIn K (.ref C3) = some (.type "type"))
    (kC3 : PySem.W.keepIn K (.ref C3) = true)
    (hC3 : PySem.W.hasDictIn K C3 = true)
    (hm3 : PySem.W.mroIn K C3 (.type "object") = some true)
    (iC3 : PySem.W.findIn K (.ref C3) "__init__" = some (some (.ref f3)))
    (tI3 : PySem.W.typeIn K (.ref f3) = some (.type "function"))
    (li3 : K.lookup f3 = some ⟨oci3, odi3, .func (PySem.W.fnOf "__init__" "BadLot.__init__" (defArgs s_BadLot) (defBody s_BadLot) (defScope s_BadLot) .none kVi3 dci3 pmi3 ani3 cdi3 cti3), sli3⟩)
    (ci3 : PySem.W.codeIn K cdi3 "BadLot.__init__" = true)
    (ki3 : PySem.W.keepIn K (.ref f3) = true)
    (no3lot : PySem.W.findIn K (.ref C3) "lot" = some none)
    (a4 : PySem.W.nsIn K mainGlobals "NoName" = some (some (.ref C4)))
    (x4 : K.lookup C4 = some (excClassObj nm4 q4 C4 N4 bs4 (.ref CM :: [.type "ValueError", .type "Exception", .type "BaseException", .type "object"]) true sn4 sub4 ab4 col4 dd4 m04 m14 m24 m34 m54 "ValueError.__new__"))
    (sa4 : PySem.W.findIn K (.ref C4) "__setattr__" = some (some (.builtin "object.__setattr__")))
    (ga4 : PySem.W.findIn K (.ref C4) "__getattribute__" = some (some (.builtin "BaseException.__getattribute__")))
    (gg4 : PySem.W.findIn K (.ref C4) "__getattr__" = some none)
    (cc4 : PySem.W.findIn K (.ref C4) "__class__" = some (some (.builtin "object.__class__")))
    (eC4 : PySem.W.subIn K (.ref C4) (.type "BaseException") = some true)
    (tC4 : PySem.W.typeIn K (.ref C4) = some (.type "type"))
    (kC4 : PySem.W.keepIn K (.ref C4) = true)
    (hC4 : PySem.W.hasDictIn K C4 = true)
    (hm4 : PySem.W.mroIn K C4 (.type "object") = some true)
    (iC4 : PySem.W.findIn K (.ref C4) "__init__" = some (some (.ref f4)))
    (tI4 : PySem.W.typeIn K (.ref f4) = some (.type "function"))
    (li4 : K.lookup f4 = some ⟨oci4, odi4, .func (PySem.W.fnOf "__init__" "NoName.__init__" (defArgs s_NoName) (defBody s_NoName) (defScope s_NoName) .none kVi4 dci4 pmi4 ani4 cdi4 cti4), sli4⟩)
    (ci4 : PySem.W.codeIn K cdi4 "NoName.__init__" = true)
    (ki4 : PySem.W.keepIn K (.ref f4) = true)
    (no4name : PySem.W.findIn K (.ref C4) "name" = some none)
    (a5 : PySem.W.nsIn K mainGlobals "TakenName" = some (some (.ref C5)))
    (x5 : K.lookup C5 = some (excClassObj nm5 q5 C5 N5 bs5 (.ref CM :: [.type "ValueError", .type "Exception", .type "BaseException", .type "object"]) true sn5 sub5 ab5 col5 dd5 m05 m15 m25 m35 m55 "ValueError.__new__"))
    (sa5 : PySem.W.findIn K (.ref C5) "__setattr__" = some (some (.builtin "object.__setattr__")))
    (ga5 : PySem.W.findIn K (.ref C5) "__getattribute__" = some (some (.builtin "BaseException.__getattribute__")))
    (gg5 : PySem.W.findIn K (.ref C5) "__getattr__" = some none)
    (cc5 : PySem.W.findIn K (.ref C5) "__class__" = some (some (.builtin "object.__class__")))
    (eC5 : PySem.W.subIn K (.ref C5) (.type "BaseException") = some true)
    (tC5 : PySem.W.typeIn K (.ref C5) = some (.type "type"))
    (kC5 : PySem.W.keepIn K (.ref C5) = true)
    (hC5 : PySem.W.hasDictIn K C5 = true)
    (hm5 : PySem.W.mroIn K C5 (.type "object") = some true)
    (iC5 : PySem.W.findIn K (.ref C5) "__init__" = some (some (.ref f5)))
    (tI5 : PySem.W.typeIn K (.ref f5) = some (.type "function"))
    (li5 : K.lookup f5 = some ⟨oci5, odi5, .func (PySem.W.fnOf "__init__" "TakenName.__init__" (defArgs s_TakenName) (defBody s_TakenName) (defScope s_TakenName) .none kVi5 dci5 pmi5 ani5 cdi5 cti5), sli5⟩)
    (ci5 : PySem.W.codeIn K cdi5 "TakenName.__init__" = true)
    (ki5 : PySem.W.keepIn K (.ref f5) = true)
    (no5name : PySem.W.findIn K (.ref C5) "name" = some none)
    (a6 : PySem.W.nsIn K mainGlobals "TooSmall" = some (some (.ref C6)))
    (x6 : K.lookup C6 = some (excClassObj nm6 q6 C6 N6 bs6 (.ref CM :: [.type "ValueError", .type "Exception", .type "BaseException", .type "object"]) true sn6 sub6 ab6 col6 dd6 m06 m16 m26 m36 m56 "ValueError.__new__"))
    (sa6 : PySem.W.findIn K (.ref C6) "__setattr__" = some (some (.builtin "object.__setattr__")))
    (ga6 : PySem.W.findIn K (.ref C6) "__getattribute__" = some (some (.builtin "BaseException.__getattribute__")))
    (gg6 : PySem.W.findIn K (.ref C6) "__getattr__" = some none)
    (cc6 : PySem.W.findIn K (.ref C6) "__class__" = some (some (.builtin "object.__class__")))
    (eC6 : PySem.W.subIn K (.ref C6) (.type "BaseException") = some true)
    (tC6 : PySem.W.typeIn K (.ref C6) = some (.type "type"))
    (kC6 : PySem.W.keepIn K (.ref C6) = true)
    (hC6 : PySem.W.hasDictIn K C6 = true)
    (hm6 : PySem.W.mroIn K C6 (.type "object") = some true)
    (iC6 : PySem.W.findIn K (.ref C6) "__init__" = some (some (.ref f6)))
    (tI6 : PySem.W.typeIn K (.ref f6) = some (.type "function"))
    (li6 : K.lookup f6 = some ⟨oci6, odi6, .func (PySem.W.fnOf "__init__" "TooSmall.__init__" (defArgs s_TooSmall) (defBody s_TooSmall) (defScope s_TooSmall) .none kVi6 dci6 pmi6 ani6 cdi6 cti6), sli6⟩)
    (ci6 : PySem.W.codeIn K cdi6 "TooSmall.__init__" = true)
    (ki6 : PySem.W.keepIn K (.ref f6) = true)
    (no6prime : PySem.W.findIn K (.ref C6) "prime" = some none)
    (no6bound : PySem.W.findIn K (.ref C6) "bound" = some none)
    (a7 : PySem.W.nsIn K mainGlobals "TooMany" = some (some (.ref C7)))
    (x7 : K.lookup C7 = some (excClassObj nm7 q7 C7 N7 bs7 (.ref CM :: [.type "ValueError", .type "Exception", .type "BaseException", .type "object"]) true sn7 sub7 ab7 col7 dd7 m07 m17 m27 m37 m57 "ValueError.__new__"))
    (sa7 : PySem.W.findIn K (.ref C7) "__setattr__" = some (some (.builtin "object.__setattr__")))
    (ga7 : PySem.W.findIn K (.ref C7) "__getattribute__" = some (some (.builtin "BaseException.__getattribute__")))
    (gg7 : PySem.W.findIn K (.ref C7) "__getattr__" = some none)
    (cc7 : PySem.W.findIn K (.ref C7) "__class__" = some (some (.builtin "object.__class__")))
    (eC7 : PySem.W.subIn K (.ref C7) (.type "BaseException") = some true)
    (tC7 : PySem.W.typeIn K (.ref C7) = some (.type "type"))
    (kC7 : PySem.W.keepIn K (.ref C7) = true)
    (hC7 : PySem.W.hasDictIn K C7 = true)
    (hm7 : PySem.W.mroIn K C7 (.type "object") = some true)
    (iC7 : PySem.W.findIn K (.ref C7) "__init__" = some (some (.ref f7)))
    (tI7 : PySem.W.typeIn K (.ref f7) = some (.type "function"))
    (li7 : K.lookup f7 = some ⟨oci7, odi7, .func (PySem.W.fnOf "__init__" "TooMany.__init__" (defArgs s_TooMany) (defBody s_TooMany) (defScope s_TooMany) .none kVi7 dci7 pmi7 ani7 cdi7 cti7), sli7⟩)
    (ci7 : PySem.W.codeIn K cdi7 "TooMany.__init__" = true)
    (ki7 : PySem.W.keepIn K (.ref f7) = true)
    (no7what : PySem.W.findIn K (.ref C7) "what" = some none)
    (no7many : PySem.W.findIn K (.ref C7) "many" = some none)
    (no7limit : PySem.W.findIn K (.ref C7) "limit" = some none)
    (a8 : PySem.W.nsIn K mainGlobals "NotKept" = some (some (.ref C8)))
    (x8 : K.lookup C8 = some (excClassObj nm8 q8 C8 N8 bs8 (.ref CM :: [.type "ValueError", .type "Exception", .type "BaseException", .type "object"]) true sn8 sub8 ab8 col8 dd8 m08 m18 m28 m38 m58 "ValueError.__new__"))
    (sa8 : PySem.W.findIn K (.ref C8) "__setattr__" = some (some (.builtin "object.__setattr__")))
    (ga8 : PySem.W.findIn K (.ref C8) "__getattribute__" = some (some (.builtin "BaseException.__getattribute__")))
    (gg8 : PySem.W.findIn K (.ref C8) "__getattr__" = some none)
    (cc8 : PySem.W.findIn K (.ref C8) "__class__" = some (some (.builtin "object.__class__")))
    (eC8 : PySem.W.subIn K (.ref C8) (.type "BaseException") = some true)
    (tC8 : PySem.W.typeIn K (.ref C8) = some (.type "type"))
    (kC8 : PySem.W.keepIn K (.ref C8) = true)
    (hC8 : PySem.W.hasDictIn K C8 = true)
    (hm8 : PySem.W.mroIn K C8 (.type "object") = some true)
    (iC8 : PySem.W.findIn K (.ref C8) "__init__" = some (some (.ref f8)))
    (tI8 : PySem.W.typeIn K (.ref f8) = some (.type "function"))
    (li8 : K.lookup f8 = some ⟨oci8, odi8, .func (PySem.W.fnOf "__init__" "NotKept.__init__" (defArgs s_NotKept) (defBody s_NotKept) (defScope s_NotKept) .none kVi8 dci8 pmi8 ani8 cdi8 cti8), sli8⟩)
    (ci8 : PySem.W.codeIn K cdi8 "NotKept.__init__" = true)
    (ki8 : PySem.W.keepIn K (.ref f8) = true)
    (no8promise : PySem.W.findIn K (.ref C8) "promise" = some none)
    (no8witness : PySem.W.findIn K (.ref C8) "witness" = some none)
    (a9 : PySem.W.nsIn K mainGlobals "NothingToUndo" = some (some (.ref C9)))
    (x9 : K.lookup C9 = some (excClassObj nm9 q9 C9 N9 bs9 (.ref CM :: [.type "ValueError", .type "Exception", .type "BaseException", .type "object"]) true sn9 sub9 ab9 col9 dd9 m09 m19 m29 m39 m59 "ValueError.__new__"))
    (sa9 : PySem.W.findIn K (.ref C9) "__setattr__" = some (some (.builtin "object.__setattr__")))
    (ga9 : PySem.W.findIn K (.ref C9) "__getattribute__" = some (some (.builtin "BaseException.__getattribute__")))
    (gg9 : PySem.W.findIn K (.ref C9) "__getattr__" = some none)
    (cc9 : PySem.W.findIn K (.ref C9) "__class__" = some (some (.builtin "object.__class__")))
    (eC9 : PySem.W.subIn K (.ref C9) (.type "BaseException") = some true)
    (tC9 : PySem.W.typeIn K (.ref C9) = some (.type "type"))
    (kC9 : PySem.W.keepIn K (.ref C9) = true)
    (hC9 : PySem.W.hasDictIn K C9 = true)
    (hm9 : PySem.W.mroIn K C9 (.type "object") = some true)
    (ex9 : PySem.W.excIn K C9 [.type "ValueError", .type "Exception", .type "BaseException", .type "object"] "ValueError.__new__" = true)
    (a10 : PySem.W.nsIn K mainGlobals "NothingToRedo" = some (some (.ref C10)))
    (x10 : K.lookup C10 = some (excClassObj nm10 q10 C10 N10 bs10 (.ref CM :: [.type "ValueError", .type "Exception", .type "BaseException", .type "object"]) true sn10 sub10 ab10 col10 dd10 m010 m110 m210 m310 m510 "ValueError.__new__"))
    (sa10 : PySem.W.findIn K (.ref C10) "__setattr__" = some (some (.builtin "object.__setattr__")))
    (ga10 : PySem.W.findIn K (.ref C10) "__getattribute__" = some (some (.builtin "BaseException.__getattribute__")))
    (gg10 : PySem.W.findIn K (.ref C10) "__getattr__" = some none)
    (cc10 : PySem.W.findIn K (.ref C10) "__class__" = some (some (.builtin "object.__class__")))
    (eC10 : PySem.W.subIn K (.ref C10) (.type "BaseException") = some true)
    (tC10 : PySem.W.typeIn K (.ref C10) = some (.type "type"))
    (kC10 : PySem.W.keepIn K (.ref C10) = true)
    (hC10 : PySem.W.hasDictIn K C10 = true)
    (hm10 : PySem.W.mroIn K C10 (.type "object") = some true)
    (ex10 : PySem.W.excIn K C10 [.type "ValueError", .type "Exception", .type "BaseException", .type "object"] "ValueError.__new__" = true)
    (n_l_pen : PySem.W.nsIn K mainGlobals "_law_pen" = some (some (.ref g_l_pen)))
    (l_l_pen : K.lookup g_l_pen = some ⟨oc_l_pen, od_l_pen, .func (PySem.W.fnOf "_law_pen" "_law_pen" (defArgs s_l_pen) (defBody s_l_pen) (defScope s_l_pen) .none kV_l_pen dc_l_pen pm_l_pen an_l_pen cd_l_pen ct_l_pen), sl_l_pen⟩)
    (c_l_pen : PySem.W.codeIn K cd_l_pen "_law_pen" = true)
    (k_l_pen : PySem.W.keepIn K (.ref g_l_pen) = true)
    (n_l_draw : PySem.W.nsIn K mainGlobals "_law_draw" = some (some (.ref g_l_draw)))
    (l_l_draw : K.lookup g_l_draw = some ⟨oc_l_draw, od_l_draw, .func (PySem.W.fnOf "_law_draw" "_law_draw" (defArgs s_l_draw) (defBody s_l_draw) (defScope s_l_draw) .none kV_l_draw dc_l_draw pm_l_draw an_l_draw cd_l_draw ct_l_draw), sl_l_draw⟩)
    (c_l_draw : PySem.W.codeIn K cd_l_draw "_law_draw" = true)
    (k_l_draw : PySem.W.keepIn K (.ref g_l_draw) = true)
    (n_l_pick : PySem.W.nsIn K mainGlobals "_law_pick" = some (some (.ref g_l_pick)))
    (l_l_pick : K.lookup g_l_pick = some ⟨oc_l_pick, od_l_pick, .func (PySem.W.fnOf "_law_pick" "_law_pick" (defArgs s_l_pick) (defBody s_l_pick) (defScope s_l_pick) .none kV_l_pick dc_l_pick pm_l_pick an_l_pick cd_l_pick ct_l_pick), sl_l_pick⟩)
    (c_l_pick : PySem.W.codeIn K cd_l_pick "_law_pick" = true)
    (k_l_pick : PySem.W.keepIn K (.ref g_l_pick) = true)
    (n_l_big : PySem.W.nsIn K mainGlobals "_law_big" = some (some (.ref g_l_big)))
    (l_l_big : K.lookup g_l_big = some ⟨oc_l_big, od_l_big, .func (PySem.W.fnOf "_law_big" "_law_big" (defArgs s_l_big) (defBody s_l_big) (defScope s_l_big) .none kV_l_big dc_l_big pm_l_big an_l_big cd_l_big ct_l_big), sl_l_big⟩)
    (c_l_big : PySem.W.codeIn K cd_l_big "_law_big" = true)
    (k_l_big : PySem.W.keepIn K (.ref g_l_big) = true)
    (n_l_name : PySem.W.nsIn K mainGlobals "_law_name" = some (some (.ref g_l_name)))
    (l_l_name : K.lookup g_l_name = some ⟨oc_l_name, od_l_name, .func (PySem.W.fnOf "_law_name" "_law_name" (defArgs s_l_name) (defBody s_l_name) (defScope s_l_name) .none kV_l_name dc_l_name pm_l_name an_l_name cd_l_name ct_l_name), sl_l_name⟩)
    (c_l_name : PySem.W.codeIn K cd_l_name "_law_name" = true)
    (k_l_name : PySem.W.keepIn K (.ref g_l_name) = true)
    (n_l_made : PySem.W.nsIn K mainGlobals "_law_made" = some (some (.ref g_l_made)))
    (l_l_made : K.lookup g_l_made = some ⟨oc_l_made, od_l_made, .func (PySem.W.fnOf "_law_made" "_law_made" (defArgs s_l_made) (defBody s_l_made) (defScope s_l_made) .none kV_l_made dc_l_made pm_l_made an_l_made cd_l_made ct_l_made), sl_l_made⟩)
    (c_l_made : PySem.W.codeIn K cd_l_made "_law_made" = true)
    (k_l_made : PySem.W.keepIn K (.ref g_l_made) = true)
    (n_l_kinds : PySem.W.nsIn K mainGlobals "_law_kinds" = some (some (.ref g_l_kinds)))
    (l_l_kinds : K.lookup g_l_kinds = some ⟨oc_l_kinds, od_l_kinds, .func (PySem.W.fnOf "_law_kinds" "_law_kinds" (defArgs s_l_kinds) (defBody s_l_kinds) (defScope s_l_kinds) .none kV_l_kinds dc_l_kinds pm_l_kinds an_l_kinds cd_l_kinds ct_l_kinds), sl_l_kinds⟩)
    (c_l_kinds : PySem.W.codeIn K cd_l_kinds "_law_kinds" = true)
    (k_l_kinds : PySem.W.keepIn K (.ref g_l_kinds) = true)
    (n_law : PySem.W.nsIn K mainGlobals "law" = some (some (.ref g_law)))
    (l_law : K.lookup g_law = some ⟨oc_law, od_law, .func (PySem.W.fnOf "law" "law" (defArgs s_law) (defBody s_law) (defScope s_law) .none kV_law dc_law pm_law an_law cd_law ct_law), sl_law⟩)
    (c_law : PySem.W.codeIn K cd_law "law" = true)
    (k_law : PySem.W.keepIn K (.ref g_law) = true)
    (b_int : PySem.W.nsIn K mainGlobals "int" = some none)
    (b_str : PySem.W.nsIn K mainGlobals "str" = some none)
    (b_len : PySem.W.nsIn K mainGlobals "len" = some none)
    (b_list : PySem.W.nsIn K mainGlobals "list" = some none)
    (b_range : PySem.W.nsIn K mainGlobals "range" = some none)
    (b_repr : PySem.W.nsIn K mainGlobals "repr" = some none)
    (b_isinstance : PySem.W.nsIn K mainGlobals "isinstance" = some none)
    (b_ValueError : PySem.W.nsIn K mainGlobals "ValueError" = some none)
    : ∃ fd : FuncData, (∀ (s : Shared) (v : Value), BindsTo s fd ⟨[v], []⟩ [("_law_script", v)]) ∧ ∀ base : Heap, K.In base → base.Ns mainGlobals mg → FnG P w K mg base CX0 4 fa fd ["_law_script"] (spLaw K) := by
  have e := hfa.symm.trans (PySem.W.mg_of X G n_law)
  cases e
  have B_int := PySem.W.mg_none_of X G b_int
  have B_str := PySem.W.mg_none_of X G b_str
  have B_len := PySem.W.mg_none_of X G b_len
  have B_list := PySem.W.mg_none_of X G b_list
  have B_range := PySem.W.mg_none_of X G b_range
  have B_repr := PySem.W.mg_none_of X G b_repr
  have B_isinstance := PySem.W.mg_none_of X G b_isinstance
  have B_ValueError := PySem.W.mg_none_of X G b_ValueError
  have xc0 := xc_mk x0 sa0 ga0 gg0 cc0 eC0 tC0 kC0 hC0 hm0 hn ht
  have r0 := row_mk x0 tC0
  have F0 := fun_mk (st := s_BadText) li0 ci0 ki0
  have B0 := F0.binds (ps := ["self", "line", "column"]) fun _ _ _ _ _ _ us hl => match us, hl with | [_, _, _], _ => rfl
  have xc1 := xc_mk x1 sa1 ga1 gg1 cc1 eC1 tC1 kC1 hC1 hm1 hn ht
  have r1 := row_mk x1 tC1
  have F1 := fun_mk (st := s_BadNumber) li1 ci1 ki1
  have B1 := F1.binds (ps := ["self", "what", "number"]) fun _ _ _ _ _ _ us hl => match us, hl with | [_, _, _], _ => rfl
  have xc2 := xc_mk x2 sa2 ga2 gg2 cc2 eC2 tC2 kC2 hC2 hm2 hn ht
  have r2 := row_mk x2 tC2
  have F2 := fun_mk (st := s_BadName) li2 ci2 ki2
  have B2 := F2.binds (ps := ["self", "name"]) fun _ _ _ _ _ _ us hl => match us, hl with | [_, _], _ => rfl
  have xc3 := xc_mk x3 sa3 ga3 gg3 cc3 eC3 tC3 kC3 hC3 hm3 hn ht
  have r3 := row_mk x3 tC3
  have F3 := fun_mk (st := s_BadLot) li3 ci3 ki3
  have B3 := F3.binds (ps := ["self", "lot"]) fun _ _ _ _ _ _ us hl => match us, hl with | [_, _], _ => rfl
  have xc4 := xc_mk x4 sa4 ga4 gg4 cc4 eC4 tC4 kC4 hC4 hm4 hn ht
  have r4 := row_mk x4 tC4
  have F4 := fun_mk (st := s_NoName) li4 ci4 ki4
  have B4 := F4.binds (ps := ["self", "name"]) fun _ _ _ _ _ _ us hl => match us, hl with | [_, _], _ => rfl
  have xc5 := xc_mk x5 sa5 ga5 gg5 cc5 eC5 tC5 kC5 hC5 hm5 hn ht
  have r5 := row_mk x5 tC5
  have F5 := fun_mk (st := s_TakenName) li5 ci5 ki5
  have B5 := F5.binds (ps := ["self", "name"]) fun _ _ _ _ _ _ us hl => match us, hl with | [_, _], _ => rfl
  have xc6 := xc_mk x6 sa6 ga6 gg6 cc6 eC6 tC6 kC6 hC6 hm6 hn ht
  have r6 := row_mk x6 tC6
  have F6 := fun_mk (st := s_TooSmall) li6 ci6 ki6
  have B6 := F6.binds (ps := ["self", "prime", "bound"]) fun _ _ _ _ _ _ us hl => match us, hl with | [_, _, _], _ => rfl
  have xc7 := xc_mk x7 sa7 ga7 gg7 cc7 eC7 tC7 kC7 hC7 hm7 hn ht
  have r7 := row_mk x7 tC7
  have F7 := fun_mk (st := s_TooMany) li7 ci7 ki7
  have B7 := F7.binds (ps := ["self", "what", "many", "limit"]) fun _ _ _ _ _ _ us hl => match us, hl with | [_, _, _, _], _ => rfl
  have xc8 := xc_mk x8 sa8 ga8 gg8 cc8 eC8 tC8 kC8 hC8 hm8 hn ht
  have r8 := row_mk x8 tC8
  have F8 := fun_mk (st := s_NotKept) li8 ci8 ki8
  have B8 := F8.binds (ps := ["self", "promise", "witness"]) fun _ _ _ _ _ _ us hl => match us, hl with | [_, _, _], _ => rfl
  have xc9 := xc_mk x9 sa9 ga9 gg9 cc9 eC9 tC9 kC9 hC9 hm9 hn ht
  have r9 := row_mk x9 tC9
  have xc10 := xc_mk x10 sa10 ga10 gg10 cc10 eC10 tC10 kC10 hC10 hm10 hn ht
  have r10 := row_mk x10 tC10
  have F_l_pen := fun_mk (st := s_l_pen) l_l_pen c_l_pen k_l_pen
  have B_l_pen := F_l_pen.binds (ps := ["_law_script"]) fun _ _ _ _ _ _ us hl => match us, hl with | [_], _ => rfl
  have F_l_draw := fun_mk (st := s_l_draw) l_l_draw c_l_draw k_l_draw
  have B_l_draw := F_l_draw.binds (ps := ["_law_pen_here", "_law_many"]) fun _ _ _ _ _ _ us hl => match us, hl with | [_, _], _ => rfl
  have F_l_pick := fun_mk (st := s_l_pick) l_l_pick c_l_pick k_l_pick
  have B_l_pick := F_l_pick.binds (ps := ["_law_pen_here", "_law_some"]) fun _ _ _ _ _ _ us hl => match us, hl with | [_, _], _ => rfl
  have F_l_big := fun_mk (st := s_l_big) l_l_big c_l_big k_l_big
  have B_l_big := F_l_big.binds (ps := ["_law_pen_here", "_law_figures"]) fun _ _ _ _ _ _ us hl => match us, hl with | [_, _], _ => rfl
  have F_l_name := fun_mk (st := s_l_name) l_l_name c_l_name k_l_name
  have B_l_name := F_l_name.binds (ps := ["_law_pen_here", "_law_used"]) fun _ _ _ _ _ _ us hl => match us, hl with | [_, _], _ => rfl
  have F_l_made := fun_mk (st := s_l_made) l_l_made c_l_made k_l_made
  have B_l_made := F_l_made.binds (ps := ["_law_kind", "_law_a", "_law_b", "_law_c"]) fun _ _ _ _ _ _ us hl => match us, hl with | [_, _, _, _], _ => rfl
  have F_l_kinds := fun_mk (st := s_l_kinds) l_l_kinds c_l_kinds k_l_kinds
  have B_l_kinds := F_l_kinds.binds (ps := ["_law_e"]) fun _ _ _ _ _ _ us hl => match us, hl with | [_], _ => rfl
  have F_law := fun_mk (st := s_law) l_law c_law k_law
  have rows : ∀ C ∈ [C0, C1, C2, C3, C4, C5, C6, C7, C8, C9, C10], Row K CM C := fun C hC => by simp only [List.mem_cons, List.not_mem_nil, or_false] at hC; rcases hC with rfl | rfl | rfl | rfl | rfl | rfl | rfl | rfl | rfl | rfl | rfl <;> assumption
  have len_nd := List.nodup_cons.mp nd
  refine ⟨PySem.W.fnOf "law" "law" (defArgs s_law) (defBody s_law) (defScope s_law) .none kV_law dc_law pm_law an_law cd_law ct_law, fun s v => .of_eq rfl, fun base _ _ => ?_⟩
  have M : All P w K mg base C0 C1 C2 C3 C4 C5 C6 C7 C8 C9 C10 :=
    ⟨⟨xc0, fun f hf => by simp only [List.mem_cons, List.not_mem_nil, or_false] at hf; rcases hf with rfl | rfl <;> assumption, PySem.W.mg_of X G a0, f0, _, iC0, tI0, ok_BadText F0, B0⟩,
      ⟨xc1, fun f hf => by simp only [List.mem_cons, List.not_mem_nil, or_false] at hf; rcases hf with rfl | rfl <;> assumption, PySem.W.mg_of X G a1, f1, _, iC1, tI1, ok_BadNumber F1, B1⟩,
      ⟨xc2, fun f hf => by rw [List.mem_singleton.mp hf]; exact no2name, PySem.W.mg_of X G a2, f2, _, iC2, tI2, ok_BadName F2, B2⟩,
      ⟨xc3, fun f hf => by rw [List.mem_singleton.mp hf]; exact no3lot, PySem.W.mg_of X G a3, f3, _, iC3, tI3, ok_BadLot F3, B3⟩,
      ⟨xc4, fun f hf => by rw [List.mem_singleton.mp hf]; exact no4name, PySem.W.mg_of X G a4, f4, _, iC4, tI4, ok_NoName F4, B4⟩,
      ⟨xc5, fun f hf => by rw [List.mem_singleton.mp hf]; exact no5name, PySem.W.mg_of X G a5, f5, _, iC5, tI5, ok_TakenName F5, B5⟩,
      ⟨xc6, fun f hf => by simp only [List.mem_cons, List.not_mem_nil, or_false] at hf; rcases hf with rfl | rfl <;> assumption, PySem.W.mg_of X G a6, f6, _, iC6, tI6, ok_TooSmall F6, B6⟩,
      ⟨xc7, fun f hf => by simp only [List.mem_cons, List.not_mem_nil, or_false] at hf; rcases hf with rfl | rfl | rfl <;> assumption, PySem.W.mg_of X G a7, f7, _, iC7, tI7, ok_TooMany F7, B7⟩,
      ⟨xc8, fun f hf => by simp only [List.mem_cons, List.not_mem_nil, or_false] at hf; rcases hf with rfl | rfl <;> assumption, PySem.W.mg_of X G a8, f8, _, iC8, tI8, ok_NotKept F8, B8⟩,
      ⟨xc9, PySem.W.mg_of X G a9, ex9⟩,
      ⟨xc10, PySem.W.mg_of X G a10, ex10⟩⟩
  have GD := ok_draw (P := P) (w := w) (base := base) F_l_draw B_int B_len
  have gD := PySem.W.mg_of X G n_l_draw
  have GP := ok_pick (P := P) (w := w) (base := base) F_l_pick B_len GD gD F_l_draw.kp B_l_draw
  have gP := PySem.W.mg_of X G n_l_pick
  have TT : TL P w K mg base CM [C0, C1, C2, C3, C4, C5, C6, C7, C8, C9, C10] :=
    ⟨⟨_, _, ok_pen F_l_pen B_int B_list, PySem.W.mg_of X G n_l_pen, F_l_pen.kp, B_l_pen⟩, ⟨_, _, GD, gD, F_l_draw.kp, B_l_draw⟩, ⟨_, _, GP, gP, F_l_pick.kp, B_l_pick⟩,
      ⟨_, _, ok_big F_l_big B_int B_str B_range GD gD F_l_draw.kp B_l_draw GP gP F_l_pick.kp B_l_pick, PySem.W.mg_of X G n_l_big, F_l_big.kp, B_l_big⟩,
      ⟨_, _, ok_name F_l_name B_len B_str B_range GD gD F_l_draw.kp B_l_draw GP gP F_l_pick.kp B_l_pick, PySem.W.mg_of X G n_l_name, F_l_name.kp, B_l_name⟩,
      ⟨_, _, ok_made F_l_made M, PySem.W.mg_of X G n_l_made, F_l_made.kp, B_l_made⟩,
      ⟨_, _, ok_kinds F_l_kinds M (kit_all rows nd) B_isinstance, PySem.W.mg_of X G n_l_kinds, F_l_kinds.kp, B_l_kinds⟩,
      B_range, B_repr, B_len, B_isinstance, B_ValueError, PySem.W.mg_of X G aM, rfl,
      fun i D hD => by
        have mD := List.mem_of_getElem? hD
        have q := kit_ref (rows D mD) (fun z => len_nd.1 (by rw [← z]; exact mD)) isM tyM
        rw [decide_eq_true rfl] at q
        exact q,
      fun i D hD => kit_ve (rows D (List.mem_of_getElem? hD))⟩
  exact ok_law F_law TT
end Z
open PySem PySem.W PyProof.Rows
set_option maxRecDepth 100000 in
set_option maxHeartbeats 0 in
theorem PySem.Challenge.cw_anymend_k01_errors_holds : PySem.Challenge.rw_anymend_k01_errors.Holds := by
  w_on; o_law; k_head; (case hw => w_witness2)
  k_fill
  refine Z.walkG (l := PySem.Challenge.rw_anymend_k01_errors) (n := 63) (k := 4) (x := "_law_script") (sp := fun w => Z.spLaw _) rfl (by decide) rfl ⟨rfl, by decide, by decide⟩ (fun w h Y => PySem.W.kIn_of Y) ?F (fun _ _ a ns hl hS => ⟨a, ns, rfl, hS, hl, fun _ => rfl⟩)
  case F =>
    intro w mg fa h KX G hmg
    refine' Z.all_mk KX G hmg ?aM ?isM ?tyM ?hn ?ht ?nd ?a0 ?x0 ?sa0 ?ga0 ?gg0 ?cc0 ?eC0 ?tC0 ?kC0 ?hC0 ?hm0 ?iC0 ?tI0 ?li0 ?ci0 ?ki0 ?no0line ?no0column ?a1 ?x1 ?sa1 ?ga1 ?gg1 ?cc1 ?eC1 ?tC1 ?kC1 ?hC1 ?hm1 ?iC1 ?tI1 ?li1 ?ci1 ?ki1 ?no1what ?no1number ?a2 ?x2 ?sa2 ?ga2 ?gg2 ?cc2 ?eC2 ?tC2 ?kC2 ?hC2 ?hm2 ?iC2 ?tI2 ?li2 ?ci2 ?ki2 ?no2name ?a3 ?x3 ?sa3 ?ga3 ?gg3 ?cc3 ?eC3 ?tC3 ?kC3 ?hC3 ?hm3 ?iC3 ?tI3 ?li3 ?ci3 ?ki3 ?no3lot ?a4 ?x4 ?sa4 ?ga4 ?gg4 ?cc4 ?eC4 ?tC4 ?kC4 ?hC4 ?hm4 ?iC4 ?tI4 ?li4 ?ci4 ?ki4 ?no4name ?a5 ?x5 ?sa5 ?ga5 ?gg5 ?cc5 ?eC5 ?tC5 ?kC5 ?hC5 ?hm5 ?iC5 ?tI5 ?li5 ?ci5 ?ki5 ?no5name ?a6 ?x6 ?sa6 ?ga6 ?gg6 ?cc6 ?eC6 ?tC6 ?kC6 ?hC6 ?hm6 ?iC6 ?tI6 ?li6 ?ci6 ?ki6 ?no6prime ?no6bound ?a7 ?x7 ?sa7 ?ga7 ?gg7 ?cc7 ?eC7 ?tC7 ?kC7 ?hC7 ?hm7 ?iC7 ?tI7 ?li7 ?ci7 ?ki7 ?no7what ?no7many ?no7limit ?a8 ?x8 ?sa8 ?ga8 ?gg8 ?cc8 ?eC8 ?tC8 ?kC8 ?hC8 ?hm8 ?iC8 ?tI8 ?li8 ?ci8 ?ki8 ?no8promise ?no8witness ?a9 ?x9 ?sa9 ?ga9 ?gg9 ?cc9 ?eC9 ?tC9 ?kC9 ?hC9 ?hm9 ?ex9 ?a10 ?x10 ?sa10 ?ga10 ?gg10 ?cc10 ?eC10 ?tC10 ?kC10 ?hC10 ?hm10 ?ex10 ?n_l_pen ?l_l_pen ?c_l_pen ?k_l_pen ?n_l_draw ?l_l_draw ?c_l_draw ?k_l_draw ?n_l_pick ?l_l_pick ?c_l_pick ?k_l_pick ?n_l_big ?l_l_big ?c_l_big ?k_l_big ?n_l_name ?l_l_name ?c_l_name ?k_l_name ?n_l_made ?l_l_made ?c_l_made ?k_l_made ?n_l_kinds ?l_l_kinds ?c_l_kinds ?k_l_kinds ?n_law ?l_law ?c_law ?k_law ?b_int ?b_str ?b_len ?b_list ?b_range ?b_repr ?b_isinstance ?b_ValueError
    (case aM => k_is)
    (case isM => k_is)
    (case tyM => k_is)
    (case hn => k_is)
    (case ht => k_is)
    (case a0 => k_is)
    (case x0 => k_is)
    (case sa0 => k_is)
    (case ga0 => k_is)
    (case gg0 => k_is)
    (case cc0 => k_is)
    (case eC0 => k_is)
    (case tC0 => k_is)
    (case kC0 => k_is)
    (case hC0 => k_is)
    (case hm0 => k_is)
    (case iC0 => k_is)
    (case tI0 => k_is)
    (case li0 => k_is)
    (case ci0 => k_is)
    (case ki0 => k_is)
    (case no0line => k_is)
    (case no0column => k_is)
    (case a1 => k_is)
    (case x1 => k_is)
    (case sa1 => k_is)
    (case ga1 => k_is)
    (case gg1 => k_is)
    (case cc1 => k_is)
    (case eC1 => k_is)
    (case tC1 => k_is)
    (case kC1 => k_is)
    (case hC1 => k_is)
    (case hm1 => k_is)
    (case iC1 => k_is)
    (case tI1 => k_is)
    (case li1 => k_is)
    (case ci1 => k_is)
    (case ki1 => k_is)
    (case no1what => k_is)
    (case no1number => k_is)
    (case a2 => k_is)
    (case x2 => k_is)
    (case sa2 => k_is)
    (case ga2 => k_is)
    (case gg2 => k_is)
    (case cc2 => k_is)
    (case eC2 => k_is)
    (case tC2 => k_is)
    (case kC2 => k_is)
    (case hC2 => k_is)
    (case hm2 => k_is)
    (case iC2 => k_is)
    (case tI2 => k_is)
    (case li2 => k_is)
    (case ci2 => k_is)
    (case ki2 => k_is)
    (case no2name => k_is)
    (case a3 => k_is)
    (case x3 => k_is)
    (case sa3 => k_is)
    (case ga3 => k_is)
    (case gg3 => k_is)
    (case cc3 => k_is)
    (case eC3 => k_is)
    (case tC3 => k_is)
    (case kC3 => k_is)
    (case hC3 => k_is)
    (case hm3 => k_is)
    (case iC3 => k_is)
    (case tI3 => k_is)
    (case li3 => k_is)
    (case ci3 => k_is)
    (case ki3 => k_is)
    (case no3lot => k_is)
    (case a4 => k_is)
    (case x4 => k_is)
    (case sa4 => k_is)
    (case ga4 => k_is)
    (case gg4 => k_is)
    (case cc4 => k_is)
    (case eC4 => k_is)
    (case tC4 => k_is)
    (case kC4 => k_is)
    (case hC4 => k_is)
    (case hm4 => k_is)
    (case iC4 => k_is)
    (case tI4 => k_is)
    (case li4 => k_is)
    (case ci4 => k_is)
    (case ki4 => k_is)
    (case no4name => k_is)
    (case a5 => k_is)
    (case x5 => k_is)
    (case sa5 => k_is)
    (case ga5 => k_is)
    (case gg5 => k_is)
    (case cc5 => k_is)
    (case eC5 => k_is)
    (case tC5 => k_is)
    (case kC5 => k_is)
    (case hC5 => k_is)
    (case hm5 => k_is)
    (case iC5 => k_is)
    (case tI5 => k_is)
    (case li5 => k_is)
    (case ci5 => k_is)
    (case ki5 => k_is)
    (case no5name => k_is)
    (case a6 => k_is)
    (case x6 => k_is)
    (case sa6 => k_is)
    (case ga6 => k_is)
    (case gg6 => k_is)
    (case cc6 => k_is)
    (case eC6 => k_is)
    (case tC6 => k_is)
    (case kC6 => k_is)
    (case hC6 => k_is)
    (case hm6 => k_is)
    (case iC6 => k_is)
    (case tI6 => k_is)
    (case li6 => k_is)
    (case ci6 => k_is)
    (case ki6 => k_is)
    (case no6prime => k_is)
    (case no6bound => k_is)
    (case a7 => k_is)
    (case x7 => k_is)
    (case sa7 => k_is)
    (case ga7 => k_is)
    (case gg7 => k_is)
    (case cc7 => k_is)
    (case eC7 => k_is)
    (case tC7 => k_is)
    (case kC7 => k_is)
    (case hC7 => k_is)
    (case hm7 => k_is)
    (case iC7 => k_is)
    (case tI7 => k_is)
    (case li7 => k_is)
    (case ci7 => k_is)
    (case ki7 => k_is)
    (case no7what => k_is)
    (case no7many => k_is)
    (case no7limit => k_is)
    (case a8 => k_is)
    (case x8 => k_is)
    (case sa8 => k_is)
    (case ga8 => k_is)
    (case gg8 => k_is)
    (case cc8 => k_is)
    (case eC8 => k_is)
    (case tC8 => k_is)
    (case kC8 => k_is)
    (case hC8 => k_is)
    (case hm8 => k_is)
    (case iC8 => k_is)
    (case tI8 => k_is)
    (case li8 => k_is)
    (case ci8 => k_is)
    (case ki8 => k_is)
    (case no8promise => k_is)
    (case no8witness => k_is)
    (case a9 => k_is)
    (case x9 => k_is)
    (case sa9 => k_is)
    (case ga9 => k_is)
    (case gg9 => k_is)
    (case cc9 => k_is)
    (case eC9 => k_is)
    (case tC9 => k_is)
    (case kC9 => k_is)
    (case hC9 => k_is)
    (case hm9 => k_is)
    (case ex9 => k_exc)
    (case a10 => k_is)
    (case x10 => k_is)
    (case sa10 => k_is)
    (case ga10 => k_is)
    (case gg10 => k_is)
    (case cc10 => k_is)
    (case eC10 => k_is)
    (case tC10 => k_is)
    (case kC10 => k_is)
    (case hC10 => k_is)
    (case hm10 => k_is)
    (case ex10 => k_exc)
    (case n_l_pen => k_is)
    (case l_l_pen => k_is)
    (case c_l_pen => k_is)
    (case k_l_pen => k_is)
    (case n_l_draw => k_is)
    (case l_l_draw => k_is)
    (case c_l_draw => k_is)
    (case k_l_draw => k_is)
    (case n_l_pick => k_is)
    (case l_l_pick => k_is)
    (case c_l_pick => k_is)
    (case k_l_pick => k_is)
    (case n_l_big => k_is)
    (case l_l_big => k_is)
    (case c_l_big => k_is)
    (case k_l_big => k_is)
    (case n_l_name => k_is)
    (case l_l_name => k_is)
    (case c_l_name => k_is)
    (case k_l_name => k_is)
    (case n_l_made => k_is)
    (case l_l_made => k_is)
    (case c_l_made => k_is)
    (case k_l_made => k_is)
    (case n_l_kinds => k_is)
    (case l_l_kinds => k_is)
    (case c_l_kinds => k_is)
    (case k_l_kinds => k_is)
    (case n_law => k_is)
    (case l_law => k_is)
    (case c_law => k_is)
    (case k_law => k_is)
    (case b_int => k_is)
    (case b_str => k_is)
    (case b_len => k_is)
    (case b_list => k_is)
    (case b_range => k_is)
    (case b_repr => k_is)
    (case b_isinstance => k_is)
    (case b_ValueError => k_is)
    (case nd => decide)
