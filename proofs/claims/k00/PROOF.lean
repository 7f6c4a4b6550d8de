import PyProof.Rows.All
import Wide.All
import OpenK.AllK
import Wide.FinOn
import HandS.ForMost
import HandS.Exc
import HandS.Codes
import HandS.ExcInit
import KE.KExcIs
import HandS.ExcOwn
import PyProof.ReprRoads
import HandS.ExcValue
import HandS.TupAny
import HandS.Comp
import HandS.IsInst
import HandS.Wide
import KE.IntTextText
import HandS.ForExc
import HandS.Gcd
import HandS.RevTup
import HandS.MapJoin
import HandS.WideBits
import HandS.StrMore
import PyProof.TupleOfStr
import HandS.Conv
import HandS.ExcIs
import HandS.ExcField
import HandS.WordsExc
import PySem.Challenge.RW_anymend_k00_ratio_texts
set_option Elab.async false
set_option linter.all false
set_option maxRecDepth 100000
namespace Z
open PySem L2 PyProof.Rows
/-! the text by places -/
def topS (i : Nat) : Stmt := PySem.Challenge.pw_anymend_k00_ratio_texts.main.body.getD i (.Pass ⟨0, 0, 0, 0⟩)
abbrev s_l_pen : Stmt := topS 18
abbrev s_l_draw : Stmt := topS 19
abbrev s_l_pick : Stmt := topS 20
theorem sc_l_pen : FnScope ["_law_script", "_law_fold", "_law_cell"] ["_law_script"] (defScope s_l_pen) := ⟨rfl, rfl, rfl, by decide +kernel, rfl, by decide +kernel, by decide +kernel⟩
theorem sc_l_draw : FnScope ["_law_pen_here", "_law_many", "_law_cell", "_law_digit", "_law_blend"] ["_law_pen_here", "_law_many"] (defScope s_l_draw) := ⟨rfl, rfl, rfl, by decide +kernel, rfl, by decide +kernel, by decide +kernel⟩
theorem sc_l_pick : FnScope ["_law_pen_here", "_law_some"] ["_law_pen_here", "_law_some"] (defScope s_l_pick) := ⟨rfl, rfl, rfl, by decide +kernel, rfl, by decide +kernel, by decide +kernel⟩
/-! heaps -/
/-- all but p stands -/
def But (p : Addr) (H H' : Hp) : Prop := ∀ b, b ≠ p → H' b = H b
/-- what stood stands, but at p -/
def Kp (p : Addr) (H H' : Hp) : Prop := ∀ b o, b ≠ p → H b = some o → H' b = some o
theorem But.kp {p : Addr} {H H' : Hp} (h : But p H H') : Kp p H H' := fun b o n e => (h b n).trans e
theorem Kp.refl (p : Addr) (H : Hp) : Kp p H H := fun _ _ _ e => e
theorem Kp.trans {p : Addr} {H H1 H2 : Hp} (a : Kp p H H1) (b : Kp p H1 H2) : Kp p H H2 := fun c o n e => b c o n (a c o n e)
theorem Kp.new {p q : Addr} {H : Hp} {o : HO} (h : H q = none) : Kp p H (upd H q o) := fun b u n e => by
  rw [upd_ne (ne_of_none e h)]
  exact e
theorem same_new {q : Addr} {H : Hp} {o : HO} (h : H q = none) : Same H (upd H q o) := fun b u e => by
  rw [upd_ne (ne_of_none e h)]
  exact e
theorem But.trans {p : Addr} {H H1 H2 : Hp} (a : But p H H1) (b : But p H1 H2) : But p H H2 := fun c n => (b c n).trans (a c n)
theorem But.upd {p : Addr} {H : Hp} {o : HO} : But p H (upd H p o) := fun b n => upd_ne n
/-! the pen -/
def penD (l : Addr) (a : Nat) (d : Int) (c : Nat) (f : Int) : List (Key × V) :=
  [(.inr "cells", .ref l), (.inr "at", .int (a : Int)), (.inr "digits", .int d), (.inr "count", .int (c : Int)), (.inr "fold", .int f)]
theorem gCells {H : Hp} {p l : Addr} {a : Nat} {d : Int} {c : Nat} {f : Int} (h : H p = some (.dK (penD l a d c f))) : DGet H p (.str "cells") (some (.ref l)) :=
  (show valV (penD l a d c f) (.inr "cells") = some (.ref l) by kernel_rfl) ▸ DGet.k (k := Sum.inr "cells") h
theorem gAt {H : Hp} {p l : Addr} {a : Nat} {d : Int} {c : Nat} {f : Int} (h : H p = some (.dK (penD l a d c f))) : DGet H p (.str "at") (some (.int (a : Int))) :=
  (show valV (penD l a d c f) (.inr "at") = some (.int (a : Int)) by kernel_rfl) ▸ DGet.k (k := Sum.inr "at") h
theorem gDigits {H : Hp} {p l : Addr} {a : Nat} {d : Int} {c : Nat} {f : Int} (h : H p = some (.dK (penD l a d c f))) : DGet H p (.str "digits") (some (.int d)) :=
  (show valV (penD l a d c f) (.inr "digits") = some (.int d) by kernel_rfl) ▸ DGet.k (k := Sum.inr "digits") h
theorem gCount {H : Hp} {p l : Addr} {a : Nat} {d : Int} {c : Nat} {f : Int} (h : H p = some (.dK (penD l a d c f))) : DGet H p (.str "count") (some (.int (c : Int))) :=
  (show valV (penD l a d c f) (.inr "count") = some (.int (c : Int)) by kernel_rfl) ▸ DGet.k (k := Sum.inr "count") h
theorem gFold {H : Hp} {p l : Addr} {a : Nat} {d : Int} {c : Nat} {f : Int} (h : H p = some (.dK (penD l a d c f))) : DGet H p (.str "fold") (some (.int f)) :=
  (show valV (penD l a d c f) (.inr "fold") = some (.int f) by kernel_rfl) ▸ DGet.k (k := Sum.inr "fold") h
theorem small5 : (5 : Nat) < sizeLine := by rw [sizeLine_eq]; decide
theorem pAt {H : Hp} {p l : Addr} {a : Nat} {d : Int} {c : Nat} {f : Int} (h : H p = some (.dK (penD l a d c f))) : DPut H p (.str "at") (.int ((a : Int) + 1)) (upd H p (.dK (penD l (a + 1) d c f))) :=
  (show putK (penD l a d c f) (.inr "at") (.int ((a : Int) + 1)) = penD l (a + 1) d c f by kernel_rfl) ▸ DPut.k (k := Sum.inr "at") h small5
theorem pCount {H : Hp} {p l : Addr} {a : Nat} {d : Int} {c : Nat} {f : Int} (h : H p = some (.dK (penD l a d c f))) : DPut H p (.str "count") (.int ((c : Int) + 1)) (upd H p (.dK (penD l a d (c + 1) f))) :=
  (show putK (penD l a d c f) (.inr "count") (.int ((c : Int) + 1)) = penD l a d (c + 1) f by kernel_rfl) ▸ DPut.k (k := Sum.inr "count") h small5
theorem pDigits {H : Hp} {p l : Addr} {a : Nat} {d e : Int} {c : Nat} {f : Int} (h : H p = some (.dK (penD l a d c f))) : DPut H p (.str "digits") (.int e) (upd H p (.dK (penD l a e c f))) :=
  (show putK (penD l a d c f) (.inr "digits") (.int e) = penD l a e c f by kernel_rfl) ▸ DPut.k (k := Sum.inr "digits") h small5
theorem pFold {H : Hp} {p l : Addr} {a : Nat} {d : Int} {c : Nat} {f g : Int} (h : H p = some (.dK (penD l a d c f))) : DPut H p (.str "fold") (.int g) (upd H p (.dK (penD l a d c g))) :=
  (show putK (penD l a d c f) (.inr "fold") (.int g) = penD l a d c g by kernel_rfl) ▸ DPut.k (k := Sum.inr "fold") h small5
/-- a pen stands at p, its cells at l, c draws made -/
structure Pen (H : Hp) (p l : Addr) (c : Nat) : Prop where
  ex : ∃ (ns : List Int) (a : Nat) (d f : Int), H p = some (.dK (penD l a d c f)) ∧ H l = some (.lst (ns.map V.int)) ∧ ns.length ≤ 63 ∧ a ≤ ns.length ∧ 0 ≤ d ∧ 0 ≤ f ∧ f < 2147483587
theorem Pen.same {H H' : Hp} {p l : Addr} {c : Nat} (h : Pen H p l c) (s : Same H H') : Pen H' p l c := by
  obtain ⟨ns, a, d, f, h1, h2, h3⟩ := h.ex
  exact ⟨ns, a, d, f, s _ _ h1, s _ _ h2, h3⟩
/-- a list or a tuple that is read -/
def SqX (K : PySem.W.Frag) (H : Hp) (q : Addr) (xs : List V) : Prop := SqL K H q xs ∨ SqT K H q xs
theorem SqX.but {K : PySem.W.Frag} {H H' : Hp} {p q : Addr} {xs : List V} {kvs : List (Key × V)} (hp : H p = some (.dK kvs)) (b : But p H H') (h : SqX K H q xs) : SqX K H' q xs := by
  have ne : ∀ o, H q = some o → o ≠ .dK kvs → q ≠ p := fun o e n z => by
    rw [z, hp] at e
    exact n (Option.some.inj e).symm
  rcases h with (h | h) | (h | h)
  · refine .inl (.inl ?_)
    rcases h with h | ⟨o, h⟩
    · exact .inl ((b _ (ne _ h (fun z => by cases z))).trans h)
    · exact .inr ⟨o, (b _ (ne _ h (fun z => by cases z))).trans h⟩
  · exact .inl (.inr h)
  · refine .inr (.inl ?_)
    rcases h with h | ⟨o, h⟩
    · exact .inl ((b _ (ne _ h (fun z => by cases z))).trans h)
    · exact .inr ⟨o, (b _ (ne _ h (fun z => by cases z))).trans h⟩
  · exact .inr (.inr h)
/-! promises -/
def spPen (K : PySem.W.Frag) : Sp := fun vs H Q _ => ∃ (a : Addr) (ns : List Int), vs = [.ref a] ∧ SqL K H a (ns.map V.int) ∧ ns.length ≤ 63 ∧
  ∀ (p l : Addr) (H' : Hp), H p = none → H l = none → Same H H' → Pen H' p l 0 → Q (.ref p) H'
def spDraw : Sp := fun vs H Q _ => ∃ (p l : Addr) (c : Nat) (m : Int), vs = [.ref p, .int m] ∧ Pen H p l c ∧ c < 2 ^ 40 ∧ 0 < m ∧ m < 1073741824 ∧
  ∀ (d : Int) (H' : Hp), 0 ≤ d → d < m → Pen H' p l (c + 1) → But p H H' → Q (.int d) H'
def spPick (K : PySem.W.Frag) : Sp := fun vs H Q _ => ∃ (p l q : Addr) (c : Nat) (xs : List V), vs = [.ref p, .ref q] ∧ Pen H p l c ∧ c < 2 ^ 40 ∧ SqX K H q xs ∧ 0 < xs.length ∧ xs.length < 1000 ∧
  ∀ (v : V) (H' : Hp), v ∈ xs → Pen H' p l (c + 1) → But p H H' → Q v H'
section
variable {P : Program} {w : World} {K : PySem.W.Frag} {mg : Str → Option Value} {base : Heap}
theorem ok_pen {f : Addr} {fd : FuncData} (F : Fun K "_law_pen" "_law_pen" s_l_pen f fd) (bi : mg "int" = none) (bl : mg "list" = none) : FnOk P w K mg base CX0 1 f fd ["_law_script"] (spPen K) := by
  refine F.ok sc_l_pen (fun vs H Q E h => ?_) (fun cdv A outer s H vs Q E hr h => ?_)
  · obtain ⟨a, ns, rfl, _⟩ := h
    rfl
  · obtain ⟨a, ns, rfl, hS, hl, k⟩ := h
    refine ⟨_, (pss_cons (ps_set (i := 1) sc_l_pen.nd rfl (Or.inl rfl) pe_int)
      (pss_cons (ps_for PassesOwn.never rfl (pi_list (pv 0)) (pg_name (i := 2) sc_l_pen.nd rfl (Or.inl rfl))
        (pss_one (ps_set (i := 1) sc_l_pen.nd rfl (Or.inl rfl) (pe_op op_mod (pe_callTy call_int1 (by rfl) bi (by decide +kernel) (pa_cons (pe_op op_add (pe_op op_mul (pv 1) pe_int) (pv 2)) pa_nil)) pe_int))))
      (pss_one (ps_ret (pe_disp (pps_cons pe_str (pe_callTy call_list_of (by rfl) bl (by decide +kernel) (pa_cons (pv 0) pa_nil)) (pps_cons pe_str pe_int (pps_cons pe_str pe_int (pps_cons pe_str pe_int (pps_cons pe_str (pv 1) pps_nil))))) (by rfl) (by rfl) (fun z => by cases z) (by decide)))))), ?_⟩
    refine ⟨.ref a, rfl, a, rfl, ⟨_, hS⟩, for_list (K := K) (a := a) (xs := ns.map V.int) (fun i σ H2 => ∃ (n : Int) (v : Option V), σ = [some (.ref a), some (.int n), v] ∧ H2 = H ∧ 0 ≤ n ∧ n < 1000000007)
      ⟨0, none, rfl, rfl, by decide, by decide⟩ (fun i σ H2 _ ⟨_, _, _, e, _⟩ => e ▸ hS) ?_ ?_⟩
    · rintro i y σ H2 hi ⟨n, v, rfl, rfl, h0, h1⟩
      obtain ⟨z, rfl⟩ : ∃ z, y = V.int z := by
        rw [List.getElem?_map] at hi
        cases e : ns[i]? with
        | none => rw [e] at hi; cases hi
        | some z => rw [e] at hi; exact ⟨z, (Option.some.inj hi).symm⟩
      refine ⟨_, rfl, _, _, rfl, rfl, .inl ⟨by omega, by omega⟩, _, rfl, _, _, rfl, rfl, .inl ⟨_, rfl, ?_⟩⟩
      refine ⟨_, _, rfl, rfl, (by show (0 : Int) < 1000000007; decide), ?_⟩
      exact ⟨_, _, rfl, rfl, Int.emod_nonneg _ (by decide), Int.emod_lt_of_pos _ (by decide)⟩
    · rintro σ H2 ⟨n, v, rfl, rfl, h0, h1⟩
      intro p hp
      refine ⟨.ref a, rfl, a, _, rfl, .inl ((same_new hp).seq hS), fun l hn => ?_⟩
      have nlp : l ≠ p := fun z => by rw [z, upd_same] at hn; cases hn
      have hl0 : H2 l = none := by rw [upd_ne nlp] at hn; exact hn
      refine ⟨_, rfl, (by rw [upd_ne nlp.symm]; exact upd_same), penD l 0 0 0 n, rfl, (by show 5 ≤ 15; decide), ?_⟩
      have e : mergeK [] (penD l 0 0 0 n) = penD l 0 0 0 n := by kernel_rfl
      rw [e]
      refine k p l _ hp hl0 (fun b o z => ?_) ⟨ns, 0, 0, n, upd_same, ?_, hl, Nat.zero_le _, by decide, h0, by omega⟩
      · rw [upd_ne (ne_of_none z hp), upd_ne (ne_of_none z hl0), upd_ne (ne_of_none z hp)]
        exact z
      · rw [upd_ne nlp, upd_same]
theorem ok_draw {f : Addr} {fd : FuncData} (F : Fun K "_law_draw" "_law_draw" s_l_draw f fd) (bi : mg "int" = none) (bn : mg "len" = none) : FnOk P w K mg base CX0 1 f fd ["_law_pen_here", "_law_many"] spDraw := by
  refine F.ok sc_l_draw (fun vs H Q E h => ?_) (fun cdv A outer s H vs Q E hr h => ?_)
  · obtain ⟨p, l, c, m, rfl, _⟩ := h
    rfl
  · obtain ⟨p, l, c, m, rfl, hP, hc, hm, hm2, k⟩ := h
    have hu := hu_of hr
    refine ⟨_, (pss_cons (ps_dput hu (pv 0) pe_str (pe_op op_add (pe_dget hu (pv 0) pe_str (fun _ _ => rfl)) pe_int) rfl)
      (C8.pss_cut (ps_if (PW.pt (pw_and (pt_cmpR op_eq (pe_dget hu (pv 0) pe_str (fun _ _ => rfl)) pe_int (nomark _)) (pw_and1 (pt_cmpR op_lt (pe_dget hu (pv 0) pe_str (fun _ _ => rfl)) (pe_callB call_len (by rfl) bn (by decide +kernel) (pa_cons (pe_dget hu (pv 0) pe_str (fun _ _ => rfl)) pa_nil)) (nomark _)))))
        (pss_cons (ps_set (i := 2) sc_l_draw.nd rfl (Or.inl rfl) (pe_ix ix_list (pe_dget hu (pv 0) pe_str (fun _ _ => rfl)) (pe_dget hu (pv 0) pe_str (fun _ _ => rfl)) (fun _ _ => rfl)))
          (pss_cons (ps_dput hu (pv 0) pe_str (pe_op op_add (pe_dget hu (pv 0) pe_str (fun _ _ => rfl)) pe_int) rfl)
          (pss_one (ps_if (pt_cmpR op_ge (pv 2) (pe_op op_pow pe_int pe_int) (nomark _))
            (pss_one (ps_dput hu (pv 0) pe_str (pe_op op_sub (pv 2) (pe_op op_pow pe_int pe_int)) rfl))
            (pss_one (ps_dput hu (pv 0) pe_str (pe_op op_mod (pe_callTy call_int1 (by rfl) bi (by decide +kernel) (pa_cons (pe_op op_add (pe_op op_mul (pe_dget hu (pv 0) pe_str (fun _ _ => rfl)) pe_int) (pv 2)) pa_nil)) pe_int) rfl))))))
        pss_nil)
      (pss_cons (ps_if (pt_cmpR op_gt (pe_dget hu (pv 0) pe_str (fun _ _ => rfl)) pe_int (nomark _))
        (pss_cons (ps_set (i := 3) sc_l_draw.nd rfl (Or.inl rfl) (pe_op op_mod (pe_callTy call_int1 (by rfl) bi (by decide +kernel) (pa_cons (pe_dget hu (pv 0) pe_str (fun _ _ => rfl)) pa_nil)) (pv 1)))
          (pss_cons (ps_dput hu (pv 0) pe_str (pe_op op_fdiv (pe_dget hu (pv 0) pe_str (fun _ _ => rfl)) (pv 1)) rfl)
          (pss_one (ps_ret (pv 3)))))
        pss_nil)
      (pss_cons (ps_set (i := 4) sc_l_draw.nd rfl (Or.inl rfl) (pe_op op_add (pe_op op_add (pe_dget hu (pv 0) pe_str (fun _ _ => rfl)) (pe_op op_mul (pe_dget hu (pv 0) pe_str (fun _ _ => rfl)) pe_int)) pe_int))
      (pss_one (ps_ret (pe_op op_mod (pe_op op_fdiv (pe_callTy call_int1 (by rfl) bi (by decide +kernel) (pa_cons (pe_op op_mod (pe_op op_pow (pv 4) pe_int) pe_int) pa_nil)) pe_int) (pv 1)))))))), ?_⟩
    obtain ⟨ns, a, d, f, h1, h2, hl, ha, hd, hf, hf2⟩ := hP.ex
    have npl : l ≠ p := ne_of h2 h1 (by intro z; cases z)
    have st : ∀ o, (upd H p o) l = some (.lst (ns.map V.int)) := fun o => by rw [upd_ne npl]; exact h2
    -- count
    refine ⟨_, rfl, p, _, rfl, gCount h1, _, _, rfl, rfl, _, rfl, p, _, rfl, pCount h1, ?_⟩
    refine ⟨fun σ' H2 => ∃ (v2 : Option V) (a2 : Nat) (d2 f2 : Int), σ' = [some (.ref p), some (.int m), v2, none, none] ∧ a2 ≤ ns.length ∧ 0 ≤ d2 ∧ 0 ≤ f2 ∧ f2 < 2147483587 ∧ H2 p = some (.dK (penD l a2 d2 (c + 1) f2)) ∧ But p H H2, ?_, ?_⟩
    · -- a cell is taken, or not
      refine ⟨_, rfl, p, _, rfl, gDigits upd_same, rfl, _, rfl, ?_⟩
      refine ite2 (fun _ => ?_) (fun _ => ?_)
      · refine ⟨_, rfl, p, _, rfl, gAt upd_same, _, rfl, p, _, rfl, gCells upd_same, _, _, rfl, .inl ⟨_, .inl (.inl (st _)), rfl⟩, _, _, rfl, rfl, _, rfl, ?_⟩
        refine ite2 (fun hlt => ?_) (fun _ => ?_)
        · have hlt : (a : Int) < ((ns.map V.int).length : Int) := of_decide_eq_true hlt
          rw [List.length_map] at hlt
          have hlt' : a < ns.length := by omega
          have ga : (ns.map V.int)[a]? = some (.int ns[a]) := by rw [List.getElem?_map, List.getElem?_eq_getElem hlt']; rfl
          refine ⟨_, rfl, p, _, rfl, gCells upd_same, _, rfl, p, _, rfl, gAt upd_same, l, _, _, _, rfl, rfl, .inl (.inl (st _)), atI_nat ga, ?_⟩
          refine ⟨_, rfl, p, _, rfl, gAt upd_same, _, _, rfl, rfl, _, rfl, p, _, rfl, pAt upd_same, ?_⟩
          refine ⟨_, rfl, _, _, rfl, rfl, ⟨by decide, by decide, by decide⟩, _, _, rfl, rfl, _, rfl, ?_⟩
          refine ite2 (fun hge => ?_) (fun hge => ?_)
          · refine ⟨_, rfl, _, _, rfl, rfl, ⟨by decide, by decide, by decide⟩, _, _, rfl, rfl, _, rfl, p, _, rfl, pDigits upd_same, ?_⟩
            have hge' := of_decide_eq_true hge
            exact ⟨_, a + 1, _, f, rfl, hlt', by omega, hf, hf2, upd_same, fun b hb => by rw [upd_ne hb, upd_ne hb, upd_ne hb]⟩
          · refine ⟨_, rfl, p, _, rfl, gFold upd_same, _, _, rfl, rfl, .inl ⟨by omega, by omega⟩, _, rfl, _, _, rfl, rfl, .inl ⟨_, rfl, ?_⟩⟩
            refine ⟨_, _, rfl, rfl, (by show (0 : Int) < 2147483587; decide), _, rfl, p, _, rfl, pFold upd_same, ?_⟩
            exact ⟨_, a + 1, d, _, rfl, hlt', hd, Int.emod_nonneg _ (by decide), Int.emod_lt_of_pos _ (by decide), upd_same, fun b hb => by rw [upd_ne hb, upd_ne hb, upd_ne hb]⟩
        · exact ⟨none, a, d, f, rfl, ha, hd, hf, hf2, upd_same, fun b hb => by rw [upd_ne hb]⟩
      · exact iteF ⟨none, a, d, f, rfl, ha, hd, hf, hf2, upd_same, fun b hb => by rw [upd_ne hb]⟩
    · rintro σ' H2 ⟨v2, a2, d2, f2, rfl, ha2, hd2, hf0, hf1, hH2, hb2⟩
      have hl2 : H2 l = some (.lst (ns.map V.int)) := (hb2 l npl).trans h2
      refine ⟨_, rfl, p, _, rfl, gDigits hH2, _, _, rfl, rfl, _, rfl, ?_⟩
      refine ite2 (fun hg => ?_) (fun hg => ?_)
      · have hg' : (0 : Int) < d2 := of_decide_eq_true hg
        refine ⟨_, rfl, p, _, rfl, gDigits hH2, .inl ⟨_, rfl, ?_⟩⟩
        refine ⟨_, rfl, _, _, rfl, rfl, hm, ?_⟩
        refine ⟨_, rfl, p, _, rfl, gDigits hH2, _, rfl, _, _, rfl, rfl, ⟨hm, hm2⟩, _, rfl, p, _, rfl, pDigits hH2, ?_⟩
        refine ⟨_, rfl, ?_⟩
        refine k _ _ (Int.emod_nonneg _ (by omega)) (Int.emod_lt_of_pos _ hm) ⟨ns, a2, _, f2, upd_same, ?_, hl, ha2, Int.ediv_nonneg hd2 (by omega), hf0, hf1⟩ (hb2.trans But.upd)
        rw [upd_ne npl]
        exact hl2
      · refine ⟨_, rfl, p, _, rfl, gFold hH2, _, rfl, p, _, rfl, gCount hH2, _, _, rfl, rfl, .inl ⟨by omega, by omega⟩, _, _, rfl, rfl, _, _, rfl, rfl, ?_⟩
        refine ⟨_, rfl, _, _, rfl, rfl, ⟨by decide, by decide, by omega⟩, _, _, rfl, rfl, (by show (0 : Int) < 2305843009213693951; decide), .inl ⟨_, rfl, ?_⟩⟩
        refine ⟨_, _, rfl, rfl, ⟨by decide, by decide⟩, _, rfl, _, _, rfl, rfl, hm, ?_⟩
        exact k _ _ (Int.emod_nonneg _ (by omega)) (Int.emod_lt_of_pos _ hm) ⟨ns, a2, d2, f2, hH2, hl2, hl, ha2, hd2, hf0, hf1⟩ hb2
theorem ok_pick {f fD : Addr} {fd fdD : FuncData} (F : Fun K "_law_pick" "_law_pick" s_l_pick f fd) (bn : mg "len" = none)
    (G : FnOk P w K mg base CX0 1 fD fdD ["_law_pen_here", "_law_many"] spDraw) (g : mg "_law_draw" = some (.ref fD)) (kp : PySem.W.keepIn K (.ref fD) = true) (b : Binds K fdD ["_law_pen_here", "_law_many"] []) :
    FnOk P w K mg base CX0 2 f fd ["_law_pen_here", "_law_some"] (spPick K) := by
  refine F.ok sc_l_pick (fun vs H Q E h => ?_) (fun cdv A outer s H vs Q E hr h => ?_)
  · obtain ⟨p, l, q, c, xs, rfl, _⟩ := h
    rfl
  · obtain ⟨p, l, q, c, xs, rfl, hP, hc, hX, hx0, hx1, k⟩ := h
    refine ⟨_, (pss_one (ps_ret (pe_ix ix_seq (pv 1) (pe_call G hr (by rfl) g kp b .nil pass0 (pa_cons (pv 0) (pa_cons (pe_callB call_len (by rfl) bn (by decide +kernel) (pa_cons (pv 1) pa_nil)) pa_nil))) (fun _ _ => rfl)))), ?_⟩
    obtain ⟨ns, a, d, f, h1, _⟩ := hP.ex
    refine ⟨_, rfl, _, rfl, _, rfl, .ref q, xs.length, rfl, ?_, ?_⟩
    · rcases hX with hX | hX
      · exact .inl ⟨_, hX, rfl⟩
      · exact .inr ⟨_, hX, rfl⟩
    refine ⟨p, l, c, _, rfl, hP, hc, by omega, by omega, fun i H' hi0 hi1 hP' hb => ?_⟩
    have hX' := hX.but h1 hb
    have hi : i.toNat < xs.length := by omega
    have ea : atI xs i = some xs[i.toNat] := by
      have e := atI_nat (xs := xs) (j := i.toNat) (List.getElem?_eq_getElem hi)
      rw [Int.toNat_of_nonneg hi0] at e
      exact e
    rcases hX' with hX' | hX'
    · exact .inl ⟨q, _, _, _, rfl, rfl, hX', ea, k _ _ (List.getElem_mem hi) hP' hb⟩
    · exact .inr (.inl ⟨q, _, _, _, rfl, rfl, hX', ea, k _ _ (List.getElem_mem hi) hP' hb⟩)
end
end Z
set_option Elab.async false
set_option linter.all false
set_option maxRecDepth 100000
namespace Z
open PySem L2 PyProof.Rows
abbrev s_l_big : Stmt := topS 21
theorem sc_l_big : FnScope ["_law_pen_here", "_law_figures", "_law_total", "_law_k"] ["_law_pen_here", "_law_figures"] (defScope s_l_big) := ⟨rfl, rfl, rfl, by decide +kernel, rfl, by decide +kernel, by decide +kernel⟩
/-! numbers -/
theorem Pen.but {H H' : Hp} {p l q : Addr} {c : Nat} (h : Pen H p l c) (k : ∀ b o, b ≠ q → H b = some o → H' b = some o) (hp : p ≠ q) (hl : l ≠ q) : Pen H' p l c := by
  obtain ⟨ns, a, d, f, h1, h2, h3⟩ := h.ex
  exact ⟨ns, a, d, f, k _ _ hp h1, k _ _ hl h2, h3⟩
theorem Pen.ne {H : Hp} {p l : Addr} {c : Nat} (h : Pen H p l c) : l ≠ p := by
  obtain ⟨ns, a, d, f, h1, h2, h3⟩ := h.ex
  exact ne_of h2 h1 (by intro z; cases z)
theorem fold_lt : ∀ (cs : List Nat) (a : Nat), NumText.AllDigits cs → cs.foldl (fun acc c => acc * 10 + (c - 48)) a < (a + 1) * 10 ^ cs.length
  | [], a, _ => by simp
  | c :: r, a, h => by
    have hc := h.head
    have ih := fold_lt r (a * 10 + (c - 48)) h.tail
    rw [List.foldl_cons, List.length_cons, Nat.pow_succ]
    refine Nat.lt_of_lt_of_le ih ?_
    have e : (a * 10 + (c - 48) + 1) ≤ (a + 1) * 10 := by omega
    calc (a * 10 + (c - 48) + 1) * 10 ^ r.length ≤ ((a + 1) * 10) * 10 ^ r.length := Nat.mul_le_mul_right _ e
      _ = (a + 1) * (10 ^ r.length * 10) := by rw [Nat.mul_assoc, Nat.mul_comm 10]
theorem digitsVal_lt {cs : List Nat} (h : NumText.AllDigits cs) : NumText.digitsVal cs < 10 ^ cs.length := by
  have e := fold_lt cs 0 h
  rw [Nat.zero_add, Nat.one_mul] at e
  exact e
/-- int(str(n)[-k:]) -/
theorem tail_int {n k : Nat} (hk : 0 < k) (hn : n < 10 ^ 200) : ∃ v : Nat, v < 10 ^ k ∧ v < 10 ^ 200 ∧ PySem.intText? (cutS (toString ((n : Nat) : Int)) (some (-(k : Int))) none) = some (v : Int) ∧ (cutS (toString ((n : Nat) : Int)) (some (-(k : Int))) none).length ≤ 640 := by
  have e : (Str.ofString (toString ((n : Nat) : Int))) = SX.S (TL.numL n) := SX.num_S n
  have hL : (TL.numL n).length ≤ 200 := TL.numL_len (by decide) hn
  have hne : TL.numL n ≠ [] := TL.numL_ne n
  have hpos : 0 < (TL.numL n).length := List.length_pos_iff.mpr hne
  have el : (SX.S (TL.numL n)).length = (TL.numL n).length := SX.S_len _
  let s := ((-(k : Int)) + ((TL.numL n).length : Int)).toNat
  have hs : s < (TL.numL n).length := by show ((-(k : Int)) + ((TL.numL n).length : Int)).toNat < _; omega
  have hs2 : (TL.numL n).length - s ≤ k := by show _ - ((-(k : Int)) + ((TL.numL n).length : Int)).toNat ≤ _; omega
  have ec : cutS (toString ((n : Nat) : Int)) (some (-(k : Int))) none = SX.S ((TL.numL n).drop s) := by
    show cutS (Str.ofString (toString ((n : Nat) : Int))) _ _ = _
    rw [e]
    unfold cutS
    rw [el, HT.sIx_none]
    have e1 : HT.sIx (TL.numL n).length 0 (some (-(k : Int))) = s := by
      show (if (-(k : Int)) < 0 then _ else _) = _
      rw [if_pos (by omega)]
    rw [e1]
    have e2 : (SX.S (TL.numL n)).cps.toList = TL.numL n := rfl
    rw [e2, List.take_of_length_le (by rw [List.length_drop]; omega)]
  have hd : NumText.AllDigits ((TL.numL n).drop s) := fun c hc => TL.numL_digits n c (List.mem_of_mem_drop hc)
  have hlen : ((TL.numL n).drop s).length ≤ k := by rw [List.length_drop]; exact hs2
  have hlen3 : ((TL.numL n).drop s).length ≤ 200 := by rw [List.length_drop]; omega
  have hv := digitsVal_lt hd
  refine ⟨NumText.digitsVal ((TL.numL n).drop s), Nat.lt_of_lt_of_le hv (Nat.pow_le_pow_right (by decide) hlen), Nat.lt_of_lt_of_le hv (Nat.pow_le_pow_right (by decide) hlen3), ?_, ?_⟩
  · rw [ec]
    refine SX.int_S (List.all_eq_true.mpr fun c hc => ?_) (fun z => ?_) (by omega)
    · have q := hd c hc
      rw [Bool.and_eq_true, decide_eq_true_eq, decide_eq_true_eq]
      exact q
    · have z2 := congrArg List.length z
      rw [List.length_drop] at z2
      simp at z2
      omega
  · rw [ec, SX.S_len]
    omega
theorem log2_lt {n k : Nat} (hk : 0 < k) (h : n < 2 ^ k) : n.log2 < k := by
  by_cases h0 : n = 0
  · subst h0
    simpa using hk
  · exact (Nat.log2_lt h0).mpr h
theorem log2_small {n : Nat} (h : n < 10 ^ 200) : n.log2 < 1920 := by
  refine log2_lt (by decide) (Nat.lt_of_lt_of_le h ?_)
  have e1 : (10 : Nat) ^ 200 ≤ 16 ^ 200 := Nat.pow_le_pow_left (by decide) 200
  have e2 : (16 : Nat) ^ 200 = 2 ^ (4 * 200) := by rw [Nat.pow_mul]
  rw [e2] at e1
  exact Nat.le_trans e1 (Nat.pow_le_pow_right (by decide) (by decide))
def spBig : Sp := fun vs H Q _ => ∃ (p l : Addr) (c k : Nat), vs = [.ref p, .int (k : Int)] ∧ Pen H p l c ∧ c < 2 ^ 39 ∧ 0 < k ∧ k ≤ 100 ∧
  ∀ (n : Nat) (c' : Nat) (H' : Hp), n < 10 ^ k → n < 10 ^ 200 → c ≤ c' → c' ≤ c + 40 → Pen H' p l c' → Kp p H H' → Q (.int (n : Int)) H'
section
variable {P : Program} {w : World} {K : PySem.W.Frag} {mg : Str → Option Value} {base : Heap}
theorem ok_big {f fD fP : Addr} {fd fdD fdP : FuncData} (F : Fun K "_law_big" "_law_big" s_l_big f fd) (bi : mg "int" = none) (bs : mg "str" = none) (br : mg "range" = none)
    (GD : FnOk P w K mg base CX0 1 fD fdD ["_law_pen_here", "_law_many"] spDraw) (gD : mg "_law_draw" = some (.ref fD)) (kD : PySem.W.keepIn K (.ref fD) = true) (bD : Binds K fdD ["_law_pen_here", "_law_many"] [])
    (GP : FnOk P w K mg base CX0 2 fP fdP ["_law_pen_here", "_law_some"] (spPick K)) (gP : mg "_law_pick" = some (.ref fP)) (kP : PySem.W.keepIn K (.ref fP) = true) (bP : Binds K fdP ["_law_pen_here", "_law_some"] []) :
    FnOk P w K mg base CX0 3 f fd ["_law_pen_here", "_law_figures"] spBig := by
  refine F.ok sc_l_big (fun vs H Q E h => ?_) (fun cdv A outer s H vs Q E hr h => ?_)
  · obtain ⟨p, l, c, k, rfl, _⟩ := h
    rfl
  · obtain ⟨p, l, c, k, rfl, hP, hc, hk0, hk1, kk⟩ := h
    have hr1 : Room 1 _ := hr.mono (by decide)
    refine ⟨_, (pss_cons (ps_set (i := 2) sc_l_big.nd rfl (Or.inl rfl) pe_int)
      (pss_cons (ps_for PassesOwn.never rfl (pi_range1 (by rfl) br (pa_cons (pe_call GP hr (by rfl) gP kP bP .nil pass0 (pa_cons (pv 0) (pa_cons (pe_lst (pa_cons pe_int (pa_cons pe_int (pa_cons pe_int (pa_cons pe_int (pa_cons pe_int (pa_cons (pe_op op_fdiv (pe_op op_add (pv 1) pe_int) pe_int) pa_nil))))))) pa_nil))) pa_nil)) (pg_name (i := 3) sc_l_big.nd rfl (Or.inl rfl))
        (pss_one (ps_set (i := 2) sc_l_big.nd rfl (Or.inl rfl) (pe_op op_add (pe_op op_mul (pv 2) pe_int) (pe_call GD hr1 (by rfl) gD kD bD .nil pass0 (pa_cons (pv 0) (pa_cons pe_int pa_nil)))))))
      (pss_one (ps_ret (pe_callTy call_int_str (by rfl) bi (by decide +kernel) (pa_cons (pe_slice sl_str (pe_callTy call_str_int (by rfl) bs (by decide +kernel) (pa_cons (pv 2) pa_nil)) (po_some (pe_un un_neg (pv 1))) po_none) pa_nil)))))), ?_⟩
    refine ⟨_, rfl, _, rfl, _, _, rfl, rfl, _, _, rfl, rfl, ⟨by decide, by decide⟩, (by show 6 ≤ sizeLine; rw [sizeLine_eq]; decide), fun q hq => ?_⟩
    have hP1 : Pen (upd H q (.lst [.int 1, .int 1, .int 1, .int 2, .int 3, .int (((k : Int) + 2) / 3)])) p l c := hP.same (same_new hq)
    refine ⟨p, l, q, c, _, rfl, hP1, by omega, (.inl (.inl (.inl upd_same))), (by show 0 < 6; decide), (by show 6 < 1000; decide), fun v H1 hv hPen1 hB1 => ?_⟩
    obtain ⟨n, rfl, hn0, hn1⟩ : ∃ n : Nat, v = .int (n : Int) ∧ 0 ≤ n ∧ n ≤ 34 := by
      simp only [List.mem_cons, List.not_mem_nil, or_false] at hv
      rcases hv with rfl | rfl | rfl | rfl | rfl | rfl
      · exact ⟨1, rfl, by omega, by omega⟩
      · exact ⟨1, rfl, by omega, by omega⟩
      · exact ⟨1, rfl, by omega, by omega⟩
      · exact ⟨2, rfl, by omega, by omega⟩
      · exact ⟨3, rfl, by omega, by omega⟩
      · exact ⟨(k + 2) / 3, by congr 1, by omega, by omega⟩
    have hk1' : Kp p H H1 := (Kp.new hq).trans hB1.kp
    refine ⟨_, rfl, by omega, by omega, ?_⟩
    rw [Int.toNat_natCast]
    refine for_range (lo := 0) (n := n) (fun i σ H2 => ∃ (t : Nat) (v : Option V), σ = [some (.ref p), some (.int (k : Int)), some (.int (t : Int)), v] ∧ t < 1000 ^ i ∧ Pen H2 p l (c + 1 + i) ∧ Kp p H H2)
      ⟨0, none, rfl, by decide, hPen1, hk1'⟩ ?_ ?_
    · rintro i σ H2 hi ⟨t, v, rfl, ht, hPi, hKi⟩
      refine ⟨_, rfl, _, _, rfl, rfl, .inr ⟨by decide, by decide⟩, _, rfl, p, l, c + 1 + i, 1000, rfl, hPi, by omega, by decide, by decide, fun d H3 hd0 hd1 hP3 hB3 => ?_⟩
      refine ⟨_, _, rfl, rfl, t * 1000 + d.toNat, some (.int (0 + (i : Int))), ?_, ?_, hP3, hKi.trans hB3.kp⟩
      · have e : (t : Int) * 1000 + d = ((t * 1000 + d.toNat : Nat) : Int) := by omega
        show [some (V.ref p), some (V.int (k : Int)), some (V.int ((t : Int) * 1000 + d)), some (V.int (0 + (i : Int)))] = _
        rw [e]
      · rw [Nat.pow_succ]
        omega
    · rintro σ H2 ⟨t, v, rfl, ht, hPi, hKi⟩
      have ht3 : t < 10 ^ 102 := by
        refine Nat.lt_of_lt_of_le ht ?_
        rw [show (10 : Nat) ^ 102 = 1000 ^ 34 by decide]
        exact Nat.pow_le_pow_right (by decide) hn1
      have ht4 : t < 10 ^ 200 := Nat.lt_of_lt_of_le ht3 (Nat.pow_le_pow_right (by decide) (by decide))
      obtain ⟨r, hr1, hr2, hr3, hr4⟩ := tail_int (n := t) (k := k) hk0 ht4
      refine ⟨_, rfl, _, rfl, log2_small (show (t : Int).natAbs < 10 ^ 200 from ht4), _, rfl, _, rfl, _, rfl, _, rfl, ?_, _, _, rfl, hr3, hr4, ?_⟩
      · show (Str.ofString (toString ((t : Nat) : Int))).length ≤ sizeLine
        rw [SX.num_S t, SX.S_len, sizeLine_eq]
        exact Nat.le_trans (TL.numL_len (by decide) ht4) (by decide)
      · exact kk r (c + 1 + n) H2 hr1 hr2 (by omega) (by omega) hPi hKi
end
end Z
set_option Elab.async false
set_option linter.all false
set_option maxRecDepth 100000
set_option maxHeartbeats 2000000
namespace Z
open PySem L2 PyProof.Rows
/-! a def that is called where no repr runs -/
structure FnG (P : Program) (w : World) (K : PySem.W.Frag) (mg : Str → Option Value) (base : Heap) (CX : CXT) (k : Nat) (f : Addr) (fd : FuncData) (ps : List Str) (sp : Sp) : Prop where
  len : ∀ vs H Q E, sp vs H Q E → vs.length = ps.length
  go : ∀ (A : Around), A.guards = some [] → ∀ (outer : List Env) (s : Shared) (H : Hp) (args : Args) (us : List Value) (vs : List V) (Q : VK) (E : XK), Room k A → Env0 P w K mg base A outer s H →
    BindsTo s fd args (ps.zip us) → Vals vs us → sp vs H Q E → codeAny (model P w) A (.call (.ref f) args) (CR CX outer P w H s Q E) s
section
variable {P : Program} {w : World} {K : PySem.W.Frag} {mg : Str → Option Value} {base : Heap}
theorem fnG_of {x qual : Str} {st : Stmt} {f : Addr} {fd : FuncData} {N ps : List Str} {k : Nat} {sp : Sp} (F : Fun K x qual st f fd) (S : FnScope N ps (defScope st)) (len : ∀ vs H Q E, sp vs H Q E → vs.length = ps.length)
    (hb : ∀ (cdv : Value) (A : Around), A.guards = some [] → ∀ (outer : List Env) (s : Shared) (H : Hp) (vs : List V) (Q : VK) (E : XK), Room k (A.deeper (envOfC qual (defScope st) s.heap.objs.size f cdv)) → sp vs H Q E →
      ∃ t, PSs (cxOf CX0 P w K mg base N qual (defScope st) f cdv A outer s H E).nox (defBody st) t ∧ t { nx := fun _ H' => Q .non H', rt := Q } (start N vs) H) : FnG P w K mg base CX0 (k + 1) f fd ps sp := by
  obtain ⟨oc, od, kV, doc, pm, an, cdv, ct, osl, rfl, lk, hcd⟩ := F.ex
  constructor
  · exact len
  · intro A hgd outer s H args us vs Q E room e0 bd rv hsp
    have n1 := len _ _ _ _ hsp
    have inH : K.In s.heap := e0.mod.kin.keeps fun b o z => (e0.bs b o z).1
    have nl : s.heap.NoLimit := e0.mod.nolimit.keeps fun b o z => (e0.bs b o z).1
    have kinds : ∀ y ∈ ps.zip us, (defScope st).names.lookup y.1 = some .local ∨ ((defScope st).names.lookup y.1 = some .cell ∧ ((cellsFrom (s.heap.objs.size + 1) (defScope st).names []).lookup y.1).isSome = true) := by
      rintro ⟨n, v⟩ hy
      cases S.par n (List.of_mem_zip hy).1 with
      | inl q => exact .inl q
      | inr q => exact .inr ⟨q, PySem.W.cellsFrom_some _ _ _ (.inl q)⟩
    refine codeAny_call_function room.depth (inH _ _ lk) rfl S.co S.gen rfl (PySem.W.codeRec_of inH hcd) (bd _ _ _ _ ?_)
    refine wpAny_newFunctionEnv_cells S.kind kinds fun env he s1 x => ?_
    cases he
    refine ⟨nl.keeps x.toInCall.keep, codeAny_func ?_⟩
    obtain ⟨t, ht, hq⟩ := hb cdv A hgd outer s H vs Q E (room.deeper _) hsp
    have I0 := inv_start (CX := CX0) (P := P) (w := w) (K := K) (mg := mg) (base := base) (E := E) S room.hd e0 n1 rv x
    refine wpAny_mono (ht.nox.run [] s1 (start N vs) H _ I0 hq) (fun fl s' hs => ?_) (fun e s' hs => hs)
    cases fl with
    | ret u =>
      obtain ⟨v, σ', H', J, rv, q⟩ := hs
      exact ⟨v, H', J.os, J.bare, J.base, J.hok, rv, q⟩
    | next =>
      obtain ⟨σ', H', J, q⟩ := hs
      exact ⟨V.non, H', J.os, J.bare, J.base, J.hok, rfl, q⟩
    | brk => exact hs.elim fun _ z => z.elim fun _ z => z.2.elim
    | cont => exact hs.elim fun _ z => z.elim fun _ z => z.2.elim
end
/-! the head's end, for such a law -/
theorem lawG {P : Program} {w : World} {K : PySem.W.Frag} {mg mb : Str → Option Value} {k : Nat} {fa a : Addr} {fd : FuncData} {x : Str} {sp : Sp} {s₁ : Shared} {vs : List Value} {ns : List Int}
    (inH : K.In s₁.heap) (hns : s₁.heap.Ns mainGlobals mg) (hb : s₁.heap.Ns builtinsNs mb) (hbb : ∀ x : Str, x ≠ "__name__" → mb x = bootBuiltins x) (nl : s₁.heap.NoLimit) (hg : s₁.gens = #[])
    (ha : s₁.heap.get? a = some { cls := .type "list", data := .seq vs.toArray }) (hi : IntsAre vs ns) (hl : ns.length ≤ sizeLine) (room : Room k callerA)
    (F : ∀ base : Heap, K.In base → base.Ns mainGlobals mg → FnG P w K mg base CX0 k fa fd [x] sp) (hbind : ∀ (s : Shared) (u : Value), BindsTo s fd ⟨[u], []⟩ [(x, u)])
    (hsp : ∀ H : Hp, SqL K H a (ns.map V.int) → sp [.ref a] H (fun v _ => v = .bl true) fun _ _ _ => False) :
    codeAny (model P w) callerA (.call (.ref fa) ⟨[.ref a], []⟩) (fun r s' => r = .ok (.ret (.bool true)) ∧ OldK s₁.heap s'.heap ∧ s'.os = s₁.os ∧ AllBare s'.gens) s₁ := by
  have rv := vals_ints hi
  have ln := hi.length
  -- any abstract heap that tracks at most the script, locked
  have main : ∀ H : Hp, (∀ b, H b = none ∨ ∃ o xs, H b = some (.frz o (.lst xs))) → SqL K H a (ns.map V.int) → HOk P w H s₁.heap → (∀ b, H b ≠ none → b = a ∧ K.lookup b = none) →
      codeAny (model P w) callerA (.call (.ref fa) ⟨[.ref a], []⟩) (fun r s' => r = .ok (.ret (.bool true)) ∧ OldK s₁.heap s'.heap ∧ s'.os = s₁.os ∧ AllBare s'.gens) s₁ := by
    intro H only hS hok hA
    have seen : ∀ {b : Addr} {o : Obj}, s₁.heap.get? b = some o → H b = none → (hidT s₁.heap H).get? b = some o := fun z n => hidT_get z n
    have dictFree : ∀ {b : Addr} {o : Obj} {es : Array DictEntry} {ep : Nat}, s₁.heap.get? b = some o → o.data = .dict es ep → H b = none := by
      intro b o es ep z d
      refine Classical.byContradiction fun n => ?_
      obtain ⟨rfl, _⟩ := hA b n
      rw [ha] at z
      cases z
      cases (show Data.seq vs.toArray _ = Data.dict es ep from d)
    have nsH : ∀ {b : Addr} {m : Str → Option Value}, s₁.heap.Ns b m → (hidT s₁.heap H).Ns b m := by
      rintro b m ⟨o, es, ep, z, d, r⟩
      exact ⟨o, es, ep, seen z (dictFree z d), d, r⟩
    have kin : K.In (hidT s₁.heap H) := by
      intro b o z
      refine seen (inH b o z) (Classical.byContradiction fun n => ?_)
      rw [(hA b n).2] at z
      cases z
    have md : Mod K mg (hidT s₁.heap H) := ⟨kin, nsH hns, ⟨mb, nsH hb, hbb⟩, nl.elim fun mc z => ⟨mc, nsH z.1, z.2⟩⟩
    have e0 : Env0 P w K mg (hidT s₁.heap H) callerA [] s₁ H :=
      ⟨rfl, md, fun b o z => of_hidT z, Nat.le_of_eq (hidT_size _ _), trivial, fun b z => (List.not_mem_nil (show b ∈ [] from z)).elim, hok, .of_eq hg⟩
    have run := (F _ kin (nsH hns)).go callerA rfl [] s₁ H ⟨[.ref a], []⟩ [.ref a] [.ref a] _ _ room e0 (hbind s₁ (.ref a)) (.cons rfl .nil) (hsp H hS)
    refine codeAny_mono run fun r s' h => ?_
    cases r with
    | error e => exact False.elim h
    | ok fl =>
      cases fl with
      | next => exact False.elim h
      | brk => exact False.elim h
      | cont => exact False.elim h
      | ret u =>
        obtain ⟨v, H', os, bare, un, hok', r', q⟩ := h
        cases (show v = .bl true from q)
        cases (show u = Value.bool true from r')
        refine ⟨rfl, OldK.of_keep fun b o z => ?_, os, bare⟩
        rcases only b with n | ⟨ob, xs, y⟩
        · exact un.keep b o z n (fun m => (List.not_mem_nil (show b ∈ [] from m)).elim) (by simp)
        · obtain ⟨e1, _⟩ := hok b _ y
          obtain ⟨e2, _⟩ := hok' b _ (un.frzs b ob _ y)
          cases z.symm.trans e1
          exact e2
  cases hk : K.lookup a with
  | some o =>
    have e := inH a o hk
    rw [ha] at e
    cases e
    exact main (fun _ => none) (fun _ => .inl rfl) (.inr ⟨_, vs.toArray, _, hk, rfl, rfl, rfl, by rw [List.size_toArray, ln]; exact hl, by simpa using rv⟩) (fun b u z => nomatch (show (none : Option HO) = some u from z)) fun b z => (z rfl).elim
  | none =>
    have off : ∀ b, b ≠ a → (fun b => if b = a then some (HO.frz { cls := .type "list", data := .seq vs.toArray } (.lst (ns.map V.int))) else none) b = none := fun b n => if_neg n
    have on : (fun b => if b = a then some (HO.frz { cls := .type "list", data := .seq vs.toArray } (.lst (ns.map V.int))) else none) a = some (HO.frz { cls := .type "list", data := .seq vs.toArray } (.lst (ns.map V.int))) := if_pos rfl
    refine main (fun b => if b = a then some (HO.frz { cls := .type "list", data := .seq vs.toArray } (.lst (ns.map V.int))) else none) (fun b => ?_) (.inl (.inr ⟨_, on⟩)) (fun b u z => ?_) (fun b z => ?_)
    · by_cases n : b = a
      · exact .inr ⟨_, _, if_pos n⟩
      · exact .inl (off b n)
    · by_cases n : b = a
      · subst n
        cases on.symm.trans z
        exact ⟨ha, by rw [List.length_map]; exact hl, vs, _, rv, ha⟩
      · cases (off b n).symm.trans z
    · by_cases n : b = a
      · exact ⟨n, n ▸ hk⟩
      · exact (z (off b n)).elim
theorem walkG {l : PySem.W.OpenLaw} {n k : Nat} {q : Program} {loose : List Str} {XP : (Str → Option Value) → Heap → Prop} {YP : World → Heap → Prop} {d : DefRec} {K : Params → PySem.W.Frag} {sp : World → Sp} {x : Str}
    (hn : l.most = some n) (hn2 : n ≤ sizeLine) (hdf : d.params.defaults = []) (room : Room k callerA) (hY : ∀ (w : World) (h : Heap), YP w h → (K w.params).In h)
    (F : ∀ (w : World) (mg : Str → Option Value) (fa : Addr) (h : Heap), (K w.params).In h → h.Ns mainGlobals mg → mg d.name = some (.ref fa) →
      ∃ fd : FuncData, (∀ (s : Shared) (u : Value), BindsTo s fd ⟨[u], []⟩ [(x, u)]) ∧ ∀ base : Heap, (K w.params).In base → base.Ns mainGlobals mg → FnG l.prog w (K w.params) mg base CX0 k fa fd [x] (sp w))
    (hsp : ∀ (w : World) (H : Hp) (a : Addr) (ns : List Int), ns.length ≤ n → SqL (K w.params) H a (ns.map V.int) → sp w [.ref a] H (fun v _ => v = .bl true) fun _ _ _ => False) :
    PySem.W.WalkO q loose XP YP l.row.toRowW d [] (fun f vs => PySem.call f vs) := by
  refine Att.attach_call hn hdf ?_
  intro w s₀ s₁ mg mb fa o pm cd doc a vs ns G Y ho hd hcd hmg hobj hints hlen hg
  obtain ⟨fd, bd, hF⟩ := F w mg fa _ (hY w _ Y) G.T.g hmg
  exact lawG (hY w _ Y) G.T.g G.T.b G.T.builtins G.T.nolimit hg hobj hints (Nat.le_trans hlen hn2) room hF bd fun H hS => hsp w H a ns hlen hS
/-! repr of data -/
def rRepD (K : PySem.W.Frag) : List V → Hp → VK → Prop := fun xs H Q => ∃ x d, xs = [x] ∧ Dp K H x d ∧ PyData.showable d = true ∧ PyData.hasDict d = false ∧ d.depth ≤ 40 ∧ d.shown.length ≤ sizeLine ∧ Q (.str d.shown) H
theorem call_reprD {X : Cx} (hg : X.A.guards = some []) (hu : X.A.units + 64 < cLine) : CallR X (.builtin "repr") (rRepD X.K) := by
  intro pins s σ H xs us Q I r h
  obtain ⟨x, d, rfl, hd, h1, h2, h3, h4, q⟩ := h
  obtain ⟨u, rfl, ru⟩ := vals1 r
  obtain ⟨as, rd⟩ := Dp.reads I d x u hd ru
  cases hd with
  | non =>
    cases ru
    exact PySem.P.repr_of_none ⟨.str _, H, I.tok _, ⟨_, rfl⟩, (show PyData.shown .none = "None" by simp only [PyData.shown]) ▸ q⟩
  | bl b =>
    cases ru
    have e : PyData.shown (.bool b) = (if b = true then Str.ofString "True" else Str.ofString "False") := by simp only [PyData.shown]
    rw [e] at q
    exact PySem.P.repr_of_bool ⟨.str _, H, I.tok _, ⟨_, rfl⟩, q⟩
  | int i =>
    obtain ⟨t, rfl⟩ := ru
    have hs : i.natAbs.log2 < 1920 := by simpa [PyData.showable] using h1
    exact PySem.P.repr_of_int hs ⟨.str _, H, I.tok _, ⟨_, rfl⟩, (show PyData.shown (.int i) = toString i by simp only [PyData.shown]) ▸ q⟩
  | str z =>
    obtain ⟨t, rfl⟩ := ru
    have e : PyData.shown (.str z) = reprText z := by simp only [PyData.shown]
    rw [e] at q h4
    exact PySem.P.repr_of_str ⟨.str _, H, I.tok _, ⟨_, rfl⟩, q⟩ h4
  | lst a b =>
    cases ru
    exact repr_of_reads' rd h1 (PyData.noDict_hsm h2) hg (by omega) (fun _ _ z => z) (fun h' t tk hk => ⟨.str _, H, I.kept (t' := tk) hk, ⟨t, rfl⟩, q⟩) h4
  | tup a b =>
    cases ru
    exact repr_of_reads' rd h1 (PyData.noDict_hsm h2) hg (by omega) (fun _ _ z => z) (fun h' t tk hk => ⟨.str _, H, I.kept (t' := tk) hk, ⟨t, rfl⟩, q⟩) h4
end Z
set_option Elab.async false
set_option linter.all false
set_option maxRecDepth 100000
set_option maxHeartbeats 2000000
namespace Z
open PySem L2 PyProof.Rows
/-! exceptions of the text's own classes, as values -/
structure XC (K : PySem.W.Frag) (C : Addr) : Prop where
  oe : OexC K C
  ga : PySem.W.findIn K (.ref C) "__getattribute__" = some (some (.builtin "BaseException.__getattribute__"))
  gg : PySem.W.findIn K (.ref C) "__getattr__" = some none
  hd : PySem.W.hasDictIn K C = true
  ha : PySem.W.findIn K (.ref C) "__class__" = some (some (.builtin "object.__class__"))
  hn : PySem.W.specialIn K (.builtin "object.__class__") "__get__" = some (some (.builtin "getset_descriptor.__get__"))
  ht : PySem.W.takesIn K (.builtin "object.__class__") = some true
  hm : PySem.W.mroIn K C (.type "object") = some true
theorem XC.cl {K : PySem.W.Frag} {C : Addr} (T : XC K C) : (PySem.W.clsIn K C).isSome = true := by
  obtain ⟨nm, q, N, bs, bm, sn, sub, ab, col, dd, k0, k1, k2, k3, k5, hC, _⟩ := T.oe.cls
  unfold PySem.W.clsIn
  rw [hC]
  rfl
/-- an exception of the class at D stands at a -/
structure ExV (K : PySem.W.Frag) (H : Hp) (a D : Addr) : Prop where
  c : XC K D
  at_ : ∃ d, H a = some (exo a D d) ∧ (d = none ∨ ∃ dd fs, d = some dd ∧ H dd = some (exd dd fs))
theorem ExV.keep {K : PySem.W.Frag} {H H' : Hp} {a D : Addr} (h : ExV K H a D) (k : ∀ b φ, H b = some (.ext φ) → H' b = some (.ext φ)) : ExV K H' a D := by
  obtain ⟨d, h1, h2⟩ := h.at_
  refine ⟨h.c, d, k _ _ h1, ?_⟩
  rcases h2 with h2 | ⟨dd, fs, e, h2⟩
  · exact .inl h2
  · exact .inr ⟨dd, fs, e, k _ _ h2⟩
section
variable {X : Cx} {pins : List (Addr × Obj)} {σ : L2.St} {H : Hp} {s : Shared} {a D : Addr}
theorem ExV.inst (h : ExV X.K H a D) (I : L2.Inv X pins σ H s) : ∃ oe od, PySem.W.InstAt s.heap a oe D od := by
  obtain ⟨d, h1, h2⟩ := h.at_
  obtain ⟨t1, e1⟩ := exo_at I.hok h1
  rcases h2 with rfl | ⟨dd, fs, rfl, h2⟩
  · exact ⟨_, none, e1, rfl, rfl, trivial⟩
  · obtain ⟨mA, ⟨o, _, _, ho, _⟩, _⟩ := exd_at I.hok h2
    exact ⟨_, some o, e1, rfl, rfl, ho⟩
end
/-- isinstance(e, C) -/
def rIsX (K : PySem.W.Frag) : List V → Hp → VK → Prop := fun xs H Q => ∃ (a D : Addr) (c : V) (cv : Value) (b : Bool), xs = [.ref a, c] ∧ ExV K H a D ∧ (∀ u, RelV c u → u = cv) ∧ PySem.W.kitOne K (.ref D) cv = some b ∧ Q (.bl b) H
theorem call_isX {X : Cx} : CallR X (.builtin "isinstance") (rIsX X.K) := by
  intro pins s σ H xs us Q I r h
  obtain ⟨a, D, c, cv, b, rfl, ex, hc, hk, q⟩ := h
  obtain ⟨u1, u2, rfl, r1, r2⟩ := vals2 r
  cases r1
  cases hc _ r2
  obtain ⟨oe, od, J⟩ := ex.inst I
  have T := ex.c
  exact PySem.W.kia_one (PySem.W.kitx_exc (od := od) T.cl T.ga T.gg T.oe.exC T.ha T.hn T.ht T.hm) I.kIn J hk (fun z => nomatch z) fun tk => ⟨.bl b, H, I.tok tk, rfl, q⟩
/-- e.n of such an exception -/
def tExf (K : PySem.W.Frag) (n : Str) (te : TE) : TE := fun σ H Q => te σ H fun x H1 => ∃ (a D dd : Addr) (fs : List (Str × V)) (v : V), x = .ref a ∧ XC K D ∧ PySem.W.findIn K (.ref D) n = some none ∧
  H1 a = some (exo a D (some dd)) ∧ H1 dd = some (exd dd fs) ∧ fs.lookup n = some v ∧ Q v H1
theorem pe_exf {X : Cx} {e : Expr} {te : TE} {pos : Pos} {n : Str} (he : PE X e te) (hb : attributeBase e n X.env (eval e X.env) = eval e X.env := by rfl) : PE X (.Attribute e n pos) (tExf X.K n te) := by
  constructor
  intro pins s σ H Q I h
  refine attr_of hb (thn (he.run pins s σ H _ I h) ?_)
  rintro u s1 ⟨x, H1, J, rx, a, D, dd, fs, v, rfl, T, hno, ea, ed, l, q⟩
  cases rx
  obtain ⟨t1, e1⟩ := exo_at J.hok ea
  obtain ⟨mA, hns, rel⟩ := exd_at J.hok ed
  obtain ⟨od, ho, hl⟩ := lookIn_ns hns
  obtain ⟨w', hu, ru⟩ := RelO.some_of (v := v) (o := mA n) (l ▸ rel n)
  have inst : PySem.W.InstAt s1.heap a _ D (some od) := ⟨e1, rfl, rfl, ho⟩
  exact HandSPX.exc_get J.kIn inst T.ga T.gg T.oe.exC (PySem.W.findObj_own T.hd hno rfl (by rw [hl, hu])) (handed_of ru) ⟨v, H1, J.tok _, ru, q⟩
/-- C(e, ..) as a value, C with an __init__ of its own that keeps sp -/
def tMkV (C : Addr) (sp : Sp) (ta : TA) : TE := fun σ H Q => ta σ H fun vs H1 => vs.length ≤ 1000 ∧ ∀ a, H1 a = none → sp (.ref a :: vs) (upd H1 a (exo a C none)) (fun v H2 => v = .non ∧ Q (.ref a) H2) (fun _ _ _ => False)
theorem pe_mkv {X : Cx} {x : Str} {C fI : Addr} {k : Nat} {fd : FuncData} {ps : List Str} {sp : Sp} {e : Expr} {es : List Expr} {ta : TA} {p pos : Pos} (T : OexC X.K C) (iC : PySem.W.findIn X.K (.ref C) "__init__" = some (some (.ref fI)))
    (tI : PySem.W.typeIn X.K (.ref fI) = some (.type "function")) (G : FnOk X.prog X.w X.K X.mg X.base CX0 k fI fd ps sp) (room : Room (k + 1) X.A) (bd : Binds X.K fd ps []) (hm : X.mg x = some (.ref C)) (ha : PA X (e :: es) ta) (hg : Gl X x := by rfl)
    (hdb : (x == ("__debug__" : Str)) = false := by decide) (he : starEach (e :: es) X.env = (false, eval e X.env) :: starEach es X.env := by rfl) (hpl : (backTo pos (starEach es X.env)).any (·.1) = false := by rfl) :
    PE X (.Call (.Name x p) (e :: es) [] pos) (tMkV C sp ta) := by
  constructor
  intro pins s σ H Q I h
  obtain ⟨nm, qn, N, bs, bm, sn, sub, ab, col, dd, k0, k1, k2, k3, k5, hC, hbm⟩ := T.cls
  refine wpAny_Call_Name_kw (ld_glob I hg hm ?_ hdb)
  refine PySem.W.callWith_K (h₀ := X.base) I.ok.mod.kin T.kC (thn (ha.run pos pins s σ H _ I h) ?_) he hpl
  rintro us s1 ⟨vs, H1, I1, r1, hz, q1⟩
  refine ⟨I1.kIn, ?_⟩
  show wpAny _ _ (call (.ref C) us) _ _ _
  obtain ⟨hp, g, dr, tk, os⟩ := s1
  have above : hp.objs.size ≤ (hp.objs.size + 1) := Nat.le_succ _
  have fr : H1 (hp.objs.size + 1) = none := I1.hok.fresh above
  have pr := q1 (hp.objs.size + 1) fr
  have old : ∀ b o, hp.get? b = some o → ((hp.push (PySem.W.kdv_tup us)).push (PySem.HandSPX.excO C hp.objs.size)).get? b = some o := fun b o z => Heap.get?_push_of_some _ (Heap.get?_push_of_some _ z)
  have here : ((hp.push (PySem.W.kdv_tup us)).push (PySem.HandSPX.excO C hp.objs.size)).get? (hp.objs.size + 1) = some (PySem.HandSPX.excO C hp.objs.size) := by heap_get
  have I2 : L2.Inv X pins σ (upd H1 (hp.objs.size + 1) (exo (hp.objs.size + 1) C none)) ⟨(hp.push (PySem.W.kdv_tup us)).push (PySem.HandSPX.excO C hp.objs.size), g, dr, tk, os⟩ :=
    I1.laid (t' := tk) (a := (hp.objs.size + 1)) (o := exo (hp.objs.size + 1) C none) (h' := (hp.push (PySem.W.kdv_tup us)).push (PySem.HandSPX.excO C hp.objs.size)) old above (exo_ok here)
  have r2 : Vals (V.ref (hp.objs.size + 1) :: vs) (Value.ref (hp.objs.size + 1) :: us) := .cons rfl r1
  have len1 : (Value.ref (hp.objs.size + 1) :: us).length = ps.length := by rw [← G.len _ _ _ _ pr]; exact r2.length.symm
  have small : us.length ≤ sizeLine := by rw [← Paired.length r1, sizeLine_eq]; omega
  have bd2 := bd ⟨(hp.push (PySem.W.kdv_tup us)).push (PySem.HandSPX.excO C hp.objs.size), g, dr, tk, os⟩ (Value.ref (hp.objs.size + 1) :: us) I2.kIn (by rw [List.append_nil]; exact len1)
  rw [List.append_nil] at bd2
  refine wpAny_call (PySem.HandSPX.call_own F.excBase_ValueError (fun Y => PySem.HandSPX.refsVE_contains Y bm hbm) (I1.kIn _ _ hC) (PySem.W.looks_findIn I1.kIn iC) (fun self => PySem.W.bind_fn I1.kIn self tI) small
    (codeAny_mono (G.run _ X.stack _ _ ⟨Value.ref (hp.objs.size + 1) :: us, []⟩ (Value.ref (hp.objs.size + 1) :: us) _ _ (fun _ _ _ => False) (room.make C us []) (I2.env0.make C us []) bd2 r2 pr) ?_))
  intro r s' back
  cases r with
  | error er => exact False.elim back
  | ok fl =>
    cases fl with
    | ret u =>
      obtain ⟨v, H2, os2, bare2, un2, hok2, rv, ev, q2⟩ := back
      subst ev
      obtain ⟨h2, g2, d2, t2, os'⟩ := s'
      exact ⟨rv, .ref (hp.objs.size + 1), H2, I2.call' (s' := ⟨h2, g2, d2, t2, os'⟩) (ch := []) os2 un2 hok2 bare2 (fun b z => absurd z (by simp)), rfl, q2⟩
    | next => exact False.elim back
    | brk => exact False.elim back
    | cont => exact False.elim back
/-- C() as a value, C without an __init__ of its own -/
theorem pe_mk0 {X : Cx} {x : Str} {C : Addr} {bmB : List Value} {B newId initId : String} {p pos : Pos} (Fb : ExcBaseFacts B newId initId bmB) (q : PySem.W.excIn X.K C bmB newId = true) (hm : X.mg x = some (.ref C)) (kC : PySem.W.keepIn X.K (.ref C) = true)
    (hg : Gl X x := by rfl) (hdb : (x == ("__debug__" : Str)) = false := by decide) : PE X (.Call (.Name x p) [] [] pos) (fun _ H Q => ∀ a, H a = none → Q (.ref a) (upd H a (exo a C none))) := by
  constructor
  intro pins s σ H Q I h
  refine wpAny_Call_Name_kw (ld_glob I hg hm ?_ hdb)
  refine PySem.W.callWith_K0 I.kIn kC ?_
  show wpAny _ _ (call (.ref C) []) _ _ _
  obtain ⟨bm, N, nm, qn, bs, hdct, sn, sub, ab, col, dd, k0, k1, k2, k3, k5, mN, hC, hN, hni, T⟩ := exc_obj I.kIn q
  obtain ⟨hp, g, dr, tk, os⟩ := s
  refine wpAny_call_exc_subT Fb T hC hN hni (fun h' e md => ?_) (by show 0 ≤ sizeLine; exact Nat.zero_le _)
  have fr : H e = none := I.hok.gone md.new
  obtain ⟨t, ht, _, _⟩ := md.there
  refine ⟨.ref e, upd H e (exo e C none), ?_, rfl, h e fr⟩
  exact I.laidN md.keeps md.new fr (exo_ok ht)
end Z
set_option Elab.async false
set_option linter.all false
set_option maxRecDepth 100000
set_option maxHeartbeats 2000000
namespace Z
open PySem L2 PyProof.Rows
theorem if_t {c : Bool} {A B : Prop} (h : c = true) (a : A) : if c = true then A else B := by rw [if_pos h]; exact a
theorem if_f {c : Bool} {A B : Prop} (h : c = false) (b : B) : if c = true then A else B := by rw [h]; exact iteF b
/-- an __init__ that stores its arguments -/
def spI (K : PySem.W.Frag) (fs : List Str) : Sp := fun vs H Q _ => ∃ (a C : Addr) (xs : List V), vs = .ref a :: xs ∧ xs.length = fs.length ∧ OexC K C ∧ (∀ f ∈ fs, PySem.W.findIn K (.ref C) f = some none) ∧ H a = some (exo a C none) ∧
  ∀ (dx : Addr) (H' : Hp), H dx = none → dx ≠ a → H' a = some (exo a C (some dx)) → H' dx = some (exd dx (fs.zip xs).reverse) → (∀ b o, b ≠ a → H b = some o → H' b = some o) → Q .non H'
structure MkE (P : Program) (w : World) (K : PySem.W.Frag) (mg : Str → Option Value) (base : Heap) (x : Str) (C : Addr) (ps fs : List Str) : Prop where
  xc : XC K C
  no : ∀ f ∈ fs, PySem.W.findIn K (.ref C) f = some none
  g : mg x = some (.ref C)
  ini : ∃ fI fd, PySem.W.findIn K (.ref C) "__init__" = some (some (.ref fI)) ∧ PySem.W.typeIn K (.ref fI) = some (.type "function") ∧ FnOk P w K mg base CX0 1 fI fd ps (spI K fs) ∧ Binds K fd ps []
structure Mk0 (K : PySem.W.Frag) (mg : Str → Option Value) (x : Str) (C : Addr) : Prop where
  xc : XC K C
  g : mg x = some (.ref C)
  ex : PySem.W.excIn K C [.type "ValueError", .type "Exception", .type "BaseException", .type "object"] "ValueError.__new__" = true
theorem pe_mkE {X : Cx} {x : Str} {C : Addr} {ps fs : List Str} {e : Expr} {es : List Expr} {ta : TA} {p pos : Pos} (M : MkE X.prog X.w X.K X.mg X.base x C ps fs) (room : Room 2 X.A) (ha : PA X (e :: es) ta) (hg : Gl X x := by rfl)
    (hdb : (x == ("__debug__" : Str)) = false := by decide) (he : starEach (e :: es) X.env = (false, eval e X.env) :: starEach es X.env := by rfl) (hpl : (backTo pos (starEach es X.env)).any (·.1) = false := by rfl) :
    PE X (.Call (.Name x p) (e :: es) [] pos) (tMkV C (spI X.K fs) ta) := by
  obtain ⟨fI, fd, h1, h2, h3, h4⟩ := M.ini
  exact pe_mkv M.xc.oe h1 h2 h3 room h4 M.g ha hg hdb he hpl
section
variable {P : Program} {w : World} {K : PySem.W.Frag} {mg : Str → Option Value} {base : Heap}

abbrev s_BadText : Stmt := inClass (topS 3) 0
theorem sc_BadText : FnScope ["self", "line", "column"] ["self", "line", "column"] (defScope s_BadText) := ⟨rfl, rfl, rfl, by decide +kernel, rfl, by decide +kernel, by decide +kernel⟩
theorem ok_BadText {f : Addr} {fd : FuncData} (F : Fun K "__init__" "BadText.__init__" s_BadText f fd) : FnOk P w K mg base CX0 1 f fd ["self", "line", "column"] (spI K ["line", "column"]) := by
  refine F.ok sc_BadText (fun vs H Q E h => ?_) (fun cdv A outer s H vs Q E hr h => ?_)
  · obtain ⟨a, C, xs, rfl, hl, _⟩ := h
    show xs.length + 1 = _
    rw [hl]
    rfl
  · obtain ⟨a, C, xs, rfl, hl, T, no, ha, k⟩ := h
    obtain ⟨x, y, rfl⟩ : ∃ x y, xs = [x, y] := by
      match xs, hl with
      | [x, y], _ => exact ⟨x, y, rfl⟩
    refine ⟨_, (pss_cons (ps_ost (pv 0) (pv 1)) (pss_one (ps_ost (pv 0) (pv 2)))), ?_⟩
    refine ⟨_, rfl, _, rfl, a, C, rfl, T, no "line" (by decide +kernel), .inl ⟨ha, fun dx hd ne => ?_⟩⟩
    have e0 : (upd (upd H dx (exd dx [("line", x)])) a (exo a C (some dx))) dx = some (exd dx [("line", x)]) := by rw [upd_ne ne, upd_same]
    have k0 : ∀ b o, b ≠ a → H b = some o → (upd (upd H dx (exd dx [("line", x)])) a (exo a C (some dx))) b = some o := fun b o h1 h2 => by
      rw [upd_ne h1, upd_ne (ne_of_none h2 hd)]
      exact h2
    refine ⟨_, rfl, _, rfl, a, C, rfl, T, no "column" (by decide +kernel), .inr ⟨dx, _, upd_same, e0, (by show 1 ≤ 900; decide), ?_⟩⟩
    refine k dx _ hd ne (by rw [upd_ne ne.symm]; exact upd_same) upd_same fun b o h1 h2 => ?_
    rw [upd_ne (ne_of_none h2 hd)]
    exact k0 b o h1 h2
abbrev s_BadNumber : Stmt := inClass (topS 4) 0
theorem sc_BadNumber : FnScope ["self", "what", "number"] ["self", "what", "number"] (defScope s_BadNumber) := ⟨rfl, rfl, rfl, by decide +kernel, rfl, by decide +kernel, by decide +kernel⟩
theorem ok_BadNumber {f : Addr} {fd : FuncData} (F : Fun K "__init__" "BadNumber.__init__" s_BadNumber f fd) : FnOk P w K mg base CX0 1 f fd ["self", "what", "number"] (spI K ["what", "number"]) := by
  refine F.ok sc_BadNumber (fun vs H Q E h => ?_) (fun cdv A outer s H vs Q E hr h => ?_)
  · obtain ⟨a, C, xs, rfl, hl, _⟩ := h
    show xs.length + 1 = _
    rw [hl]
    rfl
  · obtain ⟨a, C, xs, rfl, hl, T, no, ha, k⟩ := h
    obtain ⟨x, y, rfl⟩ : ∃ x y, xs = [x, y] := by
      match xs, hl with
      | [x, y], _ => exact ⟨x, y, rfl⟩
    refine ⟨_, (pss_cons (ps_ost (pv 0) (pv 1)) (pss_one (ps_ost (pv 0) (pv 2)))), ?_⟩
    refine ⟨_, rfl, _, rfl, a, C, rfl, T, no "what" (by decide +kernel), .inl ⟨ha, fun dx hd ne => ?_⟩⟩
    have e0 : (upd (upd H dx (exd dx [("what", x)])) a (exo a C (some dx))) dx = some (exd dx [("what", x)]) := by rw [upd_ne ne, upd_same]
    have k0 : ∀ b o, b ≠ a → H b = some o → (upd (upd H dx (exd dx [("what", x)])) a (exo a C (some dx))) b = some o := fun b o h1 h2 => by
      rw [upd_ne h1, upd_ne (ne_of_none h2 hd)]
      exact h2
    refine ⟨_, rfl, _, rfl, a, C, rfl, T, no "number" (by decide +kernel), .inr ⟨dx, _, upd_same, e0, (by show 1 ≤ 900; decide), ?_⟩⟩
    refine k dx _ hd ne (by rw [upd_ne ne.symm]; exact upd_same) upd_same fun b o h1 h2 => ?_
    rw [upd_ne (ne_of_none h2 hd)]
    exact k0 b o h1 h2
end
end Z
set_option Elab.async false
set_option linter.all false
set_option maxRecDepth 100000
set_option maxHeartbeats 4000000
namespace Z
open PySem L2 PyProof.Rows
/-- all but dicts stands -/
def St (H H' : Hp) : Prop := ∀ b o, (∀ kvs, o ≠ .dK kvs) → H b = some o → H' b = some o
theorem Same.st {H H' : Hp} (s : Same H H') : St H H' := fun b o _ e => s b o e
theorem St.trans {H H1 H2 : Hp} (a : St H H1) (b : St H1 H2) : St H H2 := fun c o n e => b c o n (a c o n e)
theorem But.st {H H' : Hp} {p l : Addr} {c : Nat} (P : Pen H p l c) (b : But p H H') : St H H' := fun q o n e => by
  obtain ⟨ns, a, d, f, h1, _⟩ := P.ex
  refine (b q fun z => ?_).trans e
  rw [z, h1] at e
  exact n _ (Option.some.inj e).symm
theorem Kp.st {H H' : Hp} {p l : Addr} {c : Nat} (P : Pen H p l c) (b : Kp p H H') : St H H' := fun q o n e => by
  obtain ⟨ns, a, d, f, h1, _⟩ := P.ex
  refine b q o (fun z => ?_) e
  rw [z, h1] at e
  exact n _ (Option.some.inj e).symm
theorem St.lst {K : PySem.W.Frag} {H H' : Hp} {a : Addr} {xs : List V} (s : St H H') (h : SqL K H a xs) : SqL K H' a xs := by
  rcases h with (h | ⟨o, h⟩) | h
  · exact .inl (.inl (s _ _ (fun _ z => by cases z) h))
  · exact .inl (.inr ⟨o, s _ _ (fun _ z => by cases z) h⟩)
  · exact .inr h
theorem St.tup {K : PySem.W.Frag} {H H' : Hp} {a : Addr} {xs : List V} (s : St H H') (h : SqT K H a xs) : SqT K H' a xs := by
  rcases h with (h | ⟨o, h⟩) | h
  · exact .inl (.inl (s _ _ (fun _ z => by cases z) h))
  · exact .inl (.inr ⟨o, s _ _ (fun _ z => by cases z) h⟩)
  · exact .inr h
mutual
theorem Dp.st {K : PySem.W.Frag} {H H' : Hp} (s : St H H') : ∀ {v : V} {d : PyData}, Dp K H v d → Dp K H' v d
  | _, _, .non => .non
  | _, _, .bl b => .bl b
  | _, _, .int i => .int i
  | _, _, .str x => .str x
  | _, _, .lst h a => .lst (s.lst h) (DpAll.st s a)
  | _, _, .tup h a => .tup (s.tup h) (DpAll.st s a)
theorem DpAll.st {K : PySem.W.Frag} {H H' : Hp} (s : St H H') : ∀ {v : List V} {d : List PyData}, DpAll K H v d → DpAll K H' v d
  | _, _, .nil => .nil
  | _, _, .cons a b => .cons (Dp.st s a) (DpAll.st s b)
end
/-- a value of the menu -/
def MOk (K : PySem.W.Frag) (H : Hp) (v : V) : Prop := ∃ d, Dp K H v d ∧ PyData.showable d = true ∧ PyData.hasDict d = false ∧ d.depth ≤ 1 ∧ d.shown.length ≤ 400
theorem MOk.st {K : PySem.W.Frag} {H H' : Hp} {v : V} (s : St H H') (h : MOk K H v) : MOk K H' v := by
  obtain ⟨d, h1, h2⟩ := h
  exact ⟨d, Dp.st s h1, h2⟩
theorem mNon {K : PySem.W.Frag} {H : Hp} : MOk K H .non := ⟨.none, .non, by simp [PyData.showable], by simp [PyData.hasDict], by simp [PyData.depth], by simp only [PyData.shown]; decide +kernel⟩
theorem mTrue {K : PySem.W.Frag} {H : Hp} : MOk K H (.bl true) := ⟨.bool true, .bl true, by simp [PyData.showable], by simp [PyData.hasDict], by simp [PyData.depth], by simp only [PyData.shown]; decide +kernel⟩
theorem mInt {K : PySem.W.Frag} {H : Hp} {n : Nat} (h : n < 10 ^ 200) : MOk K H (.int (n : Int)) :=
  ⟨.int (n : Int), .int _, by simp only [PyData.showable]; exact decide_eq_true (log2_small (show (n : Int).natAbs < 10 ^ 200 from h)), by simp [PyData.hasDict], by simp [PyData.depth], by
    simp only [PyData.shown]
    show (Str.ofString (toString ((n : Nat) : Int))).length ≤ 400
    rw [SX.num_S n, SX.S_len]
    exact Nat.le_trans (TL.numL_len (by decide) h) (by decide)⟩
theorem mNeg {K : PySem.W.Frag} {H : Hp} {d : Int} (h0 : 0 ≤ d) (h1 : d < 9) : MOk K H (.int (-1 - d)) := by
  have e : d = 0 ∨ d = 1 ∨ d = 2 ∨ d = 3 ∨ d = 4 ∨ d = 5 ∨ d = 6 ∨ d = 7 ∨ d = 8 := by omega
  rcases e with rfl | rfl | rfl | rfl | rfl | rfl | rfl | rfl | rfl
  all_goals exact ⟨.int _, .int _, by decide +kernel, by decide +kernel, by decide +kernel, by decide +kernel⟩
theorem mStr {K : PySem.W.Frag} {H : Hp} {z : Str} (h1 : ∀ c ∈ z.cps.toList, c < 16 ^ 8) (h2 : z.length ≤ 30) : MOk K H (.str z) :=
  ⟨.str z, .str z, by simp [PyData.showable], by simp [PyData.hasDict], by simp [PyData.depth], by
    simp only [PyData.shown]
    have := StrLaws.reprText_len z h1
    omega⟩
theorem mPairI {K : PySem.W.Frag} {H : Hp} {t : Addr} (h : H t = some (.tup [.int 1, .int 2])) : MOk K H (.ref t) :=
  ⟨.tuple [.int 1, .int 2], .tup (SqT.of h) (.cons (.int 1) (.cons (.int 2) .nil)), by decide +kernel, by decide +kernel, by decide +kernel, by decide +kernel⟩
theorem mPairS {K : PySem.W.Frag} {H : Hp} {t : Addr} (h : H t = some (.tup [.str "b", .str "c"])) : MOk K H (.ref t) :=
  ⟨.tuple [.str "b", .str "c"], .tup (SqT.of h) (.cons (.str "b") (.cons (.str "c") .nil)), by decide +kernel, by decide +kernel, by decide +kernel, by decide +kernel⟩
theorem mOne {K : PySem.W.Frag} {H : Hp} {t : Addr} (h : H t = some (.lst [.int 3])) : MOk K H (.ref t) :=
  ⟨.list [.int 3], .lst (SqL.of h) (.cons (.int 3) .nil), by decide +kernel, by decide +kernel, by decide +kernel, by decide +kernel⟩

/-- several values of the menu, as data -/
theorem all_data {K : PySem.W.Frag} {H : Hp} : ∀ {vs : List V}, (∀ v ∈ vs, MOk K H v) → ∃ ds, DpAll K H vs ds ∧ PyData.showableAll ds = true ∧ PyData.hasDictAll ds = false ∧ PyData.depthAll ds ≤ 1 ∧ (∀ t ∈ PyData.shownAll ds, t.length ≤ 400) ∧ ds.length = vs.length
  | [], _ => ⟨[], .nil, rfl, rfl, by decide, fun t ht => absurd ht (by simp [PyData.shownAll]), rfl⟩
  | v :: r, h => by
    obtain ⟨d, a1, a2, a3, a4, a5⟩ := h v List.mem_cons_self
    obtain ⟨ds, b1, b2, b3, b4, b5, b6⟩ := all_data (vs := r) fun u hu => h u (List.mem_cons_of_mem _ hu)
    refine ⟨d :: ds, .cons a1 b1, by simp [PyData.showableAll, a2, b2], by simp [PyData.hasDictAll, a3, b3], ?_, fun t ht => ?_, by simp [b6]⟩
    · simp only [PyData.depthAll]
      omega
    · simp only [PyData.shownAll, List.mem_cons] at ht
      rcases ht with rfl | ht
      · exact a5
      · exact b5 t ht
theorem piled_le : ∀ {ts : List Str}, (∀ t ∈ ts, t.length ≤ 400) → piled ts ≤ 402 * ts.length
  | [], _ => by simp [piled_nil]
  | t :: r, h => by
    have h1 := h t List.mem_cons_self
    have h2 := piled_le (ts := r) fun u hu => h u (List.mem_cons_of_mem _ hu)
    rw [piled_cons, List.length_cons]
    omega
theorem shownAll_len : ∀ ds : List PyData, (PyData.shownAll ds).length = ds.length
  | [] => by simp [PyData.shownAll]
  | d :: r => by simp [PyData.shownAll, shownAll_len r]
theorem add_len (a b : Str) : (a ++ b).length = a.length + b.length := by
  have e := congrArg List.length (TL.tl_append a b)
  rw [List.length_append] at e
  exact e
theorem tupleText_len {ts : List Str} (h : ∀ t ∈ ts, t.length ≤ 400) : (tupleText ts).length ≤ 402 * ts.length + 10 := by
  unfold tupleText
  rw [add_len, add_len]
  have hp := piled_le h
  have h1 : ("(" : Str).length = 1 := by decide +kernel
  have h2 : (Str.ofString (if (ts.length == 1) = true then ",)" else ")")).length ≤ 2 := by
    split
    · decide +kernel
    · decide +kernel
  by_cases hn : ts = []
  · subst hn
    have : (Str.join ", " ([] : List Str)).length = 0 := by decide +kernel
    omega
  · have := join_length_add ts hn
    omega
/-- a tuple of values of the menu -/
theorem tup_data {K : PySem.W.Frag} {H : Hp} {F : Addr} {vs : List V} {ds : List PyData} (h : SqT K H F vs) (a : DpAll K H vs ds) (b2 : PyData.showableAll ds = true) (b3 : PyData.hasDictAll ds = false) (b4 : PyData.depthAll ds ≤ 1) (b5 : ∀ t ∈ PyData.shownAll ds, t.length ≤ 400) (hl : vs.length ≤ 20) (b6 : ds.length = vs.length) :
    Dp K H (.ref F) (.tuple ds) ∧ PyData.showable (.tuple ds) = true ∧ PyData.hasDict (.tuple ds) = false ∧ (PyData.tuple ds).depth ≤ 40 ∧ (PyData.tuple ds).shown.length ≤ sizeLine := by
  refine ⟨.tup h a, by simp only [PyData.showable]; exact b2, by simp only [PyData.hasDict]; exact b3, by simp only [PyData.depth]; omega, ?_⟩
  simp only [PyData.shown]
  have := tupleText_len b5
  rw [shownAll_len] at this
  rw [sizeLine_eq]
  omega
/-- a def that is called -/
structure Fx (P : Program) (w : World) (K : PySem.W.Frag) (mg : Str → Option Value) (base : Heap) (x : Str) (k : Nat) (ps : List Str) (sp : Sp) : Prop where
  ex : ∃ f fd, FnOk P w K mg base CX0 k f fd ps sp ∧ mg x = some (.ref f) ∧ PySem.W.keepIn K (.ref f) = true ∧ Binds K fd ps []
theorem pe_fx {X : Cx} {x : Str} {k : Nat} {ps : List Str} {sp : Sp} {e : Expr} {es : List Expr} {t : TA} {p pos : Pos} (G : Fx X.prog X.w X.K X.mg X.base x k ps sp) (hr : Room k X.A) (ha : PA X (e :: es) t) (hg : Gl X x := by rfl)
    (hdb : (x == ("__debug__" : Str)) = false := by decide) (he : starEach (e :: es) X.env = (false, eval e X.env) :: starEach es X.env := by rfl) (hpl : (backTo pos (starEach es X.env)).any (·.1) = false := by rfl) :
    PE X (.Call (.Name x p) (e :: es) [] pos) (tCall sp [] E0 t) := by
  obtain ⟨f, fd, h1, h2, h3, h4⟩ := G.ex
  exact pe_call h1 hr hg h2 h3 h4 .nil pass0 ha hdb he hpl
end Z
set_option Elab.async false
set_option linter.all false
set_option maxRecDepth 100000
namespace Z
open PySem L2 PyProof.Rows
/-! rows of digits in a text -/
def isD (c : Nat) : Bool := decide (48 ≤ c) && decide (c ≤ 57)
theorem isD_iff {c : Nat} : isD c = true ↔ 48 ≤ c ∧ c ≤ 57 := by
  unfold isD
  rw [Bool.and_eq_true, decide_eq_true_eq, decide_eq_true_eq]
def dend (cs : List Nat) (a : Nat) : Nat := a + ((cs.drop a).takeWhile isD).length
theorem dend_ge (cs : List Nat) (a : Nat) : a ≤ dend cs a := Nat.le_add_right _ _
theorem dend_le {cs : List Nat} {a : Nat} (h : a ≤ cs.length) : dend cs a ≤ cs.length := by
  unfold dend
  have h1 := List.takeWhile_prefix (p := isD) (l := cs.drop a)
  have h2 := h1.length_le
  rw [List.length_drop] at h2
  omega
theorem drop_at {cs : List Nat} {a c : Nat} (h : cs[a]? = some c) : cs.drop a = c :: cs.drop (a + 1) := by
  obtain ⟨h1, h2⟩ := List.getElem?_eq_some_iff.mp h
  rw [List.drop_eq_getElem_cons h1, h2]
theorem dend_yes {cs : List Nat} {a c : Nat} (h : cs[a]? = some c) (hd : isD c = true) : dend cs a = dend cs (a + 1) := by
  unfold dend
  rw [drop_at h, List.takeWhile_cons, if_pos hd, List.length_cons]
  omega
theorem dend_no {cs : List Nat} {a c : Nat} (h : cs[a]? = some c) (hd : isD c = false) : dend cs a = a := by
  unfold dend
  rw [drop_at h, List.takeWhile_cons, if_neg (by rw [hd]; exact Bool.false_ne_true)]
  rfl
theorem dend_out {cs : List Nat} {a : Nat} (h : cs.length ≤ a) : dend cs a = a := by
  unfold dend
  rw [List.drop_eq_nil_of_le h]
  rfl
/-- the digits from a on -/
def digs (cs : List Nat) (a : Nat) : List Nat := (cs.drop a).takeWhile isD
theorem digs_slice (cs : List Nat) (a : Nat) : (cs.drop a).take (dend cs a - a) = digs cs a := by
  have e : dend cs a - a = (digs cs a).length := by
    unfold dend digs
    omega
  rw [e]
  exact (List.prefix_iff_eq_take.mp (List.takeWhile_prefix (p := isD) (l := cs.drop a))).symm
theorem mem_tw {p : Nat → Bool} : ∀ {l : List Nat} {c : Nat}, c ∈ l.takeWhile p → p c = true
  | [], _, h => by simp at h
  | x :: r, c, h => by
    by_cases hx : p x = true
    · rw [List.takeWhile_cons, if_pos hx] at h
      rcases List.mem_cons.mp h with rfl | h
      · exact hx
      · exact mem_tw h
    · rw [List.takeWhile_cons, if_neg hx] at h
      simp at h
theorem digs_all (cs : List Nat) (a : Nat) : NumText.AllDigits (digs cs a) := fun c hc => isD_iff.mp (mem_tw hc)
theorem digs_len (cs : List Nat) (a : Nat) : (digs cs a).length ≤ cs.length := by
  have h2 := (List.takeWhile_prefix (p := isD) (l := cs.drop a)).length_le
  rw [List.length_drop] at h2
  unfold digs
  omega
theorem digs_ne {cs : List Nat} {a : Nat} (h : dend cs a ≠ a) : digs cs a ≠ [] := fun z => h (by
  unfold dend
  unfold digs at z
  rw [z]
  rfl)
abbrev dval (cs : List Nat) (a : Nat) : Nat := NumText.digitsVal (digs cs a)
inductive Res where
  | col (n : Nat) | pair (a b : Int)
def first (cs : List Nat) : Nat := if cs.head? = some 45 then 1 else 0
def sg (f : Nat) (n : Nat) : Int := if f = 1 then -(n : Int) else (n : Int)
def low (t : Int) (b : Nat) : Res := .pair (t / ((Nat.gcd t.natAbs b : Nat) : Int)) ((b : Int) / ((Nat.gcd t.natAbs b : Nat) : Int))
/-- what a text tells -/
def due (cs : List Nat) : Res :=
  let f := first cs
  let m := dend cs f
  if m = f then .col (f + 1)
  else if m = cs.length then .pair (sg f (dval cs f)) 1
  else if cs[m]? ≠ some 47 then .col (m + 1)
  else
    let e := dend cs (m + 1)
    if e = m + 1 then .col (m + 2)
    else if e < cs.length then .col (e + 1)
    else if dval cs (m + 1) = 0 then .col (m + 2)
    else low (sg f (dval cs f)) (dval cs (m + 1))
def resD : Res → PyData
  | .col n => .tuple [.str "text", .int (n : Int)]
  | .pair a b => .tuple [.str "ratio", .tuple [.int a, .int b]]
/-- one sign between two digits -/
theorem le_one (a b : Nat) : (!decide (([b] : List Nat) < [a])) = decide (a ≤ b) := by
  by_cases h : a ≤ b
  · rw [decide_eq_true h]
    have : ¬ ([b] : List Nat) < [a] := fun z => by
      cases z with
      | rel z => omega
      | cons z => cases z
    rw [decide_eq_false this]
    rfl
  · rw [decide_eq_false h]
    have : ([b] : List Nat) < [a] := .rel (by omega)
    rw [decide_eq_true this]
    rfl
theorem dval_lt {cs : List Nat} {a : Nat} (h : cs.length ≤ 190) : dval cs a < 10 ^ 200 := by
  have h1 := digitsVal_lt (digs_all cs a)
  exact Nat.lt_of_lt_of_le h1 (Nat.pow_le_pow_right (by decide) (by have := digs_len cs a; omega))
end Z
set_option Elab.async false
set_option linter.all false
set_option maxRecDepth 100000
set_option maxHeartbeats 2000000
namespace Z
open PySem L2 PyProof.Rows
/-! raising an error that keeps its arguments -/
/-- what is wished of a raised error of the class at C whose fields are told -/
def Rz (H : Hp) (E : XK) (C : Addr) (fs : List (Str × V)) : Prop := ∀ (d : Addr) (H' : Hp), H d = none → Same H H' → H' d = some (.xd fs) → E (.ref C) (some d) H'
theorem rz_in {P : Program} {w : World} {K : PySem.W.Frag} {mg : Str → Option Value} {base : Heap} {x : Str} {C : Addr} {ps fs : List Str} (M : MkE P w K mg base x C ps fs) {H1 : Hp} {xs : List V} {Q : XK} (hl : xs.length = fs.length)
    (k : Rz H1 Q C (fs.zip xs).reverse) : ∀ a, H1 a = none → spI K fs (.ref a :: (xs ++ [])) (upd H1 a (exo a C none))
      (fun v H2 => v = .non ∧ ∃ (d : Addr) (gs : List (Str × V)), H2 a = some (exo a C (some d)) ∧ H2 d = some (exd d gs) ∧ H1 d = none ∧ Q (.ref C) (some d) (upd (del H2 a) d (.xd gs))) (fun _ _ _ => False) := by
  intro a ha
  refine ⟨a, C, xs, by rw [List.append_nil], hl, M.xc.oe, M.no, upd_same, fun dx H2 hdx ne hA hD hk => ⟨rfl, dx, _, hA, hD, ?_, ?_⟩⟩
  · rw [upd_ne ne] at hdx
    exact hdx
  · have h1 : H1 dx = none := by
      rw [upd_ne ne] at hdx
      exact hdx
    refine k dx _ h1 (fun b o e => ?_) upd_same
    have nba : b ≠ a := ne_of_none e ha
    rw [upd_ne (ne_of_none e h1), del_ne nba]
    exact hk b o nba (by rw [upd_ne nba]; exact e)
theorem pmk_E {X : Cx} {x : Str} {C : Addr} {ps fs : List Str} {e : Expr} {es : List Expr} {ta : TA} {p pos : Pos} (M : MkE X.prog X.w X.K X.mg X.base x C ps fs) (room : Room 2 X.A) (ha : PA X (e :: es) ta) (hg : Gl X x := by rfl)
    (hdb : (x == ("__debug__" : Str)) = false := by decide) (he : starEach (e :: es) X.env = (false, eval e X.env) :: starEach es X.env := by rfl) (hpl : (backTo pos (starEach es X.env)).any (·.1) = false := by rfl) :
    PMk X (.Call (.Name x p) (e :: es) [] pos) (tMkO C (spI X.K fs) [] ta) := by
  obtain ⟨fI, fd, h1, h2, h3, h4⟩ := M.ini
  exact pmk_oex M.xc.oe h1 h2 h3 room h4 .nil (pass0 (X := X)) hg M.g ha hdb he hpl
abbrev s_is_whole : Stmt := topS 6
theorem sc_is_whole : FnScope ["value"] ["value"] (defScope s_is_whole) := ⟨rfl, rfl, rfl, by decide +kernel, rfl, by decide +kernel, by decide +kernel⟩
abbrev s_end_of_digits : Stmt := topS 13
theorem sc_end_of_digits : FnScope ["text", "start", "end"] ["text", "start"] (defScope s_end_of_digits) := ⟨rfl, rfl, rfl, by decide +kernel, rfl, by decide +kernel, by decide +kernel⟩
abbrev s_number_of : Stmt := topS 14
theorem sc_number_of : FnScope ["digits", "number", "digit"] ["digits"] (defScope s_number_of) := ⟨rfl, rfl, rfl, by decide +kernel, rfl, by decide +kernel, by decide +kernel⟩
/-- a value of a known built-in type -/
def spWhole (K : PySem.W.Frag) : Sp := fun vs H Q _ => ∃ (v : V) (T : String) (b1 b2 : Bool), vs = [v] ∧ TyX K H v (.type T) ∧ kitB T "int" = some b1 ∧ kitB T "bool" = some b2 ∧ Q (.bl (b1 && !b2)) H
def spEod (CT : Addr) : Sp := fun vs H Q E => ∃ (cs : List Nat) (a : Nat), vs = [.str (SX.S cs), .int (a : Int)] ∧ cs.length ≤ 1000 ∧ a ≤ cs.length ∧
  (dend cs a = a → Rz H E CT [("column", .int ((a : Int) + 1)), ("line", .int 1)]) ∧ (dend cs a ≠ a → Q (.int ((dend cs a : Nat) : Int)) H)
def spNum : Sp := fun vs H Q _ => ∃ ds : List Nat, vs = [.str (SX.S ds)] ∧ NumText.AllDigits ds ∧ ds.length ≤ 300 ∧ Q (.int ((NumText.digitsVal ds : Nat) : Int)) H
theorem le0 (c : Nat) : (!decide ((⟨#[c]⟩ : Str).cps.toList < (Str.ofString "0").cps.toList)) = decide (48 ≤ c) := by
  rw [show (Str.ofString "0").cps.toList = [48] by decide +kernel]
  exact le_one 48 c
theorem le9 (c : Nat) : (!decide ((Str.ofString "9").cps.toList < (⟨#[c]⟩ : Str).cps.toList)) = decide (c ≤ 57) := by
  rw [show (Str.ofString "9").cps.toList = [57] by decide +kernel]
  exact le_one c 57
section
variable {P : Program} {w : World} {K : PySem.W.Frag} {mg : Str → Option Value} {base : Heap}
theorem ok_is_whole {f : Addr} {fd : FuncData} (F : Fun K "is_whole" "is_whole" s_is_whole f fd) (bI : mg "isinstance" = none) (bi : mg "int" = none) (bb : mg "bool" = none) : FnOk P w K mg base CX0 1 f fd ["value"] (spWhole K) := by
  refine F.ok sc_is_whole (fun vs H Q E h => ?_) (fun cdv A outer s H vs Q E hr h => ?_)
  · obtain ⟨v, T, b1, b2, rfl, _⟩ := h
    rfl
  · obtain ⟨v, T, b1, b2, rfl, ty, k1, k2, k⟩ := h
    refine ⟨_, (pss_one (ps_ret (pe_and (pe_callB call_isi (by rfl) bI (by decide +kernel) (pa_cons (pv 0) (pa_cons (pe_bltn (v := .ty "int") (by rfl) bi PySem.Pv.boot_int rfl) pa_nil))) (pe_one (pe_not (pe_callB call_isi (by rfl) bI (by decide +kernel) (pa_cons (pv 0) (pa_cons (pe_bltn (v := .ty "bool") (by rfl) bb PySem.Pv.boot_bool rfl) pa_nil)))))))), ?_⟩
    refine ⟨_, rfl, v, .ty "int", _, _, b1, rfl, .ty _, ty, kit_ty k1, b1, rfl, ?_⟩
    cases b1 with
    | false => exact iteF k
    | true =>
      refine iteT ?_
      refine ⟨_, rfl, v, .ty "bool", _, _, b2, rfl, .ty _, ty, kit_ty k2, b2, rfl, ?_⟩
      exact k
theorem ok_end_of_digits {f CT : Addr} {fd : FuncData} (F : Fun K "end_of_digits" "end_of_digits" s_end_of_digits f fd) (M : MkE P w K mg base "BadText" CT ["self", "line", "column"] ["line", "column"]) (bn : mg "len" = none) :
    FnOk P w K mg base (L2.CX P w) 3 f fd ["text", "start"] (spEod CT) := by
  refine F.okX sc_end_of_digits (fun vs H Q E h => ?_) (fun cdv A outer s H vs Q E hr h => ?_)
  · obtain ⟨cs, a, rfl, _⟩ := h
    rfl
  · obtain ⟨cs, a, rfl, hl, ha, kE, kQ⟩ := h
    refine ⟨_, (pss_cons (ps_set (i := 2) sc_end_of_digits.nd rfl (Or.inl rfl) (pv 1))
      (C8.pss_cut (ps_while (passes_of rfl) (PW.pt (pw_and (pt_cmpR op_lt (pv 2) (pe_callB call_len (by rfl) bn (by decide +kernel) (pa_cons (pv 0) pa_nil)) (nomark _)) (pw_and1 (pt_chain op_le_str op_le_str pe_str (pe_ix ix_str (pv 0) (pv 2) (fun _ _ => rfl)) pe_str))))
        (pss_one (ps_aug (i := 2) sc_end_of_digits.nd rfl (Or.inl rfl) pe_int ip_add)))
      (pss_cons (ps_if (pt_cmpR op_eq (pv 2) (pv 1) (nomark _))
        (pss_one (ps_raise rfl (takes_of rfl rfl rfl rfl) (pmk_E M hr (pa_cons pe_int (pa_cons (pe_op op_add (pv 1) pe_int) pa_nil)))))
        pss_nil)
      (pss_one (ps_ret (pv 2)))))), ?_⟩
    refine ⟨_, rfl, ?_⟩
    refine ⟨fun σ' H' => σ' = [some (.str (SX.S cs)), some (.int (a : Int)), some (.int ((dend cs a : Nat) : Int))] ∧ H' = H, ?_, ?_⟩
    · refine ⟨fun m σ H2 => ∃ e : Nat, σ = [some (.str (SX.S cs)), some (.int (a : Int)), some (.int (e : Int))] ∧ H2 = H ∧ a ≤ e ∧ e ≤ cs.length ∧ dend cs e = dend cs a ∧ m = cs.length - e, ⟨_, a, rfl, rfl, Nat.le_refl _, ha, rfl, rfl⟩, ?_⟩
      rintro m σ H2 ⟨e, rfl, rfl, h1, h2, h3, rfl⟩
      refine ⟨_, rfl, _, rfl, .str (SX.S cs), cs.length, rfl, ⟨by rw [SX.S_len, sizeLine_eq]; omega, by rw [SX.S_len]⟩, _, _, rfl, rfl, _, rfl, ?_⟩
      refine ite2 (fun hlt => ?_) (fun hge => ?_)
      · have hlt := of_decide_eq_true hlt
        have hlt' : e < cs.length := by omega
        have hc : cs[e]? = some cs[e] := List.getElem?_eq_getElem hlt'
        refine ⟨_, rfl, _, rfl, SX.S cs, _, cs[e], rfl, rfl, by rw [SX.S_len, sizeLine_eq]; omega, atI_nat hc, _, _, rfl, rfl, decide (48 ≤ cs[e]), congrArg V.bl (le0 _), ?_⟩
        by_cases h48 : 48 ≤ cs[e]
        · rw [decide_eq_true h48]
          refine ⟨_, _, rfl, rfl, decide (cs[e] ≤ 57), congrArg V.bl (le9 _), ?_⟩
          by_cases h57 : cs[e] ≤ 57
          · rw [decide_eq_true h57]
            have hd : isD cs[e] = true := isD_iff.mpr ⟨h48, h57⟩
            refine ⟨fun σ' H' => σ' = [some (.str (SX.S cs)), some (.int (a : Int)), some (.int ((e + 1 : Nat) : Int))] ∧ H' = H2, fun σ' H' ⟨z1, z2⟩ => ⟨cs.length - (e + 1), by omega, e + 1, z1, z2, by omega, hlt', (dend_yes hc hd).symm.trans h3, rfl⟩, ?_⟩
            exact ⟨_, rfl, _, _, rfl, rfl, rfl, rfl⟩
          · rw [decide_eq_false h57]
            have hd : isD cs[e] = false := Bool.eq_false_iff.mpr fun z => h57 (isD_iff.mp z).2
            have he : dend cs a = e := by rw [← h3, dend_no hc hd]
            refine ⟨?_, rfl⟩
            rw [he]
        · rw [decide_eq_false h48]
          have hd : isD cs[e] = false := Bool.eq_false_iff.mpr fun z => h48 (isD_iff.mp z).1
          have he : dend cs a = e := by rw [← h3, dend_no hc hd]
          refine ⟨_, rfl, ?_, rfl⟩
          rw [he]
      · have hge : ¬ ((e : Int) < ((cs.length : Nat) : Int)) := fun z => hge (decide_eq_true z)
        have he : dend cs a = e := by rw [← h3, dend_out (by omega)]
        refine iteF ⟨?_, rfl⟩
        rw [he]
    · rintro σ' H' ⟨rfl, rfl⟩
      refine ⟨_, rfl, _, rfl, rfl, _, rfl, ?_⟩
      refine ite2 (fun he => ?_) (fun he => ?_)
      · have he := V.int.inj (of_decide_eq_true he)
        refine ⟨_, rfl, _, _, rfl, rfl, (by show 2 ≤ 1000; decide), rz_in M rfl ?_⟩
        exact kE (by omega)
      · refine ⟨_, rfl, kQ fun z => he (decide_eq_true ?_)⟩
        rw [z]
theorem ok_number_of {f : Addr} {fd : FuncData} (F : Fun K "number_of" "number_of" s_number_of f fd) (bi : mg "int" = none) : FnOk P w K mg base CX0 1 f fd ["digits"] spNum := by
  refine F.ok sc_number_of (fun vs H Q E h => ?_) (fun cdv A outer s H vs Q E hr h => ?_)
  · obtain ⟨ds, rfl, _⟩ := h
    rfl
  · obtain ⟨ds, rfl, hd, hl, k⟩ := h
    refine ⟨_, (pss_cons (ps_set (i := 1) sc_number_of.nd rfl (Or.inl rfl) pe_int)
      (pss_cons (ps_for PassesOwn.never rfl (pi_str (pv 0)) (pg_name (i := 2) sc_number_of.nd rfl (Or.inl rfl))
        (pss_one (ps_set (i := 1) sc_number_of.nd rfl (Or.inl rfl) (pe_op op_add (pe_op op_mul (pv 1) pe_int) (pe_callTy call_int_str (by rfl) bi (by decide +kernel) (pa_cons (pv 2) pa_nil))))))
      (pss_one (ps_ret (pv 1))))), ?_⟩
    refine ⟨_, rfl, SX.S ds, rfl, ?_⟩
    refine ⟨fun i m σ H2 => ∃ v : Option V, σ = [some (.str (SX.S ds)), some (.int ((NumText.digitsVal (ds.take i) : Nat) : Int)), v] ∧ H2 = H ∧ i ≤ ds.length ∧ m = ds.length - i, ⟨_, none, rfl, rfl, Nat.zero_le _, rfl⟩, ?_⟩
    rintro i m σ H2 ⟨v, rfl, rfl, hi, rfl⟩
    have sz : (SX.S ds).cps.size = ds.length := SX.S_len ds
    by_cases hlt : i < ds.length
    · have hc : ds[i]? = some ds[i] := List.getElem?_eq_getElem hlt
      have hc2 : (SX.S ds).cps[i]? = some ds[i] := by
        show ds.toArray[i]? = _
        rw [List.getElem?_toArray]
        exact hc
      refine .inr ⟨by show i < (SX.S ds).cps.size; omega, fun σ' H' => ∃ v : Option V, σ' = [some (.str (SX.S ds)), some (.int ((NumText.digitsVal (ds.take (i + 1)) : Nat) : Int)), v] ∧ H' = H2, fun σ' H' ⟨v', e1, e2⟩ => ⟨ds.length - (i + 1), by omega, v', e1, e2, hlt, rfl⟩, ?_⟩
      rintro x H' ⟨rfl, c, ec, rfl⟩
      cases hc2.symm.trans ec
      have hdc := hd ds[i] (List.getElem_mem hlt)
      have one : PySem.intText? (SX.S [ds[i]]) = some ((ds[i] - 48 : Nat) : Int) := by
        have e := SX.int_S (a := [ds[i]]) (by simp [hdc.1, hdc.2]) (by simp) (by simp)
        rw [e]
        congr 2
        show 0 * 10 + (ds[i] - 48) = _
        omega
      refine ⟨_, rfl, _, _, rfl, rfl, .inr ⟨by decide, by decide⟩, _, rfl, SX.S [ds[i]], _, rfl, one, (by show 1 ≤ 640; decide), _, _, rfl, rfl, ?_⟩
      refine ⟨some (.str (SX.S [ds[i]])), ?_, rfl⟩
      have e : NumText.digitsVal (ds.take (i + 1)) = NumText.digitsVal (ds.take i) * 10 + (ds[i] - 48) := by
        rw [← NumText.digitsVal_snoc]
        congr 1
        rw [List.take_add_one, hc]
        rfl
      rw [e]
      show [some (V.str (SX.S ds)), some (V.int (((NumText.digitsVal (ds.take i) : Nat) : Int) * 10 + ((ds[i] - 48 : Nat) : Int))), some (V.str (SX.S [ds[i]]))] = _
      congr 4
    · refine .inl ⟨by show (SX.S ds).cps.size ≤ i; omega, ?_⟩
      rw [List.take_of_length_le (by omega)]
      exact ⟨_, rfl, k⟩
end
end Z
set_option Elab.async false
set_option linter.all false
set_option maxRecDepth 100000
set_option maxHeartbeats 2000000
namespace Z
open PySem L2 PyProof.Rows
theorem starts_minus (cs : List Nat) : Txt.startswith (SX.S cs) "-" = decide (cs.head? = some 45) := by
  unfold Txt.startswith
  rw [StrLaws.subAt_eq]
  have e : (Str.ofString "-").cps.toList = [45] := by decide +kernel
  have el : (Str.ofString "-").length = 1 := by decide +kernel
  cases cs with
  | nil => rfl
  | cons c r =>
    rw [e, el, SX.S_len]
    show (decide (0 + 1 ≤ (c :: r).length) && (((c :: r).drop 0).take ([45] : List Nat).length == [45])) = decide (some c = some 45)
    rw [decide_eq_true (by simp), Bool.true_and]
    by_cases h : c = 45
    · subst h
      simp
    · simp [h]
abbrev s_is_ratio : Stmt := topS 10
theorem sc_is_ratio : FnScope ["value"] ["value"] (defScope s_is_ratio) := ⟨rfl, rfl, rfl, by decide +kernel, rfl, by decide +kernel, by decide +kernel⟩
abbrev s_lowest : Stmt := topS 11
theorem sc_lowest : FnScope ["ratio", "top", "bottom", "shared"] ["ratio"] (defScope s_lowest) := ⟨rfl, rfl, rfl, by decide +kernel, rfl, by decide +kernel, by decide +kernel⟩
abbrev s_ratio_of : Stmt := topS 12
theorem sc_ratio_of : FnScope ["text", "start", "slash", "top", "end", "bottom"] ["text"] (defScope s_ratio_of) := ⟨rfl, rfl, rfl, by decide +kernel, rfl, by decide +kernel, by decide +kernel⟩
theorem first_le (cs : List Nat) : first cs ≤ cs.length := by
  unfold first
  split
  · rename_i h
    cases cs with
    | nil => cases h
    | cons c r => exact Nat.succ_le_succ (Nat.zero_le _)
  · exact Nat.zero_le _
theorem cut_digs {cs : List Nat} {a : Nat} (h : a ≤ cs.length) : cutS (SX.S cs) (some (a : Int)) (some ((dend cs a : Nat) : Int)) = SX.S (digs cs a) := by
  unfold cutS
  rw [SX.S_len, HT.sIx_nat, HT.sIx_nat, Nat.min_eq_left h, Nat.min_eq_left (dend_le h)]
  show (⟨((cs.drop a).take (dend cs a - a)).toArray⟩ : Str) = SX.S (digs cs a)
  rw [digs_slice]
theorem slash_eq (c : Nat) : decide (V.str (⟨#[c]⟩ : Str) = V.str (Str.ofString "/")) = decide (c = 47) := by
  have e : Str.ofString "/" = ⟨#[47]⟩ := by decide +kernel
  rw [e]
  by_cases h : c = 47
  · subst h
    rw [decide_eq_true rfl, decide_eq_true rfl]
  · rw [decide_eq_false h, decide_eq_false]
    intro z
    have z2 := congrArg (fun x : Str => x.cps.toList) (V.str.inj z)
    exact h (List.cons.inj z2).1
/-- values that may be asked whether they are ratios -/
inductive RatV (K : PySem.W.Frag) (H : Hp) : V → Bool → Prop where
  | oth {v : V} {T : String} {b1 b2 : Bool} (ty : TyX K H v (.type T)) (k0 : kitB T "tuple" = some false) (k1 : kitB T "int" = some b1) (k2 : kitB T "bool" = some b2) : RatV K H v (b1 && !b2)
  | len {a : Addr} {xs : List V} (h : H a = some (.tup xs)) (hl : xs.length ≠ 2) (h9 : xs.length ≤ 1000) : RatV K H (.ref a) false
  | two {a : Addr} {i j : Int} (h : H a = some (.tup [.int i, .int j])) : RatV K H (.ref a) (decide (0 < j))
  | bl {a : Addr} {i : Int} {k : Bool} (h : H a = some (.tup [.int i, .bl k])) : RatV K H (.ref a) false
/-- an integer or a pair, as top and bottom -/
inductive PairV (H : Hp) : V → Int → Nat → Prop where
  | int (i : Int) : PairV H (.int i) i 1
  | two {a : Addr} {i : Int} {j : Nat} (h : H a = some (.tup [.int i, .int (j : Int)])) (hj : 0 < j) : PairV H (.ref a) i j
def spRat (K : PySem.W.Frag) : Sp := fun vs H Q _ => ∃ (v : V) (r : Bool), vs = [v] ∧ RatV K H v r ∧ Q (.bl r) H
/-- the top and the bottom in lowest terms -/
def lowT (t : Int) (b : Nat) : Int := t / ((Nat.gcd t.natAbs b : Nat) : Int)
def lowB (t : Int) (b : Nat) : Int := (b : Int) / ((Nat.gcd t.natAbs b : Nat) : Int)
def spLow : Sp := fun vs H Q _ => ∃ (v : V) (t : Int) (b : Nat), vs = [v] ∧ PairV H v t b ∧ b < 2 ^ 8000 ∧ ∀ (p : Addr) (H' : Hp), H p = none → Same H H' → H' p = some (.tup [.int (lowT t b), .int (lowB t b)]) → Q (.ref p) H'
def spRof (K : PySem.W.Frag) (CT : Addr) : Sp := fun vs H Q E => ∃ v : V, vs = [v] ∧
  ((∃ T, TyX K H v (.type T) ∧ kitB T "str" = some false ∧ Rz H E CT [("column", .int 0), ("line", .int 0)]) ∨
    ∃ cs : List Nat, v = .str (SX.S cs) ∧ cs.length ≤ 190 ∧ (∀ n : Nat, due cs = .col n → Rz H E CT [("column", .int (n : Int)), ("line", .int 1)]) ∧
      ∀ (x y : Int) (p : Addr) (H' : Hp), due cs = .pair x y → H p = none → Same H H' → H' p = some (.tup [.int x, .int y]) → Q (.ref p) H')
section
variable {P : Program} {w : World} {K : PySem.W.Frag} {mg : Str → Option Value} {base : Heap}
theorem ok_is_ratio {f : Addr} {fd : FuncData} (F : Fun K "is_ratio" "is_ratio" s_is_ratio f fd) (bI : mg "isinstance" = none) (bt : mg "tuple" = none) (bn : mg "len" = none) (W : Fx P w K mg base "is_whole" 1 ["value"] (spWhole K)) :
    FnOk P w K mg base CX0 2 f fd ["value"] (spRat K) := by
  refine F.ok sc_is_ratio (fun vs H Q E h => ?_) (fun cdv A outer s H vs Q E hr h => ?_)
  · obtain ⟨v, r, rfl, _⟩ := h
    rfl
  · obtain ⟨v, r, rfl, hv, k⟩ := h
    refine ⟨_, (pss_cons (ps_if (pt_not (pt_val (pe_callB call_isi (by rfl) bI (by decide +kernel) (pa_cons (pv 0) (pa_cons (pe_bltn (v := .ty "tuple") (by rfl) bt PySem.Pv.boot_tuple rfl) pa_nil)))))
        (pss_one (ps_ret (pe_fx W hr (pa_cons (pv 0) pa_nil))))
        pss_nil)
      (pss_one (ps_ret (pe_and (pe_cmpR op_eq (pe_callB call_len (by rfl) bn (by decide +kernel) (pa_cons (pv 0) pa_nil)) pe_int (nomark _)) (pe_and (pe_fx W hr (pa_cons (pe_ix ix_tup (pv 0) pe_int (fun _ _ => rfl)) pa_nil)) (pe_and (pe_fx W hr (pa_cons (pe_ix ix_tup (pv 0) pe_int (fun _ _ => rfl)) pa_nil)) (pe_one (pe_cmpR op_gt (pe_ix ix_tup (pv 0) pe_int (fun _ _ => rfl)) pe_int (nomark _))))))))), ?_⟩
    cases hv with
    | oth ty k0 k1 k2 =>
      refine ⟨_, rfl, v, .ty "tuple", _, _, false, rfl, .ty _, ty, kit_ty k0, _, rfl, if_t rfl ?_⟩
      exact ⟨_, rfl, _, _, _, _, rfl, ty, k1, k2, k⟩
    | len h hl h9 =>
      refine ⟨_, rfl, _, .ty "tuple", _, _, true, rfl, .ty _, .base (.tup h), kit_ty (by decide +kernel), _, rfl, if_f rfl ?_⟩
      refine ⟨_, rfl, _, _, rfl, .inr ⟨_, SqT.of h, rfl⟩, rfl, _, rfl, ?_⟩
      refine if_f (decide_eq_false fun z => hl ?_) k
      have := V.int.inj z
      omega
    | two h =>
      refine ⟨_, rfl, _, .ty "tuple", _, _, true, rfl, .ty _, .base (.tup h), kit_ty (by decide +kernel), _, rfl, if_f rfl ?_⟩
      refine ⟨_, rfl, _, _, rfl, .inr ⟨_, SqT.of h, rfl⟩, rfl, _, rfl, if_t (decide_eq_true rfl) ?_⟩
      refine ⟨_, rfl, _, _, _, _, rfl, rfl, SqT.of h, atI_nat (j := 0) rfl, _, "int", true, false, rfl, .base (.int _), by decide +kernel, by decide +kernel, _, rfl, if_t rfl ?_⟩
      refine ⟨_, rfl, _, _, _, _, rfl, rfl, SqT.of h, atI_nat (j := 1) rfl, _, "int", true, false, rfl, .base (.int _), by decide +kernel, by decide +kernel, _, rfl, if_t rfl ?_⟩
      exact ⟨_, rfl, _, _, _, _, rfl, rfl, SqT.of h, atI_nat (j := 1) rfl, _, _, rfl, rfl, k⟩
    | bl h =>
      refine ⟨_, rfl, _, .ty "tuple", _, _, true, rfl, .ty _, .base (.tup h), kit_ty (by decide +kernel), _, rfl, if_f rfl ?_⟩
      refine ⟨_, rfl, _, _, rfl, .inr ⟨_, SqT.of h, rfl⟩, rfl, _, rfl, if_t (decide_eq_true rfl) ?_⟩
      refine ⟨_, rfl, _, _, _, _, rfl, rfl, SqT.of h, atI_nat (j := 0) rfl, _, "int", true, false, rfl, .base (.int _), by decide +kernel, by decide +kernel, _, rfl, if_t rfl ?_⟩
      refine ⟨_, rfl, _, _, _, _, rfl, rfl, SqT.of h, atI_nat (j := 1) rfl, _, "bool", true, true, rfl, .base (.bl _), by decide +kernel, by decide +kernel, _, rfl, if_f rfl k⟩
theorem ok_lowest {f : Addr} {fd : FuncData} (F : Fun K "lowest" "lowest" s_lowest f fd) (bI : mg "isinstance" = none) (bt : mg "tuple" = none) (gg : mg "gcd" = some (.builtin "math.gcd")) :
    FnOk P w K mg base CX0 1 f fd ["ratio"] spLow := by
  refine F.ok sc_lowest (fun vs H Q E h => ?_) (fun cdv A outer s H vs Q E hr h => ?_)
  · obtain ⟨v, t, b, rfl, _⟩ := h
    rfl
  · obtain ⟨v, t, b, rfl, hv, hb, k⟩ := h
    refine ⟨_, (pss_cons (ps_if (pt_not (pt_val (pe_callB call_isi (by rfl) bI (by decide +kernel) (pa_cons (pv 0) (pa_cons (pe_bltn (v := .ty "tuple") (by rfl) bt PySem.Pv.boot_tuple rfl) pa_nil)))))
        (pss_one (ps_ret (pe_tup (pa_cons (pv 0) (pa_cons pe_int pa_nil)))))
        pss_nil)
      (pss_cons (ps_asg (pv 0) (pg_tup rfl (pgs_cons (pg_name (i := 1) sc_lowest.nd rfl (Or.inl rfl)) (pgs_cons (pg_name (i := 2) sc_lowest.nd rfl (Or.inl rfl)) pgs_nil))))
      (pss_cons (ps_set (i := 3) sc_lowest.nd rfl (Or.inl rfl) (pe_callBfun cr_gcd (by rfl) gg (pa_cons (pv 1) (pa_cons (pv 2) pa_nil))))
      (pss_one (ps_ret (pe_tup (pa_cons (pe_op op_fdivW (pv 1) (pv 3)) (pa_cons (pe_op op_fdivW (pv 2) (pv 3)) pa_nil)))))))), ?_⟩
    cases hv with
    | int =>
      refine ⟨_, rfl, _, .ty "tuple", _, _, false, rfl, .ty _, .base (.int _), kit_ty (by decide +kernel), _, rfl, if_t rfl ?_⟩
      refine ⟨_, rfl, (by show 2 ≤ sizeLine; rw [sizeLine_eq]; decide), fun p hp => k p _ hp (same_new hp) ?_⟩
      rw [upd_same]
      unfold lowT lowB
      rw [Nat.gcd_one_right]
      simp
    | two h hj =>
      refine ⟨_, rfl, _, .ty "tuple", _, _, true, rfl, .ty _, .base (.tup h), kit_ty (by decide +kernel), _, rfl, if_f rfl ?_⟩
      refine ⟨_, rfl, _, _, rfl, SqT.of h, rfl, _, _, rfl, _, _, rfl, rfl, ?_⟩
      refine ⟨_, rfl, _, rfl, _, _, rfl, ?_⟩
      have e : (Nat.gcd t.natAbs ((b : Int)).natAbs : Nat) = Nat.gcd t.natAbs b := rfl
      rw [e]
      have g0 : 0 < Nat.gcd t.natAbs b := Nat.gcd_pos_of_pos_right _ hj
      have g1 : Nat.gcd t.natAbs b < 2 ^ 8000 := Nat.lt_of_le_of_lt (Nat.gcd_le_right _ hj) hb
      have cd : ∀ i : Int, CDivW i ((Nat.gcd t.natAbs b : Nat) : Int) := fun i => wide_div (b := 8000) (by omega) (by rw [Int.natAbs_natCast]; exact g1) (by decide) (by decide)
      refine ⟨_, rfl, _, rfl, _, _, rfl, rfl, cd _, _, rfl, _, rfl, _, _, rfl, rfl, cd _, (by show 2 ≤ sizeLine; rw [sizeLine_eq]; decide), fun p hp => k p _ hp (same_new hp) upd_same⟩
theorem ok_ratio_of {f CT : Addr} {fd : FuncData} (F : Fun K "ratio_of" "ratio_of" s_ratio_of f fd) (M : MkE P w K mg base "BadText" CT ["self", "line", "column"] ["line", "column"]) (bI : mg "isinstance" = none) (bs : mg "str" = none) (bn : mg "len" = none)
    {fE : Addr} {fdE : FuncData} (GE : FnOk P w K mg base (L2.CX P w) 3 fE fdE ["text", "start"] (spEod CT)) (gE : mg "end_of_digits" = some (.ref fE)) (kE : PySem.W.keepIn K (.ref fE) = true) (bE : Binds K fdE ["text", "start"] [])
    (NN : Fx P w K mg base "number_of" 1 ["digits"] spNum) (LL : Fx P w K mg base "lowest" 1 ["ratio"] spLow) : FnOk P w K mg base (L2.CX P w) 4 f fd ["text"] (spRof K CT) := by
  refine F.okX sc_ratio_of (fun vs H Q E h => ?_) (fun cdv A outer s H vs Q E hr h => ?_)
  · obtain ⟨v, rfl, _⟩ := h
    rfl
  · obtain ⟨v, rfl, h⟩ := h
    have hr2 : Room 2 _ := hr.mono (by decide)
    have hr1 : Room 1 _ := hr.mono (by decide)
    have tk : Takes (cxOf (L2.CX P w) P w K mg base ["text", "start", "slash", "top", "end", "bottom"] "ratio_of" (defScope s_ratio_of) f cdv A outer s H E) (fun cls d _ H => E cls d H) := takes_of rfl rfl rfl rfl
    refine ⟨_, (pss_cons (ps_if (pt_not (pt_val (pe_callB call_isi (by rfl) bI (by decide +kernel) (pa_cons (pv 0) (pa_cons (pe_bltn (v := .ty "str") (by rfl) bs PySem.Pv.boot_str rfl) pa_nil)))))
        (pss_one (ps_raise rfl tk (pmk_E M hr2 (pa_cons pe_int (pa_cons pe_int pa_nil)))))
        pss_nil)
      (C8.pss_cut (ps_set (i := 1) sc_ratio_of.nd rfl (Or.inl rfl) (pe_ifExp (pt_val (pe_m1 PySem.F.slot_str_startswith PySem.F.type_str_startswith mt_startswith (pv 0) pe_str)) pe_int pe_int))
      (pss_cons (ps_set (i := 2) sc_ratio_of.nd rfl (Or.inl rfl) (pe_call GE hr (by rfl) gE kE bE .nil (passes_call tk (fun _ _ _ _ h => h)) (pa_cons (pv 0) (pa_cons (pv 1) pa_nil))))
      (pss_cons (ps_set (i := 3) sc_ratio_of.nd rfl (Or.inl rfl) (pe_fx NN hr1 (pa_cons (pe_slice sl_str (pv 0) (po_some (pv 1)) (po_some (pv 2))) pa_nil)))
      (C8.pss_cut (ps_if (pt_cmpR op_eq (pv 1) pe_int (nomark _))
        (pss_one (ps_set (i := 3) sc_ratio_of.nd rfl (Or.inl rfl) (pe_un un_neg (pv 3))))
        pss_nil)
      (pss_cons (ps_if (pt_cmpR op_eq (pv 2) (pe_callB call_len (by rfl) bn (by decide +kernel) (pa_cons (pv 0) pa_nil)) (nomark _))
        (pss_one (ps_ret (pe_tup (pa_cons (pv 3) (pa_cons pe_int pa_nil)))))
        pss_nil)
      (pss_cons (ps_if (pt_cmpR op_ne (pe_ix ix_str (pv 0) (pv 2) (fun _ _ => rfl)) pe_str (nomark _))
        (pss_one (ps_raise rfl tk (pmk_E M hr2 (pa_cons pe_int (pa_cons (pe_op op_add (pv 2) pe_int) pa_nil)))))
        pss_nil)
      (pss_cons (ps_set (i := 4) sc_ratio_of.nd rfl (Or.inl rfl) (pe_call GE hr (by rfl) gE kE bE .nil (passes_call tk (fun _ _ _ _ h => h)) (pa_cons (pv 0) (pa_cons (pe_op op_add (pv 2) pe_int) pa_nil))))
      (pss_cons (ps_if (pt_cmpR op_lt (pv 4) (pe_callB call_len (by rfl) bn (by decide +kernel) (pa_cons (pv 0) pa_nil)) (nomark _))
        (pss_one (ps_raise rfl tk (pmk_E M hr2 (pa_cons pe_int (pa_cons (pe_op op_add (pv 4) pe_int) pa_nil)))))
        pss_nil)
      (pss_cons (ps_set (i := 5) sc_ratio_of.nd rfl (Or.inl rfl) (pe_fx NN hr1 (pa_cons (pe_slice sl_str (pv 0) (po_some (pe_op op_add (pv 2) pe_int)) (po_some (pv 4))) pa_nil)))
      (pss_cons (ps_if (pt_cmpR op_eq (pv 5) pe_int (nomark _))
        (pss_one (ps_raise rfl tk (pmk_E M hr2 (pa_cons pe_int (pa_cons (pe_op op_add (pv 2) pe_int) pa_nil)))))
        pss_nil)
      (pss_one (ps_ret (pe_fx LL hr1 (pa_cons (pe_tup (pa_cons (pv 3) (pa_cons (pv 5) pa_nil))) pa_nil))))))))))))))), ?_⟩
    rcases h with ⟨T, ty, kS, kE0⟩ | ⟨cs, rfl, hl, kE1, kQ⟩
    · refine ⟨_, rfl, v, .ty "str", _, _, false, rfl, .ty _, ty, kit_ty kS, _, rfl, if_t rfl ?_⟩
      exact ⟨(by show 2 ≤ 1000; decide), rz_in M rfl kE0⟩
    · refine ⟨_, rfl, _, .ty "str", _, _, true, rfl, .ty _, .base (.str _), kit_ty (by decide +kernel), _, rfl, if_f rfl ?_⟩
      have hf := first_le cs
      have fm := dend_ge cs (first cs)
      have ml := dend_le hf
      refine ⟨fun σ' H' => σ' = [some (.str (SX.S cs)), some (.int ((first cs : Nat) : Int)), none, none, none, none] ∧ H' = H, ?_, ?_⟩
      · refine ⟨_, rfl, ⟨_, rfl⟩, SX.S cs, Str.ofString "-", rfl, rfl, _, rfl, ?_⟩
        rw [starts_minus]
        unfold first
        by_cases h : cs.head? = some 45
        · rw [decide_eq_true h, if_pos h]
          exact ⟨rfl, rfl⟩
        · rw [decide_eq_false h, if_neg h]
          exact ⟨rfl, rfl⟩
      · rintro σ' H' ⟨rfl, rfl⟩
        refine ⟨_, rfl, _, rfl, cs, first cs, rfl, by omega, hf, fun h1 => ?_, fun h1 => ?_⟩
        · exact kE1 (first cs + 1) (by simp only [due]; rw [if_pos h1])
        · refine ⟨_, rfl, _, rfl, _, rfl, _, rfl, _, rfl, SX.S cs, rfl, by rw [SX.S_len, sizeLine_eq]; omega, digs cs (first cs), congrArg (fun z => [V.str z]) (cut_digs hf), digs_all cs _, by have := digs_len cs (first cs); omega, ?_⟩
          refine ⟨fun σ' H'' => σ' = [some (.str (SX.S cs)), some (.int ((first cs : Nat) : Int)), some (.int ((dend cs (first cs) : Nat) : Int)), some (.int (sg (first cs) (dval cs (first cs)))), none, none] ∧ H'' = H', ?_, ?_⟩
          · refine ⟨_, rfl, rfl, _, rfl, ?_⟩
            unfold sg
            refine ite2 (fun z => ?_) (fun z => ?_)
            · have z := V.int.inj (of_decide_eq_true z)
              rw [if_pos (by omega)]
              exact ⟨_, rfl, _, rfl, rfl, rfl⟩
            · rw [if_neg (fun y => z (decide_eq_true (by rw [y]; rfl)))]
              exact ⟨rfl, rfl⟩
          · rintro σ' H'' ⟨rfl, rfl⟩
            refine ⟨_, rfl, _, rfl, .str (SX.S cs), cs.length, rfl, ⟨by rw [SX.S_len, sizeLine_eq]; omega, by rw [SX.S_len]⟩, rfl, _, rfl, ?_⟩
            refine ite2 (fun z => ?_) (fun z => ?_)
            · have z := V.int.inj (of_decide_eq_true z)
              refine ⟨_, rfl, (by show 2 ≤ sizeLine; rw [sizeLine_eq]; decide), fun p hp => kQ _ _ p _ ?_ hp (same_new hp) upd_same⟩
              simp only [due]
              rw [if_neg h1, if_pos (by omega)]
            · have z2 : dend cs (first cs) ≠ cs.length := fun y => z (decide_eq_true (by rw [y]))
              have hlt : dend cs (first cs) < cs.length := by omega
              have hc : cs[dend cs (first cs)]? = some cs[dend cs (first cs)] := List.getElem?_eq_getElem hlt
              refine ⟨_, rfl, _, rfl, SX.S cs, _, _, rfl, rfl, by rw [SX.S_len, sizeLine_eq]; omega, atI_nat hc, rfl, _, rfl, ?_⟩
              rw [slash_eq]
              by_cases h47 : cs[dend cs (first cs)] = 47
              · rw [decide_eq_true h47]
                refine if_f rfl ?_
                have c47 : ¬ cs[dend cs (first cs)]? ≠ some 47 := fun y => y (by rw [hc, h47])
                have e1 : due cs = (if dend cs (dend cs (first cs) + 1) = dend cs (first cs) + 1 then .col (dend cs (first cs) + 2) else if dend cs (dend cs (first cs) + 1) < cs.length then .col (dend cs (dend cs (first cs) + 1) + 1)
                    else if dval cs (dend cs (first cs) + 1) = 0 then .col (dend cs (first cs) + 2) else low (sg (first cs) (dval cs (first cs))) (dval cs (dend cs (first cs) + 1))) := by
                  simp only [due]
                  rw [if_neg h1, if_neg z2, if_neg c47]
                have el := dend_le (cs := cs) (a := dend cs (first cs) + 1) hlt
                refine ⟨_, rfl, _, rfl, _, _, rfl, rfl, cs, dend cs (first cs) + 1, rfl, by omega, hlt, fun h2 => ?_, fun h2 => ?_⟩
                · have q := kE1 (dend cs (first cs) + 2) (by rw [e1, if_pos h2])
                  exact q
                · refine ⟨_, rfl, _, rfl, .str (SX.S cs), cs.length, rfl, ⟨by rw [SX.S_len, sizeLine_eq]; omega, by rw [SX.S_len]⟩, _, _, rfl, rfl, _, rfl, ?_⟩
                  refine ite2 (fun z3 => ?_) (fun z3 => ?_)
                  · have z3 := of_decide_eq_true z3
                    refine ⟨_, rfl, _, _, rfl, rfl, (by show 2 ≤ 1000; decide), rz_in M rfl ?_⟩
                    exact kE1 (dend cs (dend cs (first cs) + 1) + 1) (by rw [e1, if_neg h2, if_pos (by omega)])
                  · have z4 : ¬ dend cs (dend cs (first cs) + 1) < cs.length := fun y => z3 (decide_eq_true (by omega))
                    refine ⟨_, rfl, _, rfl, _, _, rfl, rfl, _, rfl, _, rfl, _, rfl, SX.S cs, rfl, by rw [SX.S_len, sizeLine_eq]; omega, digs cs (dend cs (first cs) + 1), congrArg (fun z => [V.str z]) (cut_digs hlt), digs_all cs _, by have := digs_len cs (dend cs (first cs) + 1); omega, ?_⟩
                    refine ⟨_, rfl, rfl, _, rfl, ?_⟩
                    refine ite2 (fun z5 => ?_) (fun z5 => ?_)
                    · have z5 : dval cs (dend cs (first cs) + 1) = 0 := Int.ofNat.inj (V.int.inj (of_decide_eq_true z5))
                      refine ⟨_, rfl, _, _, rfl, rfl, (by show 2 ≤ 1000; decide), rz_in M rfl ?_⟩
                      exact kE1 (dend cs (first cs) + 2) (by rw [e1, if_neg h2, if_neg z4, if_pos z5])
                    · have z6 : dval cs (dend cs (first cs) + 1) ≠ 0 := fun y => z5 (decide_eq_true (congrArg (fun n : Nat => V.int (n : Int)) y))
                      refine ⟨_, rfl, _, rfl, (by show 2 ≤ sizeLine; rw [sizeLine_eq]; decide), fun p hp => ?_⟩
                      refine ⟨_, _, dval cs (dend cs (first cs) + 1), rfl, .two upd_same (by omega), ?_, fun p2 H2 hp2 s2 hH2 => ?_⟩
                      · have b1 : dval cs (dend cs (first cs) + 1) < 10 ^ 200 := dval_lt hl
                        have b2 : (10 : Nat) ^ 200 ≤ 16 ^ 200 := Nat.pow_le_pow_left (by decide) 200
                        have b3 : (16 : Nat) ^ 200 = 2 ^ (4 * 200) := by rw [Nat.pow_mul]
                        rw [b3] at b2
                        exact Nat.lt_of_lt_of_le b1 (Nat.le_trans b2 (Nat.pow_le_pow_right (by decide) (by decide)))
                      · have np : p2 ≠ p := fun y => by rw [y, upd_same] at hp2; cases hp2
                        rw [upd_ne np] at hp2
                        refine kQ _ _ p2 H2 ?_ hp2 ((same_new hp).trans s2) hH2
                        rw [e1, if_neg h2, if_neg z4, if_neg z6]
                        rfl
              · rw [decide_eq_false h47]
                refine if_t rfl ?_
                have c47 : cs[dend cs (first cs)]? ≠ some 47 := fun y => h47 (by rw [hc] at y; exact Option.some.inj y)
                refine ⟨_, rfl, _, _, rfl, rfl, (by show 2 ≤ 1000; decide), rz_in M rfl ?_⟩
                refine kE1 (dend cs (first cs) + 1) ?_
                simp only [due]
                rw [if_neg h1, if_neg z2, if_pos c47]
end
end Z
set_option Elab.async false
set_option linter.all false
set_option maxRecDepth 100000
set_option maxHeartbeats 2000000
namespace Z
open PySem PySem.Spec L2 PyProof.Rows
open Builtin Builtin.Str
/-! sep.join(reversed(a list of texts)) -/
theorem strs_of : ∀ {ys : List Str} {its : List Value}, Vals (ys.map V.str) its → StrsAre its ys
  | [], _, h => by cases h; exact .nil
  | y :: r, _, h => by
    cases h with
    | cons a b =>
      obtain ⟨t, rfl⟩ := a
      exact .cons y t (strs_of b)
theorem Vals.rev {xs : List V} {us : List Value} (h : Vals xs us) : Vals xs.reverse us.reverse := by
  induction h with
  | nil => exact .nil
  | cons r t ih =>
    rw [List.reverse_cons, List.reverse_cons]
    exact ih.append (.cons r .nil)
theorem rev_items {its : List Value} {acc : Array Value} (h : ItemsOf (fun i v => its.toArray[its.toArray.size - 1 - i]? = some v) acc its.toArray.size) : acc.toList = its.reverse := by
  have hs : acc.size = its.length := by rw [h.1, List.size_toArray]
  refine List.ext_getElem (by rw [Array.length_toList, List.length_reverse, hs]) fun i h1 h2 => ?_
  have hi : i < acc.size := by rw [Array.length_toList] at h1; exact h1
  have e := h.2 i acc[i] (Array.getElem?_eq_getElem hi)
  rw [List.size_toArray, List.getElem?_toArray] at e
  rw [Array.getElem_toList, List.getElem_reverse]
  obtain ⟨h3, e2⟩ := List.getElem?_eq_some_iff.mp e
  exact e2.symm
section
variable {prog : Program} {w : World} {A : Around} {E : Value → Shared → Prop} {s : Shared}
theorem join_rev {sep : Str} {t : Tok} {it l : Addr} {its : List Value} {ys : List Str} {Q : Value → Shared → Prop} (calm : A.handled = none) (hit : s.heap.IsRevIter it l ((its.toArray.size : Int) - 1)) (hl : s.heap.IsList l its.toArray) (ne : l ≠ it)
    (hv : Vals (ys.map V.str) its) (hn : its.toArray.size ≤ sizeLine) (fits : (ys.map (·.length)).sum + ys.length * sep.length ≤ 16777216)
    (hq : ∀ (h' : Heap) (tk : Nat) (t' : Tok), (∀ b o, b ≠ it → s.heap.get? b = some o → h'.get? b = some o) → Q (.str (Txt.join sep ys.reverse) t') { s with heap := h', toks := tk }) :
    wpAny (model prog w) A (call (.builtin "str.join") [.str sep t, .ref it]) Q E s := by
  have ty : s.TypeIs (.ref it) "list_reverseiterator" := hit.typeIs
  refine wpAny_call ?_
  refine codeAny_call_builtin F.slot_str_join.plain F.entry_str_join ?_
  refine F.slot_str_join.check _ _ _ _ _ _ _ _ (typeIs_str _ _ _) (F.args_str_join_2 _ _) ?_
  rw [join_tree_other]
  refine wpAny_bind (wpAny_typeOf ty ?_)
  show wpAny _ A.in1 ((pyIter (.ref it)).tryCatch _ >>= fun i => collect i >>= fun xs => joinTail sep xs) _ _ s
  refine wpAny_bind (wpAny_tryCatch (wpAny_pyIter_revIter hit ?_))
  refine wpAny_bind (RT.collect_rev (A := A.in1) calm hit hl ne hn fun h' tk acc keep items => ?_)
  rw [rev_items items]
  have sv : StrsAre its.reverse ys.reverse := strs_of (by rw [List.map_reverse]; exact Vals.rev hv)
  obtain ⟨zs, e1, e2⟩ := strsAre_values sv
  rw [e1]
  have ok : JoinOk sep (zs.map (·.1)) = true := by
    rw [e2]
    refine joinOk_of ?_
    rw [List.map_reverse, List.sum_reverse, List.length_reverse]
    exact fits
  unfold JoinOk at ok
  rw [Bool.not_eq_true'] at ok
  have made : Gives (joinTail sep (strValues zs)) (joinMade sep zs) := by
    have base := gives_joinTail sep zs ok
    cases zs with
    | nil => exact base
    | cons z1 zr =>
      cases zr with
      | nil => exact base
      | cons z2 zt => exact base
  refine made prog w A (wants Q E) _ (post_join zs ⟨joinFit_length ok, fun t' k => ?_⟩)
  rw [e2]
  exact hq h' k t' keep
end
section
variable {X : Cx}
def tJoinRev (K : PySem.W.Frag) (to : TE) (ta : TA) : TE := fun σ H Q => to σ H fun x H1 => (∃ a, x = .str a) ∧ ta σ H1 fun vs H2 => ∃ (a : Str) (q : Addr) (ys : List Str),
  x = .str a ∧ vs = [.ref q] ∧ SqL K H2 q (ys.map V.str) ∧ (ys.map (·.length)).sum + ys.length * a.length ≤ 16777216 ∧ Q (.str (Txt.join a ys.reverse)) H2
theorem pe_joinRev {o e : Expr} {to : TE} {ta : TA} {apos pos p pos2 : Pos} (hc : X.calm = true) (ho : PE X o to) (hg : Gl X "reversed") (hm : X.mg "reversed" = none) (ha : PA X [e] ta)
    (h1 : starEach [.Call (.Name "reversed" p) [e] [] pos2] X.env = [(false, eval (.Call (.Name "reversed" p) [e] [] pos2) X.env)] := by rfl) (hs : starEach [e] X.env = [(false, eval e X.env)] := by rfl)
    (hb : attributeBase o "join" X.env (eval o X.env) = eval o X.env := by rfl) (hline : (apos.endLine == pos.line) = true := by rfl) :
    PE X (.Call (.Attribute o "join" apos) [.Call (.Name "reversed" p) [e] [] pos2] [] pos) (tJoinRev X.K to ta) := by
  constructor
  intro pins s σ H Q I h
  refine PySem.Call_method1 hb h1 hline (thn (ho.run pins s σ H _ I h) ?_)
  rintro v s1 ⟨x, H1, I1, r1, ⟨a, rfl⟩, q1⟩
  obtain ⟨t, rfl⟩ := _root_.id r1
  refine ⟨"str", _, F.plainAttrs_str, F.slot_str_join, F.type_str_join, typeIs_str _ _ _, (fun _ e => nomatch e), ?_⟩
  refine Calls.callWith_builtin rfl (Calls.evalArgs_plain (Calls.spliced_cons ?_))
  refine Call_ (ld_blt I1 hg hm PyProof.Rows.boot_reversed (PyProof.Rows.callWith_type1 (thn (ha.run pos2 pins s1 σ H1 _ I1 q1) ?_) hs rfl))
  rintro us s2 ⟨vs, H2, I2, r2, a', q, ys, ea, rfl, hq, fits, q2⟩
  cases ea
  obtain rfl := Vals.ref1 r2
  obtain ⟨its, rv, pl, hz⟩ := I2.list hq
  have len : its.length = ys.length := by rw [← rv.length, List.length_map]
  have qlt : q < s2.heap.objs.size := by
    obtain ⟨_, ob, _⟩ := pl.isList
    exact Heap.lt_size ob
  refine call_reversed_list pl.isList ?_
  refine Calls.spliced_nil ?_
  refine join_rev (s := { s2 with heap := s2.heap.push (revObj q ((its.toArray.size : Int) - 1)) }) (I2.ok.hd hc) ⟨_, Heap.get?_push_size _ rfl, rfl, rfl⟩ (pl.isList.push _) (Nat.ne_of_lt qlt) rv ?_ fits ?_
  · rw [List.size_toArray, len]
    rw [List.length_map] at hz
    exact hz
  · intro h' tk t' keep
    refine ⟨.str _, H2, I2.kept (t' := tk) fun b o e => keep b o (Nat.ne_of_lt (Heap.lt_size e)) (Heap.get?_push_of_some _ e), ⟨t', rfl⟩, q2⟩
end
end Z
set_option Elab.async false
set_option linter.all false
set_option maxRecDepth 100000
set_option maxHeartbeats 2000000
namespace Z
open PySem L2 PyProof.Rows
abbrev s_ratio_text : Stmt := topS 15
theorem sc_ratio_text : FnScope ["ratio", "top", "bottom", "sign"] ["ratio"] (defScope s_ratio_text) := ⟨rfl, rfl, rfl, by decide +kernel, rfl, by decide +kernel, by decide +kernel⟩
abbrev s_digits_of : Stmt := topS 16
theorem sc_digits_of : FnScope ["number", "parts", "ahead", "part"] ["number"] (defScope s_digits_of) := ⟨rfl, rfl, rfl, by decide +kernel, rfl, by decide +kernel, by decide +kernel⟩
def spDig : Sp := fun vs H Q _ => ∃ n : Nat, vs = [.int (n : Int)] ∧ n < 10 ^ 60 ∧ ∀ H', Same H H' → Q (.str (SX.S (TL.numL n))) H'
/-- the text of top and bottom -/
def rtext (x : Int) (y : Int) : List Nat := (if x < 0 then [45] else []) ++ TL.numL x.natAbs ++ (if y = 1 then [] else 47 :: TL.numL y.natAbs)
def spRtx (K : PySem.W.Frag) (CN : Addr) : Sp := fun vs H Q E => ∃ v : V, vs = [v] ∧
  ((RatV K H v false ∧ Rz H E CN [("number", v), ("what", .str "ratio")]) ∨
    ∃ (t : Int) (b : Nat), RatV K H v true ∧ PairV H v t b ∧ t.natAbs < 10 ^ 60 ∧ 0 < b ∧ b < 10 ^ 60 ∧ ∀ H', Same H H' → Q (.str (SX.S (rtext (lowT t b) (lowB t b)))) H')
theorem SX_app (cs ds : List Nat) : SX.S cs ++ SX.S ds = SX.S (cs ++ ds) := by
  refine TL.ext_tl ?_
  rw [TL.tl_append]
theorem pow60 : (10 : Nat) ^ 60 = 1000000000000000000000000000000000000000000000000000000000000 := by decide
theorem num_len60 {n : Nat} (h : n < 10 ^ 60) : (TL.numL n).length ≤ 60 := TL.numL_len (by decide) h
theorem join_one (cs : List Nat) : Txt.join (Str.ofString "") [SX.S cs] = SX.S cs := by
  have e : Str.ofString "" = SX.S [] := by decide +kernel
  rw [e]
  exact SX.join_S [] [cs]
section
variable {P : Program} {w : World} {K : PySem.W.Frag} {mg : Str → Option Value} {base : Heap}
theorem ok_digits_of {f : Addr} {fd : FuncData} {t1 t2 : Tok} (F : Fun K "digits_of" "digits_of" s_digits_of f fd) (gP : mg "PART" = some (.int 1000000000000000000000000000000000000000000000000000000000000 t1)) (gD : mg "PART_DIGITS" = some (.int 60 t2))
    (bd : mg "divmod" = none) (bs : mg "str" = none) (br : mg "reversed" = none) : FnOk P w K mg base CX0 1 f fd ["number"] spDig := by
  refine F.ok sc_digits_of (fun vs H Q E h => ?_) (fun cdv A outer s H vs Q E hr h => ?_)
  · obtain ⟨n, rfl, _⟩ := h
    rfl
  · obtain ⟨n, rfl, hn, k⟩ := h
    refine ⟨_, (pss_cons (ps_set (i := 1) sc_digits_of.nd rfl (Or.inl rfl) (pe_lst pa_nil))
      (pss_cons (ps_set (i := 2) sc_digits_of.nd rfl (Or.inl rfl) (pv 0))
      (pss_cons (ps_while PassesOwn.never (pt_cmpR op_ge (pv 2) (pe_glob (v := .int 1000000000000000000000000000000000000000000000000000000000000) rfl gP ⟨_, rfl⟩) (nomark _))
        (pss_cons (ps_asg (pe_callB call_divmodW (by rfl) bd (by decide +kernel) (pa_cons (pv 2) (pa_cons (pe_glob (v := .int 1000000000000000000000000000000000000000000000000000000000000) rfl gP ⟨_, rfl⟩) pa_nil))) (pg_tup rfl (pgs_cons (pg_name (i := 2) sc_digits_of.nd rfl (Or.inl rfl)) (pgs_cons (pg_name (i := 3) sc_digits_of.nd rfl (Or.inl rfl)) pgs_nil))))
          (pss_one (ps_expr (pe_bm PySem.F.plainAttrs_list PySem.F.slot_list_append PySem.F.type_list_append mt_append (pv 1) (pa_cons (pe_bm PySem.F.plainAttrs_str PySem.F.slot_str_zfill PySem.F.type_str_zfill mt_zfill (pe_callTy call_str_int (by rfl) bs (by decide +kernel) (pa_cons (pv 3) pa_nil)) (pa_cons (pe_glob (v := .int 60) rfl gD ⟨_, rfl⟩) pa_nil)) pa_nil))))))
      (pss_cons (ps_expr (pe_bm PySem.F.plainAttrs_list PySem.F.slot_list_append PySem.F.type_list_append mt_append (pv 1) (pa_cons (pe_callTy call_str_int (by rfl) bs (by decide +kernel) (pa_cons (pv 2) pa_nil)) pa_nil)))
      (pss_one (ps_ret (pe_joinRev rfl pe_str (by rfl) br (pa_cons (pv 1) pa_nil)))))))), ?_⟩
    refine ⟨Nat.zero_le _, fun q hq => ?_⟩
    refine ⟨_, rfl, ?_⟩
    refine ⟨fun m σ H2 => σ = [some (.int (n : Int)), some (.ref q), some (.int (n : Int)), none] ∧ H2 = upd H q (.lst []), ⟨0, rfl, rfl⟩, ?_⟩
    rintro m σ H2 ⟨rfl, rfl⟩
    refine ⟨_, rfl, _, _, rfl, rfl, _, rfl, if_f (decide_eq_false ?_) ?_⟩
    · rw [pow60] at hn
      omega
    · refine ⟨_, rfl, .inl ⟨rfl, _, .inl (.inl upd_same)⟩, _, rfl, _, rfl, ?_, q, _, _, rfl, rfl, upd_same, Nat.lt_of_lt_of_le (Nat.zero_lt_succ 0) (by rw [sizeLine_eq]; decide), ?_⟩
      · exact log2_small (show (n : Int).natAbs < 10 ^ 200 from Nat.lt_trans hn (Nat.pow_lt_pow_right (by decide) (by decide)))
      · have e : Str.ofString (toString ((n : Nat) : Int)) = SX.S (TL.numL n) := SX.num_S n
        refine ⟨⟨_, rfl⟩, _, rfl, Str.ofString "", q, [Str.ofString (toString ((n : Nat) : Int))], rfl, rfl, .inl (.inl upd_same), ?_, ?_⟩
        · rw [e]
          have := num_len60 hn
          have l0 : (Str.ofString "").length = 0 := by decide +kernel
          rw [l0]
          simp only [List.map_cons, List.map_nil, List.sum_cons, List.sum_nil, SX.S_len]
          omega
        · rw [List.reverse_singleton, e, join_one]
          refine k _ fun b o z => ?_
          have nb : b ≠ q := ne_of_none z hq
          rw [upd_ne nb, upd_ne nb]
          exact z
theorem ok_ratio_text {f CN : Addr} {fd : FuncData} (F : Fun K "ratio_text" "ratio_text" s_ratio_text f fd) (M : MkE P w K mg base "BadNumber" CN ["self", "what", "number"] ["what", "number"]) (ba : mg "abs" = none)
    (RR : Fx P w K mg base "is_ratio" 2 ["value"] (spRat K)) (LL : Fx P w K mg base "lowest" 1 ["ratio"] spLow) (DD : Fx P w K mg base "digits_of" 1 ["number"] spDig) : FnOk P w K mg base (L2.CX P w) 3 f fd ["ratio"] (spRtx K CN) := by
  refine F.okX sc_ratio_text (fun vs H Q E h => ?_) (fun cdv A outer s H vs Q E hr h => ?_)
  · obtain ⟨v, rfl, _⟩ := h
    rfl
  · obtain ⟨v, rfl, h⟩ := h
    have hr1 : Room 1 _ := hr.mono (by decide)
    refine ⟨_, (pss_cons (ps_if (pt_not (pt_val (pe_fx RR hr (pa_cons (pv 0) pa_nil))))
        (pss_one (ps_raise rfl (takes_of rfl rfl rfl rfl) (pmk_E M hr (pa_cons pe_str (pa_cons (pv 0) pa_nil)))))
        pss_nil)
      (pss_cons (ps_asg (pe_fx LL hr1 (pa_cons (pv 0) pa_nil)) (pg_tup rfl (pgs_cons (pg_name (i := 1) sc_ratio_text.nd rfl (Or.inl rfl)) (pgs_cons (pg_name (i := 2) sc_ratio_text.nd rfl (Or.inl rfl)) pgs_nil))))
      (C8.pss_cut (ps_set (i := 3) sc_ratio_text.nd rfl (Or.inl rfl) (pe_ifExp (pt_cmpR op_lt (pv 1) pe_int (nomark _)) pe_str pe_str))
      (pss_cons (ps_if (pt_cmpR op_eq (pv 2) pe_int (nomark _))
        (pss_one (ps_ret (pe_op op_add_str (pv 3) (pe_fx DD hr1 (pa_cons (pe_callB call_abs (by rfl) ba (by decide +kernel) (pa_cons (pv 1) pa_nil)) pa_nil)))))
        pss_nil)
      (pss_one (ps_ret (pe_op op_add_str (pe_op op_add_str (pe_op op_add_str (pv 3) (pe_fx DD hr1 (pa_cons (pe_callB call_abs (by rfl) ba (by decide +kernel) (pa_cons (pv 1) pa_nil)) pa_nil))) pe_str) (pe_fx DD hr1 (pa_cons (pv 2) pa_nil))))))))), ?_⟩
    rcases h with ⟨hR, kE⟩ | ⟨t, b, hR, hP, ht, hb0, hb, kQ⟩
    · refine ⟨_, rfl, v, false, rfl, hR, _, rfl, if_t rfl ?_⟩
      exact ⟨_, rfl, (by show 2 ≤ 1000; decide), rz_in M rfl kE⟩
    · refine ⟨_, rfl, v, true, rfl, hR, _, rfl, if_f rfl ?_⟩
      have b8 : b < 2 ^ 8000 := Nat.lt_of_lt_of_le hb (Nat.le_trans (show (10 : Nat) ^ 60 ≤ 2 ^ 200 by decide) (Nat.pow_le_pow_right (by decide) (by decide)))
      have g0 : 0 < Nat.gcd t.natAbs b := Nat.gcd_pos_of_pos_right _ hb0
      have x60 : (lowT t b).natAbs < 10 ^ 60 := by
        unfold lowT
        refine Nat.lt_of_le_of_lt (Int.natAbs_ediv_le_natAbs _ _) ht
      have yb : (lowB t b) = ((b / Nat.gcd t.natAbs b : Nat) : Int) := by
        unfold lowB
        rfl
      have y60 : b / Nat.gcd t.natAbs b < 10 ^ 60 := Nat.lt_of_le_of_lt (Nat.div_le_self _ _) hb
      refine ⟨_, rfl, v, t, b, rfl, hP, b8, fun p H1 hp s1 hH1 => ?_⟩
      refine ⟨p, _, rfl, SqT.of hH1, rfl, _, _, rfl, _, _, rfl, rfl, ?_⟩
      refine ⟨fun σ' H' => σ' = [some v, some (.int (lowT t b)), some (.int (lowB t b)), some (.str (SX.S (if lowT t b < 0 then [45] else [])))] ∧ H' = H1, ?_, ?_⟩
      · refine ⟨_, rfl, _, _, rfl, rfl, _, rfl, ?_⟩
        have e1 : Str.ofString "-" = SX.S [45] := by decide +kernel
        have e2 : Str.ofString "" = SX.S [] := by decide +kernel
        refine ite2 (fun z => ?_) (fun z => ?_)
        · rw [if_pos (of_decide_eq_true z)]
          refine ⟨?_, rfl⟩
          rw [← e1]
          rfl
        · rw [if_neg (fun y => z (decide_eq_true y))]
          refine ⟨?_, rfl⟩
          rw [← e2]
          rfl
      · rintro σ' H' ⟨rfl, rfl⟩
        have sgn : ((if lowT t b < 0 then [45] else []) : List Nat).length ≤ 1 := by split <;> simp
        have ab : (if lowT t b < 0 then -(lowT t b) else lowT t b) = (((lowT t b).natAbs : Nat) : Int) := by split <;> omega
        have l1 := num_len60 x60
        refine ⟨_, rfl, rfl, _, rfl, ?_⟩
        refine ite2 (fun z => ?_) (fun z => ?_)
        · have z := V.int.inj (of_decide_eq_true z)
          refine ⟨_, rfl, _, rfl, _, rfl, (lowT t b).natAbs, congrArg (fun i => [V.int i]) ab, x60, fun H2 s2 => ?_⟩
          refine ⟨_, _, rfl, rfl, by rw [SX.S_len, SX.S_len, sizeLine_eq]; omega, ?_⟩
          have := kQ H2 (s1.trans s2)
          unfold rtext at this
          rw [if_pos z, List.append_nil] at this
          rw [SX_app]
          exact this
        · have z := fun y => z (decide_eq_true (congrArg V.int y))
          refine ⟨_, rfl, _, rfl, _, rfl, (lowT t b).natAbs, congrArg (fun i => [V.int i]) ab, x60, fun H2 s2 => ?_⟩
          refine ⟨_, _, rfl, rfl, by rw [SX.S_len, SX.S_len, sizeLine_eq]; omega, ?_⟩
          refine ⟨_, _, rfl, rfl, ?_, _, rfl, b / Nat.gcd t.natAbs b, congrArg (fun i => [V.int i]) yb, y60, fun H3 s3 => ?_⟩
          · rw [SX_app, SX.S_len, List.length_append, sizeLine_eq]
            have : (Str.ofString "/").length = 1 := by decide +kernel
            omega
          · have l2 := num_len60 y60
            have es : Str.ofString "/" = SX.S [47] := by decide +kernel
            refine ⟨_, _, rfl, rfl, ?_, ?_⟩
            · rw [SX_app, es, SX_app, SX.S_len, SX.S_len, List.length_append, List.length_append, sizeLine_eq]
              show _ + _ + 1 + _ ≤ _
              omega
            · have := kQ H3 ((s1.trans s2).trans s3)
              unfold rtext at this
              rw [if_neg z] at this
              rw [SX_app, es, SX_app, SX_app]
              rw [yb] at this
              rw [List.append_assoc ((if lowT t b < 0 then [45] else []) ++ TL.numL (lowT t b).natAbs)]
              exact this
end
end Z
set_option Elab.async false
set_option linter.all false
set_option maxRecDepth 100000
set_option maxHeartbeats 2000000
namespace Z
open PySem L2 PyProof.Rows
theorem int_text (x : Int) : Str.ofString (toString x) = SX.S ((if x < 0 then [45] else []) ++ TL.numL x.natAbs) := by
  cases x with
  | ofNat n =>
    have h : ¬ (Int.ofNat n < 0) := by rw [Int.ofNat_eq_natCast]; omega
    rw [if_neg h]
    exact SX.num_S n
  | negSucc n =>
    have h : Int.negSucc n < 0 := Int.negSucc_lt_zero n
    rw [if_pos h]
    refine TL.ext_tl ?_
    have e : toString (Int.negSucc n) = "-" ++ toString (((n + 1 : Nat)) : Int) := rfl
    rw [e, TL.tl_ofString, String.toList_append, List.map_append, ← TL.tl_ofString "-", ← TL.tl_ofString (toString ((n + 1 : Nat) : Int)), TL.tl_num]
    rw [show TL.tl (Str.ofString "-") = [45] by decide +kernel]
    rfl
abbrev s_l_gcd : Stmt := topS 22
theorem sc_l_gcd : FnScope ["_law_one", "_law_two"] ["_law_one", "_law_two"] (defScope s_l_gcd) := ⟨rfl, rfl, rfl, by decide +kernel, rfl, by decide +kernel, by decide +kernel⟩
abbrev s_l_q : Stmt := topS 23
theorem sc_l_q : FnScope ["_law_top", "_law_bottom", "_law_by"] ["_law_top", "_law_bottom"] (defScope s_l_q) := ⟨rfl, rfl, rfl, by decide +kernel, rfl, by decide +kernel, by decide +kernel⟩
abbrev s_l_written : Stmt := topS 24
theorem sc_l_written : FnScope ["_law_one"] ["_law_one"] (defScope s_l_written) := ⟨rfl, rfl, rfl, by decide +kernel, rfl, by decide +kernel, by decide +kernel⟩
abbrev s_l_is_whole : Stmt := topS 25
theorem sc_l_is_whole : FnScope ["_law_value"] ["_law_value"] (defScope s_l_is_whole) := ⟨rfl, rfl, rfl, by decide +kernel, rfl, by decide +kernel, by decide +kernel⟩
abbrev s_l_is_ratio : Stmt := topS 26
theorem sc_l_is_ratio : FnScope ["_law_value"] ["_law_value"] (defScope s_l_is_ratio) := ⟨rfl, rfl, rfl, by decide +kernel, rfl, by decide +kernel, by decide +kernel⟩
abbrev s_l_digits_end : Stmt := topS 29
theorem sc_l_digits_end : FnScope ["_law_text", "_law_at", "_law_lap"] ["_law_text", "_law_at"] (defScope s_l_digits_end) := ⟨rfl, rfl, rfl, by decide +kernel, rfl, by decide +kernel, by decide +kernel⟩
def spGcd : Sp := fun vs H Q _ => ∃ a b : Int, vs = [.int a, .int b] ∧ Q (.int ((Nat.gcd a.natAbs b.natAbs : Nat) : Int)) H
def spQ : Sp := fun vs H Q _ => ∃ (t : Int) (b : Nat), vs = [.int t, .int (b : Int)] ∧ 0 < b ∧ b < 2 ^ 8000 ∧ ∀ (p : Addr) (H' : Hp), H p = none → Same H H' → H' p = some (.tup [.int (lowT t b), .int (lowB t b)]) → Q (.ref p) H'
def spWri : Sp := fun vs H Q _ => ∃ (p : Addr) (x y : Int), vs = [.ref p] ∧ H p = some (.tup [.int x, .int y]) ∧ 0 ≤ y ∧ x.natAbs < 10 ^ 100 ∧ y.natAbs < 10 ^ 100 ∧ Q (.str (SX.S (rtext x y))) H
/-- a pair in lowest terms -/
def spLir : Sp := fun vs H Q _ => ∃ (p : Addr) (x y : Int), vs = [.ref p] ∧ H p = some (.tup [.int x, .int y]) ∧ 0 < y ∧ Nat.gcd x.natAbs y.natAbs = 1 ∧ Q (.bl true) H
def spDen : Sp := fun vs H Q _ => ∃ (cs : List Nat) (a : Nat), vs = [.str (SX.S cs), .int (a : Int)] ∧ cs.length ≤ 1000 ∧ a ≤ cs.length ∧ ∀ H', Same H H' → Q (.int ((dend cs a : Nat) : Int)) H'
theorem digs_is : Str.ofString "0123456789" = SX.S [48, 49, 50, 51, 52, 53, 54, 55, 56, 57] := by decide +kernel
section
variable {P : Program} {w : World} {K : PySem.W.Frag} {mg : Str → Option Value} {base : Heap}
theorem ok_l_gcd {f : Addr} {fd : FuncData} (F : Fun K "_law_gcd" "_law_gcd" s_l_gcd f fd) (ba : mg "abs" = none) (bi : mg "int" = none) : FnOk P w K mg base CX0 1 f fd ["_law_one", "_law_two"] spGcd := by
  refine F.ok sc_l_gcd (fun vs H Q E h => ?_) (fun cdv A outer s H vs Q E hr h => ?_)
  · obtain ⟨a, b, rfl, _⟩ := h
    rfl
  · obtain ⟨a, b, rfl, k⟩ := h
    refine ⟨_, (pss_cons (ps_par (i := 0) (j := 1) (by rfl) sc_l_gcd.nd rfl rfl (by decide) rfl rfl (pa_cons (pe_callB call_abs (by rfl) ba (by decide +kernel) (pa_cons (pv 0) pa_nil)) (pa_cons (pe_callB call_abs (by rfl) ba (by decide +kernel) (pa_cons (pv 1) pa_nil)) pa_nil)) (by rfl))
      (pss_cons (ps_while PassesOwn.never (pt_cmpR op_ne (pv 1) pe_int (nomark _))
        (pss_one (ps_par (i := 0) (j := 1) (by rfl) sc_l_gcd.nd rfl rfl (by decide) rfl rfl (pa_cons (pv 1) (pa_cons (pe_op op_mod (pe_callTy call_int1 (by rfl) bi (by decide +kernel) (pa_cons (pv 0) pa_nil)) (pv 1)) pa_nil)) (by rfl))))
      (pss_one (ps_ret (pv 0))))), ?_⟩
    have ab : ∀ x : Int, (if x < 0 then -x else x) = ((x.natAbs : Nat) : Int) := fun x => by split <;> omega
    refine ⟨_, rfl, _, rfl, _, rfl, _, rfl, _, _, rfl, ?_⟩
    rw [ab, ab]
    refine ⟨fun m σ H2 => ∃ x y : Nat, σ = [some (.int (x : Int)), some (.int (y : Int))] ∧ H2 = H ∧ Nat.gcd x y = Nat.gcd a.natAbs b.natAbs ∧ m = y, ⟨_, a.natAbs, b.natAbs, rfl, rfl, rfl, rfl⟩, ?_⟩
    rintro m σ H2 ⟨x, y, rfl, rfl, e, hm⟩
    refine ⟨_, rfl, rfl, _, rfl, ?_⟩
    by_cases hy : y = 0
    · subst hy
      refine if_f (by decide +kernel) ?_
      rw [Nat.gcd_zero_right] at e
      subst e
      exact ⟨_, rfl, k⟩
    · refine if_t ?_ ?_
      · rw [Bool.not_eq_true', decide_eq_false]
        intro z
        exact hy (Int.ofNat.inj (V.int.inj z))
      · refine ⟨fun σ' H' => σ' = [some (.int (y : Int)), some (.int ((x % y : Nat) : Int))] ∧ H' = H2, fun σ' H' ⟨z1, z2⟩ => ⟨x % y, hm ▸ Nat.mod_lt _ (by omega), y, x % y, z1, z2, ?_, rfl⟩, ?_⟩
        · rw [Nat.gcd_comm y, ← Nat.gcd_rec, Nat.gcd_comm]
          exact e
        · exact ⟨_, rfl, _, rfl, .inl ⟨_, rfl, _, rfl, _, _, rfl, rfl, (by show (0 : Int) < y; omega), _, _, rfl, rfl, rfl⟩⟩
theorem ok_l_q {f : Addr} {fd : FuncData} (F : Fun K "_law_q" "_law_q" s_l_q f fd) (GG : Fx P w K mg base "_law_gcd" 1 ["_law_one", "_law_two"] spGcd) : FnOk P w K mg base CX0 2 f fd ["_law_top", "_law_bottom"] spQ := by
  refine F.ok sc_l_q (fun vs H Q E h => ?_) (fun cdv A outer s H vs Q E hr h => ?_)
  · obtain ⟨t, b, rfl, _⟩ := h
    rfl
  · obtain ⟨t, b, rfl, hb0, hb, k⟩ := h
    refine ⟨_, (pss_cons (ps_set (i := 2) sc_l_q.nd rfl (Or.inl rfl) (pe_fx GG hr (pa_cons (pv 0) (pa_cons (pv 1) pa_nil))))
      (pss_cons (ps_if (pt_cmpR op_lt (pv 1) pe_int (nomark _))
        (pss_one (ps_set (i := 2) sc_l_q.nd rfl (Or.inl rfl) (pe_un un_neg (pv 2))))
        pss_nil)
      (pss_one (ps_ret (pe_tup (pa_cons (pe_op op_fdivW (pv 0) (pv 2)) (pa_cons (pe_op op_fdivW (pv 1) (pv 2)) pa_nil))))))), ?_⟩
    have g0 : 0 < Nat.gcd t.natAbs b := Nat.gcd_pos_of_pos_right _ hb0
    have g1 : Nat.gcd t.natAbs b < 2 ^ 8000 := Nat.lt_of_le_of_lt (Nat.gcd_le_right _ hb0) hb
    have cd : ∀ i : Int, CDivW i ((Nat.gcd t.natAbs b : Nat) : Int) := fun i => wide_div (b := 8000) (by omega) (by rw [Int.natAbs_natCast]; exact g1) (by decide) (by decide)
    refine ⟨_, rfl, _, rfl, t, b, rfl, ?_⟩
    rw [Int.natAbs_natCast]
    refine ⟨_, rfl, _, _, rfl, rfl, _, rfl, if_f (decide_eq_false (by omega)) ?_⟩
    refine ⟨_, rfl, _, rfl, _, _, rfl, rfl, cd _, _, rfl, _, rfl, _, _, rfl, rfl, cd _, (by show 2 ≤ sizeLine; rw [sizeLine_eq]; decide), fun p hp => k p _ hp (same_new hp) upd_same⟩
theorem ok_l_written {f : Addr} {fd : FuncData} (F : Fun K "_law_written" "_law_written" s_l_written f fd) (bs : mg "str" = none) : FnOk P w K mg base CX0 1 f fd ["_law_one"] spWri := by
  refine F.ok sc_l_written (fun vs H Q E h => ?_) (fun cdv A outer s H vs Q E hr h => ?_)
  · obtain ⟨p, x, y, rfl, _⟩ := h
    rfl
  · obtain ⟨p, x, y, rfl, hp, hy0, hx, hy, k⟩ := h
    refine ⟨_, (pss_one (ps_ret (pe_ifExp (pt_cmpR op_eq (pe_ix ix_tup (pv 0) pe_int (fun _ _ => rfl)) pe_int (nomark _)) (pe_callTy call_str_int (by rfl) bs (by decide +kernel) (pa_cons (pe_ix ix_tup (pv 0) pe_int (fun _ _ => rfl)) pa_nil)) (pe_op op_add_str (pe_op op_add_str (pe_callTy call_str_int (by rfl) bs (by decide +kernel) (pa_cons (pe_ix ix_tup (pv 0) pe_int (fun _ _ => rfl)) pa_nil)) pe_str) (pe_callTy call_str_int (by rfl) bs (by decide +kernel) (pa_cons (pe_ix ix_tup (pv 0) pe_int (fun _ _ => rfl)) pa_nil)))))), ?_⟩
    have up : (10 : Nat) ^ 100 ≤ 10 ^ 200 := Nat.pow_le_pow_right (by decide) (by decide)
    have lx : (TL.numL x.natAbs).length ≤ 100 := TL.numL_len (by decide) hx
    have ly : (TL.numL y.natAbs).length ≤ 100 := TL.numL_len (by decide) hy
    have sgn : ((if x < 0 then [45] else []) : List Nat).length ≤ 1 := by split <;> simp
    refine ⟨_, rfl, _, _, _, _, rfl, rfl, SqT.of hp, atI_nat (j := 1) rfl, rfl, _, rfl, ?_⟩
    refine ite2 (fun z => ?_) (fun z => ?_)
    · have z := V.int.inj (of_decide_eq_true z)
      refine ⟨_, rfl, _, _, _, _, rfl, rfl, SqT.of hp, atI_nat (j := 0) rfl, _, rfl, log2_small (Nat.lt_of_lt_of_le hx up), ?_⟩
      unfold rtext at k
      rw [if_pos z, List.append_nil] at k
      show Q (.str (Str.ofString (toString x))) H
      rw [int_text]
      exact k
    · have z : ¬ y = 1 := fun e => z (decide_eq_true (congrArg V.int e))
      refine ⟨_, rfl, _, _, _, _, rfl, rfl, SqT.of hp, atI_nat (j := 0) rfl, _, rfl, log2_small (Nat.lt_of_lt_of_le hx up), ?_⟩
      have es : Str.ofString "/" = SX.S [47] := by decide +kernel
      have e1 := int_text x
      have e2 := int_text y
      rw [if_neg (by omega), List.nil_append] at e2
      refine ⟨Str.ofString (toString x), Str.ofString "/", rfl, rfl, ?_, ?_⟩
      · rw [e1, es, SX.S_len, SX.S_len, List.length_append, sizeLine_eq]
        show _ + _ + 1 ≤ _
        omega
      · refine ⟨_, rfl, _, _, _, _, rfl, rfl, SqT.of hp, atI_nat (j := 1) rfl, _, rfl, log2_small (Nat.lt_of_lt_of_le hy up), ?_⟩
        refine ⟨Str.ofString (toString x) ++ Str.ofString "/", Str.ofString (toString y), rfl, rfl, ?_, ?_⟩
        · rw [e1, e2, es, SX_app, SX.S_len, SX.S_len, List.length_append, List.length_append, sizeLine_eq]
          show _ + _ + 1 + _ ≤ _
          omega
        · rw [e1, e2, es, SX_app, SX_app]
          unfold rtext at k
          rw [if_neg z] at k
          rw [List.append_assoc ((if x < 0 then [45] else []) ++ TL.numL x.natAbs)]
          exact k
theorem ok_l_is_whole {f : Addr} {fd : FuncData} (F : Fun K "_law_is_whole" "_law_is_whole" s_l_is_whole f fd) (bI : mg "isinstance" = none) (bi : mg "int" = none) (bb : mg "bool" = none) : FnOk P w K mg base CX0 1 f fd ["_law_value"] (spWhole K) := by
  refine F.ok sc_l_is_whole (fun vs H Q E h => ?_) (fun cdv A outer s H vs Q E hr h => ?_)
  · obtain ⟨v, T, b1, b2, rfl, _⟩ := h
    rfl
  · obtain ⟨v, T, b1, b2, rfl, ty, k1, k2, k⟩ := h
    refine ⟨_, (pss_one (ps_ret (pe_and (pe_callB call_isi (by rfl) bI (by decide +kernel) (pa_cons (pv 0) (pa_cons (pe_bltn (v := .ty "int") (by rfl) bi PySem.Pv.boot_int rfl) pa_nil))) (pe_one (pe_not (pe_callB call_isi (by rfl) bI (by decide +kernel) (pa_cons (pv 0) (pa_cons (pe_bltn (v := .ty "bool") (by rfl) bb PySem.Pv.boot_bool rfl) pa_nil)))))))), ?_⟩
    refine ⟨_, rfl, v, .ty "int", _, _, b1, rfl, .ty _, ty, kit_ty k1, b1, rfl, ?_⟩
    cases b1 with
    | false => exact iteF k
    | true =>
      refine iteT ?_
      refine ⟨_, rfl, v, .ty "bool", _, _, b2, rfl, .ty _, ty, kit_ty k2, b2, rfl, ?_⟩
      exact k
theorem ok_l_is_ratio {f : Addr} {fd : FuncData} (F : Fun K "_law_is_ratio" "_law_is_ratio" s_l_is_ratio f fd) (bI : mg "isinstance" = none) (bt : mg "tuple" = none) (bn : mg "len" = none)
    (W : Fx P w K mg base "_law_is_whole" 1 ["_law_value"] (spWhole K)) (GG : Fx P w K mg base "_law_gcd" 1 ["_law_one", "_law_two"] spGcd) : FnOk P w K mg base CX0 2 f fd ["_law_value"] spLir := by
  refine F.ok sc_l_is_ratio (fun vs H Q E h => ?_) (fun cdv A outer s H vs Q E hr h => ?_)
  · obtain ⟨p, x, y, rfl, _⟩ := h
    rfl
  · obtain ⟨p, x, y, rfl, hp, hy, hg, k⟩ := h
    refine ⟨_, (pss_cons (ps_if (PW.pt (pw_or (pt_not (pt_val (pe_callB call_isi (by rfl) bI (by decide +kernel) (pa_cons (pv 0) (pa_cons (pe_bltn (v := .ty "tuple") (by rfl) bt PySem.Pv.boot_tuple rfl) pa_nil))))) (pw_or1 (pt_cmpR op_ne (pe_callB call_len (by rfl) bn (by decide +kernel) (pa_cons (pv 0) pa_nil)) pe_int (nomark _)))))
        (pss_one (ps_ret pe_bl))
        pss_nil)
      (pss_cons (ps_if (PW.pt (pw_or (pt_not (pt_val (pe_fx W hr (pa_cons (pe_ix ix_tup (pv 0) pe_int (fun _ _ => rfl)) pa_nil)))) (pw_or (pt_not (pt_val (pe_fx W hr (pa_cons (pe_ix ix_tup (pv 0) pe_int (fun _ _ => rfl)) pa_nil)))) (pw_or1 (pt_cmpR op_le (pe_ix ix_tup (pv 0) pe_int (fun _ _ => rfl)) pe_int (nomark _))))))
        (pss_one (ps_ret pe_bl))
        pss_nil)
      (pss_one (ps_ret (pe_cmpR op_eq (pe_fx GG hr (pa_cons (pe_ix ix_tup (pv 0) pe_int (fun _ _ => rfl)) (pa_cons (pe_ix ix_tup (pv 0) pe_int (fun _ _ => rfl)) pa_nil))) pe_int (nomark _)))))), ?_⟩
    refine ⟨_, rfl, _, .ty "tuple", _, _, true, rfl, .ty _, .base (.tup hp), kit_ty (by decide +kernel), _, rfl, if_f rfl ?_⟩
    refine ⟨_, rfl, _, _, rfl, .inr ⟨_, SqT.of hp, rfl⟩, rfl, _, rfl, if_f rfl ?_⟩
    refine ⟨_, rfl, _, _, _, _, rfl, rfl, SqT.of hp, atI_nat (j := 0) rfl, _, "int", true, false, rfl, .base (.int _), by decide +kernel, by decide +kernel, _, rfl, if_f rfl ?_⟩
    refine ⟨_, rfl, _, _, _, _, rfl, rfl, SqT.of hp, atI_nat (j := 1) rfl, _, "int", true, false, rfl, .base (.int _), by decide +kernel, by decide +kernel, _, rfl, if_f rfl ?_⟩
    refine ⟨_, rfl, _, _, _, _, rfl, rfl, SqT.of hp, atI_nat (j := 1) rfl, _, _, rfl, rfl, _, rfl, if_f (decide_eq_false (by omega)) ?_⟩
    refine ⟨_, rfl, _, _, _, _, rfl, rfl, SqT.of hp, atI_nat (j := 0) rfl, _, rfl, _, _, _, _, rfl, rfl, SqT.of hp, atI_nat (j := 1) rfl, x, y, rfl, rfl, ?_⟩
    rw [hg]
    exact k
end
end Z
set_option Elab.async false
set_option linter.all false
set_option maxRecDepth 100000
set_option maxHeartbeats 2000000
namespace Z
open PySem L2 PyProof.Rows
/-! tuple(a text), a text times a number -/
def signV (cs : List Nat) : List V := cs.map fun c => V.str ⟨#[c]⟩
theorem vals_signs {cs : List Nat} {acc : Array Value} (h : ItemsOf (SignAt (SX.S cs)) acc (SX.S cs).cps.size) : Vals (signV cs) acc.toList := by
  have sz : (SX.S cs).cps.size = cs.length := SX.S_len cs
  have e : acc.toList.length = cs.length := by rw [Array.length_toList, ← sz]; exact h.1
  have g := vals_of_get acc.toList (fun j => V.str ⟨#[cs.getD j 0]⟩) fun j u hj => by
    obtain ⟨c, t, hc, rfl⟩ := h.2 j u (by rw [← hj, Array.getElem?_toList])
    have hc2 : cs[j]? = some c := by
      rw [← hc]
      show cs[j]? = cs.toArray[j]?
      rw [List.getElem?_toArray]
    refine ⟨t, ?_⟩
    rw [List.getD_eq_getElem?_getD, hc2]
    rfl
  have e2 : (List.range acc.toList.length).map (fun j => V.str ⟨#[cs.getD j 0]⟩) = signV cs := by
    rw [e]
    refine List.ext_getElem (by simp [signV]) fun i h1 h2 => ?_
    have hi : i < cs.length := by simpa [signV] using h2
    simp [signV, List.getElem_range, hi]
  rw [e2] at g
  exact g
section
variable {X : Cx}
theorem call_tuple_text (hc : X.calm = true) : CallR X (.type "tuple") (fun xs H Q => ∃ cs : List Nat, xs = [.str (SX.S cs)] ∧ cs.length ≤ 1000 ∧ ∀ q, H q = none → Q (.ref q) (upd H q (.tup (signV cs)))) := by
  intro pins s σ H xs us Q I r h
  obtain ⟨cs, rfl, hl, q⟩ := h
  obtain ⟨u, rfl, rx⟩ := vals1 r
  obtain ⟨t, rfl⟩ := rx
  have sz : (SX.S cs).cps.size = cs.length := SX.S_len cs
  refine call_tuple_str (I.ok.hd hc) _ t (fun h' tk acc hk hi => ?_) (by rw [sz, sizeLine_eq]; omega)
  have I1 : Inv X pins σ H { s with heap := h', toks := tk } := I.kept hk
  have I2 : Inv X pins σ (upd H h'.objs.size (.tup (signV cs))) { s with heap := h'.push { cls := .type "tuple", data := .seq acc }, toks := tk } :=
    I1.laid (t' := tk) (fun c o e => Heap.get?_push_of_some _ e) (Nat.le_refl _) (show ObjOk X.prog X.w _ _ _ (.tup (signV cs)) from ⟨by rw [sizeLine_eq]; simp only [signV, List.length_map]; omega, acc.toList, vals_signs hi, by rw [Array.toArray_toList]; exact IsTup.new _ _⟩)
  exact ⟨.ref h'.objs.size, upd H h'.objs.size (.tup (signV cs)), I2, rfl, q _ (I1.hok.fresh (Nat.le_refl _))⟩
theorem rep_one (c : Nat) : ∀ n : Nat, n ≤ 6 → (⟨(List.replicate n #[c]).foldl (· ++ ·) #[]⟩ : Str) = SX.S (List.replicate n c)
  | 0, _ => rfl
  | 1, _ => rfl
  | 2, _ => rfl
  | 3, _ => rfl
  | 4, _ => rfl
  | 5, _ => rfl
  | 6, _ => rfl
  | n + 7, h => absurd h (by omega)
theorem op_mul_sign : OpR X (binaryOp .Mult) (fun x y H Q => ∃ c n : Nat, x = .str (SX.S [c]) ∧ y = .int (n : Int) ∧ n ≤ 6 ∧ Q (.str (SX.S (List.replicate n c))) H) := by
  intro pins s σ H x y v u Q I rx ry h
  obtain ⟨c, n, rfl, rfl, hn, q⟩ := h
  obtain ⟨t, rfl⟩ := rx
  obtain ⟨t', rfl⟩ := ry
  have len : (SX.S [c]).length = 1 := rfl
  refine P.mul_str ?_ (fun h1 _ => ?_) (fun h1 _ => ?_) ?_
  · have h1 : ¬ ((n : Int) < -(2 ^ 63)) := by omega
    have h2 : ¬ ((n : Int) ≥ 2 ^ 63) := by omega
    rw [decide_eq_false h1, decide_eq_false h2]
    rfl
  · rw [len]
    have : (1 : Int) ≤ (2 ^ 63 - 1) / (n : Int) := by
      rw [Int.le_ediv_iff_mul_le (by omega)]
      omega
    show ¬ ((1 : Int) > _)
    omega
  · rw [len, Int.toNat_natCast]
    show decide (1 * n > sizeLine) = false
    rw [sizeLine_eq]
    exact decide_eq_false (by omega)
  · by_cases h0 : (n : Int) < 1
    · rw [if_pos h0]
      have : n = 0 := by omega
      subst this
      exact ⟨by decide, .str _, H, I.tok _, ⟨_, rfl⟩, q⟩
    · rw [if_neg h0]
      by_cases h1 : n = 1
      · subst h1
        exact ⟨.str _, H, I, ⟨_, rfl⟩, q⟩
      · have e : (((n : Int) == 1) || (SX.S [c]).length == 0) = false := by
          rw [len]
          simp
          omega
        rw [e, if_neg Bool.false_ne_true, Int.toNat_natCast]
        show Made.post (.str ⟨(List.replicate n #[c]).foldl (· ++ ·) #[]⟩) _ s
        rw [rep_one c n hn]
        refine ⟨?_, .str _, H, I.tok _, ⟨_, rfl⟩, q⟩
        rw [SX.S_len, List.length_replicate, sizeLine_eq]
        omega
end
end Z
set_option Elab.async false
set_option linter.all false
set_option maxRecDepth 100000
set_option maxHeartbeats 2000000
namespace Z
open PySem L2 PyProof.Rows
theorem cut_one {cs : List Nat} {e : Nat} (h : e ≤ cs.length) : cutS (SX.S cs) (some (e : Int)) (some ((e : Int) + 1)) = SX.S ((cs.drop e).take 1) := by
  unfold cutS
  rw [show ((e : Int) + 1) = ((e + 1 : Nat) : Int) by omega, SX.S_len, HT.sIx_nat, HT.sIx_nat, Nat.min_eq_left h]
  by_cases h2 : e + 1 ≤ cs.length
  · rw [Nat.min_eq_left h2, show e + 1 - e = 1 by omega]
  · rw [Nat.min_eq_right (by omega), List.drop_eq_nil_of_le (show cs.length ≤ e by omega)]
    simp
theorem in_signs (l ds : List Nat) : inV (.str (SX.S l)) (signV ds) = ds.any fun d => [d] == l := by
  unfold inV signV
  rw [List.any_map]
  congr 1
  funext d
  show (SX.S [d] == SX.S l) = _
  exact SX.S_beq _ _
def ten : List Nat := [48, 49, 50, 51, 52, 53, 54, 55, 56, 57]
theorem in_ten (c : Nat) : (ten.any fun d => [d] == [c]) = isD c := by
  rw [Bool.eq_iff_iff, isD_iff, List.any_eq_true]
  constructor
  · rintro ⟨d, hd, e⟩
    have e : d = c := by simpa using e
    subst e
    simp [ten] at hd
    omega
  · rintro ⟨h1, h2⟩
    refine ⟨c, ?_, by simp⟩
    simp [ten]
    omega
theorem in_none : (ten.any fun d => [d] == ([] : List Nat)) = false := by decide
theorem flat_signs (ds : List Nat) : (signV ds).all flatV = true := by
  unfold signV
  rw [List.all_map, List.all_eq_true]
  intro d _
  rfl
section
variable {P : Program} {w : World} {K : PySem.W.Frag} {mg : Str → Option Value} {base : Heap}
theorem ok_l_digits_end {f : Addr} {fd : FuncData} (F : Fun K "_law_digits_end" "_law_digits_end" s_l_digits_end f fd) (br : mg "range" = none) (bn : mg "len" = none) (bt : mg "tuple" = none) : FnOk P w K mg base CX0 1 f fd ["_law_text", "_law_at"] spDen := by
  refine F.ok sc_l_digits_end (fun vs H Q E h => ?_) (fun cdv A outer s H vs Q E hr h => ?_)
  · obtain ⟨cs, a, rfl, _⟩ := h
    rfl
  · obtain ⟨cs, a, rfl, hl, ha, k⟩ := h
    refine ⟨_, (pss_cons (ps_for PassesOwn.never rfl (pi_range1 (by rfl) br (pa_cons (pe_op op_add (pe_callB call_len (by rfl) bn (by decide +kernel) (pa_cons (pv 0) pa_nil)) pe_int) pa_nil)) (pg_name (i := 2) sc_l_digits_end.nd rfl (Or.inl rfl))
        (pss_cons (ps_if (pt_cmpR op_notIn_seq (pe_slice sl_str (pv 0) (po_some (pv 1)) (po_some (pe_op op_add (pv 1) pe_int))) (pe_callTy (call_tuple_text rfl) (by rfl) bt (by decide +kernel) (pa_cons pe_str pa_nil)) (by rfl))
            (pss_one ps_break)
            pss_nil)
          (pss_one (ps_set (i := 1) sc_l_digits_end.nd rfl (Or.inl rfl) (pe_op op_add (pv 1) pe_int)))))
      (pss_one (ps_ret (pv 1)))), ?_⟩
    refine ⟨_, rfl, .str (SX.S cs), cs.length, rfl, ⟨by rw [SX.S_len, sizeLine_eq]; omega, by rw [SX.S_len]⟩, _, _, rfl, rfl, _, rfl, by omega, by omega, ?_⟩
    rw [show (((cs.length : Nat) : Int) + 1).toNat = cs.length + 1 by omega]
    refine for_range (lo := 0) (n := cs.length + 1) (fun i σ H2 => ∃ (e : Nat) (v : Option V), σ = [some (.str (SX.S cs)), some (.int (e : Int)), v] ∧ Same H H2 ∧ e = a + i ∧ e ≤ cs.length ∧ dend cs e = dend cs a)
      ⟨a, none, rfl, (fun _ _ e => e), rfl, ha, rfl⟩ ?_ ?_
    · rintro i σ H2 hi ⟨e, v, rfl, sm, ei, he, hd⟩
      refine ⟨_, rfl, _, rfl, _, rfl, _, rfl, _, _, rfl, rfl, _, rfl, _, rfl, by rw [SX.S_len, sizeLine_eq]; omega, ?_⟩
      rw [cut_one he]
      refine ⟨[48, 49, 50, 51, 52, 53, 54, 55, 56, 57], congrArg (fun z => [V.str z]) digs_is, (by show 10 ≤ 1000; decide), fun q hq => ?_⟩
      refine ⟨q, _, rfl, .inr (SqT.of upd_same), rfl, flat_signs _, _, rfl, ?_⟩
      rw [in_signs]
      have sm2 : Same H (upd H2 q (.tup (signV [48, 49, 50, 51, 52, 53, 54, 55, 56, 57]))) := sm.trans (same_new hq)
      by_cases hlt : e < cs.length
      · have hc : cs[e]? = some cs[e] := List.getElem?_eq_getElem hlt
        rw [drop_at hc]
        show if (!(ten.any fun d => [d] == [cs[e]])) = true then _ else _
        rw [in_ten]
        cases hx : isD cs[e] with
        | true =>
          refine iteF ⟨_, rfl, _, _, rfl, rfl, ?_⟩
          exact ⟨e + 1, _, rfl, sm2, by omega, hlt, (dend_yes hc hx).symm.trans hd⟩
        | false =>
          refine iteT ?_
          refine ⟨_, rfl, ?_⟩
          have := k _ sm2
          rw [← hd, dend_no hc hx] at this
          exact this
      · rw [List.drop_eq_nil_of_le (by omega)]
        show if (!(ten.any fun d => [d] == ([] : List Nat))) = true then _ else _
        rw [in_none]
        refine iteT ?_
        refine ⟨_, rfl, ?_⟩
        have := k _ sm2
        rw [← hd, dend_out (by omega)] at this
        exact this
    · rintro σ H2 ⟨e, v, rfl, sm, ei, he, hd⟩
      omega
end
end Z
set_option Elab.async false
set_option linter.all false
set_option maxRecDepth 100000
set_option maxHeartbeats 2000000
namespace Z
open PySem L2 PyProof.Rows
abbrev s_l_due : Stmt := topS 30
theorem sc_l_due : FnScope ["_law_text", "_law_first", "_law_middle", "_law_end", "_law_rows", "_law_pair"] ["_law_text"] (defScope s_l_due) := ⟨rfl, rfl, rfl, by decide +kernel, rfl, by decide +kernel, by decide +kernel⟩
def spDue (K : PySem.W.Frag) : Sp := fun vs H Q _ => ∃ cs : List Nat, vs = [.str (SX.S cs)] ∧ cs.length ≤ 190 ∧ ∀ (p : Addr) (H' : Hp), Same H H' → Dp K H' (.ref p) (resD (due cs)) → Q (.ref p) H'
theorem cut_head (cs : List Nat) : cutS (SX.S cs) none (some 1) = SX.S (cs.take 1) := by
  rw [C8.cutS_slice]
  exact SX.slice_to (by decide)
theorem S_eq (a b : List Nat) : decide (V.str (SX.S a) = V.str (SX.S b)) = decide (a = b) := by
  by_cases h : a = b
  · subst h
    rw [decide_eq_true rfl, decide_eq_true rfl]
  · rw [decide_eq_false h, decide_eq_false]
    exact fun z => h (SX.S_inj (V.str.inj z))
theorem minus_is : Str.ofString "-" = SX.S [45] := by decide +kernel
theorem slash_is : Str.ofString "/" = SX.S [47] := by decide +kernel
theorem first_int (cs : List Nat) : (if decide (V.str (cutS (SX.S cs) none (some 1)) = V.str (Str.ofString "-")) = true then (1 : Int) else 0) = ((first cs : Nat) : Int) := by
  rw [cut_head, minus_is, S_eq]
  unfold first
  cases cs with
  | nil => rfl
  | cons c r =>
    by_cases h : c = 45
    · subst h
      rfl
    · rw [if_neg, if_neg]
      · rfl
      · simpa using h
      · simpa using h
theorem slash_at (cs : List Nat) {m : Nat} : decide (V.str (SX.S ((cs.drop m).take 1)) = V.str (Str.ofString "/")) = decide (cs[m]? = some 47) := by
  rw [slash_is, S_eq]
  by_cases hlt : m < cs.length
  · have hc : cs[m]? = some cs[m] := List.getElem?_eq_getElem hlt
    rw [drop_at hc, hc]
    by_cases h : cs[m] = 47
    · rw [h]
      rfl
    · rw [decide_eq_false, decide_eq_false]
      · exact fun z => h (Option.some.inj z)
      · exact fun z => h (List.cons.inj z).1
  · rw [List.drop_eq_nil_of_le (by omega), List.getElem?_eq_none (by omega)]
    rfl
theorem int_digs {cs : List Nat} {a : Nat} (ne : dend cs a ≠ a) (hl : cs.length ≤ 190) : PySem.intText? (SX.S (digs cs a)) = some ((dval cs a : Nat) : Int) := by
  refine SX.int_S (List.all_eq_true.mpr fun c hc => ?_) (digs_ne ne) (by have := digs_len cs a; omega)
  have := digs_all cs a c hc
  rw [Bool.and_eq_true, decide_eq_true_eq, decide_eq_true_eq]
  exact this
theorem dval8000 {cs : List Nat} {a : Nat} (hl : cs.length ≤ 190) : dval cs a < 2 ^ 8000 := by
  have b1 : dval cs a < 10 ^ 200 := dval_lt hl
  have b2 : (10 : Nat) ^ 200 ≤ 16 ^ 200 := Nat.pow_le_pow_left (by decide) 200
  have b3 : (16 : Nat) ^ 200 = 2 ^ (4 * 200) := by rw [Nat.pow_mul]
  rw [b3] at b2
  exact Nat.lt_of_lt_of_le b1 (Nat.le_trans b2 (Nat.pow_le_pow_right (by decide) (by decide)))
/-- the law's pair, and the program's -/
theorem sg_low (f t b : Nat) : (if f = 1 then Res.pair (-(lowT (t : Int) b)) (lowB (t : Int) b) else .pair (lowT (t : Int) b) (lowB (t : Int) b)) = low (sg f t) b := by
  unfold sg low lowT lowB
  by_cases h : f = 1
  · rw [if_pos h, if_pos h, Int.natAbs_neg]
    congr 1
    rw [Int.neg_ediv_of_dvd]
    exact Int.natCast_dvd_natCast.mpr (Nat.gcd_dvd_left _ _)
  · rw [if_neg h, if_neg h]
theorem low_one (t : Int) : low t 1 = .pair t 1 := by
  unfold low
  rw [Nat.gcd_one_right]
  simp
theorem dp_col {K : PySem.W.Frag} {H : Hp} {p : Addr} {n : Nat} (h : H p = some (.tup [.str "text", .int (n : Int)])) : Dp K H (.ref p) (resD (.col n)) := .tup (SqT.of h) (.cons (.str _) (.cons (.int _) .nil))
theorem dp_pair {K : PySem.W.Frag} {H : Hp} {p q : Addr} {x y : Int} (h : H p = some (.tup [.str "ratio", .ref q])) (h2 : H q = some (.tup [.int x, .int y])) : Dp K H (.ref p) (resD (.pair x y)) :=
  .tup (SqT.of h) (.cons (.str _) (.cons (.tup (SqT.of h2) (.cons (.int _) (.cons (.int _) .nil))) .nil))
section
variable {P : Program} {w : World} {K : PySem.W.Frag} {mg : Str → Option Value} {base : Heap}
theorem ok_l_due {f : Addr} {fd : FuncData} (F : Fun K "_law_due" "_law_due" s_l_due f fd) (bi : mg "int" = none) (bn : mg "len" = none)
    (DE : Fx P w K mg base "_law_digits_end" 1 ["_law_text", "_law_at"] spDen) (QQ : Fx P w K mg base "_law_q" 2 ["_law_top", "_law_bottom"] spQ) : FnOk P w K mg base CX0 3 f fd ["_law_text"] (spDue K) := by
  refine F.ok sc_l_due (fun vs H Q E h => ?_) (fun cdv A outer s H vs Q E hr h => ?_)
  · obtain ⟨cs, rfl, _⟩ := h
    rfl
  · obtain ⟨cs, rfl, hl, k⟩ := h
    have hr1 : Room 1 _ := hr.mono (by decide)
    refine ⟨_, (pss_cons (ps_set (i := 1) sc_l_due.nd rfl (Or.inl rfl) (pe_callTy call_int1 (by rfl) bi (by decide +kernel) (pa_cons (pe_cmpR op_eq (pe_slice sl_str (pv 0) po_none (po_some pe_int)) pe_str (nomark _)) pa_nil)))
      (pss_cons (ps_set (i := 2) sc_l_due.nd rfl (Or.inl rfl) (pe_fx DE hr1 (pa_cons (pv 0) (pa_cons (pv 1) pa_nil))))
      (pss_cons (ps_if (pt_cmpR op_eq (pv 2) (pv 1) (nomark _))
        (pss_one (ps_ret (pe_tup (pa_cons pe_str (pa_cons (pe_op op_add (pv 1) pe_int) pa_nil)))))
        pss_nil)
      (pss_cons (ps_par (i := 3) (j := 4) (by rfl) sc_l_due.nd rfl rfl (by decide) rfl rfl (pa_cons (pv 2) (pa_cons (pe_lst (pa_cons (pe_slice sl_str (pv 0) (po_some (pv 1)) (po_some (pv 2))) pa_nil)) pa_nil)) (by rfl))
      (pss_cons (ps_if (pt_cmpR op_eq (pe_slice sl_str (pv 0) (po_some (pv 2)) (po_some (pe_op op_add (pv 2) pe_int))) pe_str (nomark _))
        (pss_cons (ps_set (i := 3) sc_l_due.nd rfl (Or.inl rfl) (pe_fx DE hr1 (pa_cons (pv 0) (pa_cons (pe_op op_add (pv 2) pe_int) pa_nil))))
          (pss_cons (ps_if (pt_cmpR op_eq (pv 3) (pe_op op_add (pv 2) pe_int) (nomark _))
            (pss_one (ps_ret (pe_tup (pa_cons pe_str (pa_cons (pe_op op_add (pv 3) pe_int) pa_nil)))))
            pss_nil)
          (pss_one (ps_expr (pe_bm PySem.F.plainAttrs_list PySem.F.slot_list_append PySem.F.type_list_append mt_append (pv 4) (pa_cons (pe_slice sl_str (pv 0) (po_some (pe_op op_add (pv 2) pe_int)) (po_some (pv 3))) pa_nil))))))
        pss_nil)
      (pss_cons (ps_if (pt_cmpR op_lt (pv 3) (pe_callB call_len (by rfl) bn (by decide +kernel) (pa_cons (pv 0) pa_nil)) (nomark _))
        (pss_one (ps_ret (pe_tup (pa_cons pe_str (pa_cons (pe_op op_add (pv 3) pe_int) pa_nil)))))
        pss_nil)
      (pss_cons (ps_if (PW.pt (pw_and (pt_cmpR op_eq (pe_callB call_len (by rfl) bn (by decide +kernel) (pa_cons (pv 4) pa_nil)) pe_int (nomark _)) (pw_and1 (pt_cmpR op_eq (pe_callTy call_int_str (by rfl) bi (by decide +kernel) (pa_cons (pe_ix ix_list (pv 4) pe_int (fun _ _ => rfl)) pa_nil)) pe_int (nomark _)))))
        (pss_one (ps_ret (pe_tup (pa_cons pe_str (pa_cons (pe_op op_add (pv 2) pe_int) pa_nil)))))
        pss_nil)
      (pss_cons (ps_set (i := 5) sc_l_due.nd rfl (Or.inl rfl) (pe_fx QQ hr (pa_cons (pe_callTy call_int_str (by rfl) bi (by decide +kernel) (pa_cons (pe_ix ix_list (pv 4) pe_int (fun _ _ => rfl)) pa_nil)) (pa_cons (pe_ifExp (pt_cmpR op_eq (pe_callB call_len (by rfl) bn (by decide +kernel) (pa_cons (pv 4) pa_nil)) pe_int (nomark _)) (pe_callTy call_int_str (by rfl) bi (by decide +kernel) (pa_cons (pe_ix ix_list (pv 4) pe_int (fun _ _ => rfl)) pa_nil)) pe_int) pa_nil))))
      (pss_one (ps_ret (pe_tup (pa_cons pe_str (pa_cons (pe_ifExp (pt_cmpR op_eq (pv 1) pe_int (nomark _)) (pe_tup (pa_cons (pe_un un_neg (pe_ix ix_tup (pv 5) pe_int (fun _ _ => rfl))) (pa_cons (pe_ix ix_tup (pv 5) pe_int (fun _ _ => rfl)) pa_nil))) (pv 5)) pa_nil))))))))))))), ?_⟩
    have slen : (SX.S cs).length ≤ sizeLine := by rw [SX.S_len, sizeLine_eq]; omega
    have two : 2 ≤ sizeLine := by rw [sizeLine_eq]; decide
    refine ⟨_, rfl, _, rfl, _, rfl, slen, rfl, .inr ⟨_, rfl, ?_⟩⟩
    rw [first_int]
    have hf := first_le cs
    refine ⟨_, rfl, _, rfl, cs, first cs, rfl, by omega, hf, fun H1 s1 => ?_⟩
    have fm := dend_ge cs (first cs)
    have ml := dend_le hf
    refine ⟨_, rfl, _, rfl, rfl, _, rfl, ?_⟩
    refine ite2 (fun z => ?_) (fun z => ?_)
    · have z : dend cs (first cs) = first cs := Int.ofNat.inj (V.int.inj (of_decide_eq_true z))
      refine ⟨_, rfl, _, _, rfl, rfl, two, fun p hp => k p _ (s1.trans (same_new hp)) ?_⟩
      have e : due cs = .col (first cs + 1) := by simp only [due]; rw [if_pos z]
      rw [e]
      exact dp_col upd_same
    · have h1 : ¬ dend cs (first cs) = first cs := fun y => z (decide_eq_true (by rw [y]))
      have dlen : ∀ a, (SX.S (digs cs a)).length ≤ 640 := fun a => by rw [SX.S_len]; have := digs_len cs a; omega
      have len1 : 1 ≤ sizeLine := by rw [sizeLine_eq]; decide
      refine ⟨_, rfl, _, rfl, _, rfl, _, rfl, _, rfl, _, rfl, _, rfl, slen, len1, fun q hq => ?_⟩
      have ed : cutS (SX.S cs) (some ((first cs : Nat) : Int)) (some ((dend cs (first cs) : Nat) : Int)) = SX.S (digs cs (first cs)) := cut_digs hf
      rw [ed]
      have s2 : Same H (upd H1 q (.lst [.str (SX.S (digs cs (first cs)))])) := s1.trans (same_new hq)
      refine ⟨_, _, rfl, _, rfl, _, rfl, _, rfl, _, rfl, _, _, rfl, rfl, _, rfl, _, rfl, slen, rfl, _, rfl, ?_⟩
      rw [cut_one ml, slash_at]
      refine ite2 (fun z2 => ?_) (fun z2 => ?_)
      · have z2 := of_decide_eq_true z2
        have hlt : dend cs (first cs) < cs.length := by
          obtain ⟨h, _⟩ := List.getElem?_eq_some_iff.mp z2
          exact h
        have n2 : ¬ dend cs (first cs) = cs.length := by omega
        have c47 : ¬ cs[dend cs (first cs)]? ≠ some 47 := fun y => y z2
        have e1 : due cs = (if dend cs (dend cs (first cs) + 1) = dend cs (first cs) + 1 then .col (dend cs (first cs) + 2) else if dend cs (dend cs (first cs) + 1) < cs.length then .col (dend cs (dend cs (first cs) + 1) + 1)
            else if dval cs (dend cs (first cs) + 1) = 0 then .col (dend cs (first cs) + 2) else low (sg (first cs) (dval cs (first cs))) (dval cs (dend cs (first cs) + 1))) := by
          simp only [due]
          rw [if_neg h1, if_neg n2, if_neg c47]
        have el := dend_le (cs := cs) (a := dend cs (first cs) + 1) hlt
        refine ⟨_, rfl, _, rfl, _, _, rfl, rfl, cs, dend cs (first cs) + 1, rfl, by omega, hlt, fun H3 s3 => ?_⟩
        refine ⟨_, rfl, _, rfl, _, _, rfl, rfl, rfl, _, rfl, ?_⟩
        refine ite2 (fun z3 => ?_) (fun z3 => ?_)
        · have z3 : dend cs (dend cs (first cs) + 1) = dend cs (first cs) + 1 := Int.ofNat.inj (V.int.inj (of_decide_eq_true z3))
          refine ⟨_, rfl, _, _, rfl, rfl, two, fun p hp => k p _ ((s2.trans s3).trans (same_new hp)) ?_⟩
          have e : due cs = .col (dend cs (dend cs (first cs) + 1) + 1) := by rw [e1, if_pos z3, z3]
          rw [e]
          exact dp_col upd_same
        · have z4 : ¬ dend cs (dend cs (first cs) + 1) = dend cs (first cs) + 1 := fun y => z3 (decide_eq_true (by rw [y]; rfl))
          have hq3 : H3 q = some (.lst [.str (SX.S (digs cs (first cs)))]) := s3 _ _ upd_same
          have hqn : H q = none := by
            cases hx : H q with
            | none => rfl
            | some o =>
              have := s1 _ _ hx
              rw [hq] at this
              cases this
          refine ⟨_, rfl, .inl ⟨rfl, _, SqL.of hq3⟩, _, rfl, _, rfl, _, _, rfl, rfl, _, rfl, _, rfl, _, rfl, _, rfl, slen, q, _, _, rfl, rfl, hq3, (by show 1 < sizeLine; rw [sizeLine_eq]; decide), ?_⟩
          have ed2 : cutS (SX.S cs) (some (((dend cs (first cs) : Nat) : Int) + 1)) (some ((dend cs (dend cs (first cs) + 1) : Nat) : Int)) = SX.S (digs cs (dend cs (first cs) + 1)) := cut_digs hlt
          rw [ed2]
          have s4 : Same H (upd H3 q (.lst [.str (SX.S (digs cs (first cs))), .str (SX.S (digs cs (dend cs (first cs) + 1)))])) := fun b o e => by
            by_cases hb : b = q
            · rw [hb, hqn] at e
              cases e
            · rw [upd_ne hb]
              exact (s2.trans s3) _ _ e
          refine ⟨_, rfl, _, rfl, .str (SX.S cs), cs.length, rfl, ⟨slen, by rw [SX.S_len]⟩, _, _, rfl, rfl, _, rfl, ?_⟩
          refine ite2 (fun z5 => ?_) (fun z5 => ?_)
          · have z5 := of_decide_eq_true z5
            refine ⟨_, rfl, _, _, rfl, rfl, two, fun p hp => k p _ (s4.trans (same_new hp)) ?_⟩
            have e : due cs = .col (dend cs (dend cs (first cs) + 1) + 1) := by rw [e1, if_neg z4, if_pos (by omega)]
            rw [e]
            exact dp_col upd_same
          · have z6 : ¬ dend cs (dend cs (first cs) + 1) < cs.length := fun y => z5 (decide_eq_true (by omega))
            refine ⟨_, rfl, _, _, rfl, .inl ⟨_, SqL.of upd_same, rfl⟩, rfl, _, rfl, if_t rfl ?_⟩
            refine ⟨_, rfl, _, _, _, _, rfl, rfl, SqL.of upd_same, atI_nat (j := 1) rfl, _, _, rfl, int_digs z4 hl, dlen _, rfl, _, rfl, ?_⟩
            refine ite2 (fun z7 => ?_) (fun z7 => ?_)
            · have z7 : dval cs (dend cs (first cs) + 1) = 0 := Int.ofNat.inj (V.int.inj (of_decide_eq_true z7))
              refine ⟨_, rfl, _, _, rfl, rfl, two, fun p hp => k p _ (s4.trans (same_new hp)) ?_⟩
              have e : due cs = .col (dend cs (first cs) + 2) := by rw [e1, if_neg z4, if_neg z6, if_pos z7]
              rw [e]
              exact dp_col upd_same
            · have z8 : dval cs (dend cs (first cs) + 1) ≠ 0 := fun y => z7 (decide_eq_true (congrArg (fun n : Nat => V.int (n : Int)) y))
              have e : due cs = low (sg (first cs) (dval cs (first cs))) (dval cs (dend cs (first cs) + 1)) := by rw [e1, if_neg z4, if_neg z6, if_neg z8]
              refine ⟨_, rfl, _, _, _, _, rfl, rfl, SqL.of upd_same, atI_nat (j := 0) rfl, _, _, rfl, int_digs h1 hl, dlen _, _, rfl, _, _, rfl, .inl ⟨_, SqL.of upd_same, rfl⟩, rfl, _, rfl, if_t rfl ?_⟩
              refine ⟨_, rfl, _, _, _, _, rfl, rfl, SqL.of upd_same, atI_nat (j := 1) rfl, _, _, rfl, int_digs z4 hl, dlen _, _, _, rfl, by omega, dval8000 hl, fun p2 H5 hp2 s5 hH5 => ?_⟩
              rw [← sg_low] at e
              have np : ∀ p6 : Addr, H5 p6 = none → p2 ≠ p6 := fun p6 h6 y => by rw [← y, hH5] at h6; cases h6
              refine ⟨_, rfl, rfl, _, rfl, ?_⟩
              refine ite2 (fun z9 => ?_) (fun z9 => ?_)
              · have z9 : first cs = 1 := Int.ofNat.inj (V.int.inj (of_decide_eq_true z9))
                rw [if_pos z9] at e
                refine ⟨_, rfl, _, _, _, _, rfl, rfl, SqT.of hH5, atI_nat (j := 0) rfl, _, rfl, _, rfl, _, _, _, _, rfl, rfl, SqT.of hH5, atI_nat (j := 1) rfl, two, fun p3 hp3 => ⟨two, fun p4 hp4 => k p4 _ (((s4.trans s5).trans (same_new hp3)).trans (same_new hp4)) ?_⟩⟩
                rw [e]
                have ne : p3 ≠ p4 := fun y => by rw [← y, upd_same] at hp4; cases hp4
                exact dp_pair upd_same ((upd_ne ne).trans upd_same)
              · have z9 : ¬ first cs = 1 := fun y => z9 (decide_eq_true (by rw [y]; rfl))
                rw [if_neg z9] at e
                refine ⟨_, rfl, two, fun p4 hp4 => k p4 _ ((s4.trans s5).trans (same_new hp4)) ?_⟩
                rw [e]
                exact dp_pair upd_same ((upd_ne (np p4 hp4)).trans hH5)
      · have z2 : cs[dend cs (first cs)]? ≠ some 47 := fun y => z2 (decide_eq_true y)
        refine ⟨_, rfl, _, rfl, .str (SX.S cs), cs.length, rfl, ⟨slen, by rw [SX.S_len]⟩, _, _, rfl, rfl, _, rfl, ?_⟩
        refine ite2 (fun z5 => ?_) (fun z5 => ?_)
        · have z5 := of_decide_eq_true z5
          refine ⟨_, rfl, _, _, rfl, rfl, two, fun p hp => k p _ (s2.trans (same_new hp)) ?_⟩
          have e : due cs = .col (dend cs (first cs) + 1) := by
            simp only [due]
            rw [if_neg h1, if_neg (by omega), if_pos z2]
          rw [e]
          exact dp_col upd_same
        · have z6 : ¬ dend cs (first cs) < cs.length := fun y => z5 (decide_eq_true (by omega))
          refine ⟨_, rfl, _, _, rfl, .inl ⟨_, SqL.of upd_same, rfl⟩, rfl, _, rfl, if_f rfl ?_⟩
          have e : due cs = low (sg (first cs) (dval cs (first cs))) 1 := by
            rw [low_one]
            simp only [due]
            rw [if_neg h1, if_pos (by omega)]
          refine ⟨_, rfl, _, _, _, _, rfl, rfl, SqL.of upd_same, atI_nat (j := 0) rfl, _, _, rfl, int_digs h1 hl, dlen _, _, rfl, _, _, rfl, .inl ⟨_, SqL.of upd_same, rfl⟩, rfl, _, rfl, if_f rfl ?_⟩
          refine ⟨_, 1, rfl, by decide, Nat.one_lt_two_pow (by decide), fun p2 H5 hp2 s5 hH5 => ?_⟩
          rw [← sg_low] at e
          have np : ∀ p6 : Addr, H5 p6 = none → p2 ≠ p6 := fun p6 h6 y => by rw [← y, hH5] at h6; cases h6
          refine ⟨_, rfl, rfl, _, rfl, ?_⟩
          refine ite2 (fun z9 => ?_) (fun z9 => ?_)
          · have z9 : first cs = 1 := Int.ofNat.inj (V.int.inj (of_decide_eq_true z9))
            rw [if_pos z9] at e
            refine ⟨_, rfl, _, _, _, _, rfl, rfl, SqT.of hH5, atI_nat (j := 0) rfl, _, rfl, _, rfl, _, _, _, _, rfl, rfl, SqT.of hH5, atI_nat (j := 1) rfl, two, fun p3 hp3 => ⟨two, fun p4 hp4 => k p4 _ (((s2.trans s5).trans (same_new hp3)).trans (same_new hp4)) ?_⟩⟩
            rw [e]
            have ne : p3 ≠ p4 := fun y => by rw [← y, upd_same] at hp4; cases hp4
            exact dp_pair upd_same ((upd_ne ne).trans upd_same)
          · have z9 : ¬ first cs = 1 := fun y => z9 (decide_eq_true (by rw [y]; rfl))
            rw [if_neg z9] at e
            refine ⟨_, rfl, two, fun p4 hp4 => k p4 _ ((s2.trans s5).trans (same_new hp4)) ?_⟩
            rw [e]
            exact dp_pair upd_same ((upd_ne (np p4 hp4)).trans hH5)
end
end Z
set_option Elab.async false
set_option linter.all false
set_option maxRecDepth 100000
set_option maxHeartbeats 2000000
namespace Z
open PySem L2 PyProof.Rows
abbrev s_l_ratio : Stmt := topS 27
theorem sc_l_ratio : FnScope ["_law_pen_here", "_law_figures", "_law_top", "_law_bottom"] ["_law_pen_here", "_law_figures"] (defScope s_l_ratio) := ⟨rfl, rfl, rfl, by decide +kernel, rfl, by decide +kernel, by decide +kernel⟩
abbrev s_l_passed : Stmt := topS 28
theorem sc_l_passed : FnScope ["_law_pen_here", "_law_ratio_here", "_law_way", "_law_by"] ["_law_pen_here", "_law_ratio_here"] (defScope s_l_passed) := ⟨rfl, rfl, rfl, by decide +kernel, rfl, by decide +kernel, by decide +kernel⟩
/-- a ratio in lowest terms -/
structure LowP (x : Int) (y : Nat) : Prop where
  pos : 0 < y
  lt : y < 100
  xlt : x.natAbs < 10 ^ 40
  cop : Nat.gcd x.natAbs y = 1
def spLra : Sp := fun vs H Q _ => ∃ (p l : Addr) (c k : Nat), vs = [.ref p, .int (k : Int)] ∧ Pen H p l c ∧ c < 2 ^ 38 ∧ 0 < k ∧ k ≤ 39 ∧
  ∀ (x : Int) (y : Nat) (q : Addr) (c' : Nat) (H' : Hp), LowP x y → H' q = some (.tup [.int x, .int (y : Int)]) → c' ≤ c + 50 → Pen H' p l c' → Kp p H H' → Q (.ref q) H'
def spPas (K : PySem.W.Frag) : Sp := fun vs H Q _ => ∃ (p l q : Addr) (c : Nat) (x : Int) (y : Nat), vs = [.ref p, .ref q] ∧ Pen H p l c ∧ c < 2 ^ 39 ∧ H q = some (.tup [.int x, .int (y : Int)]) ∧ LowP x y ∧
  ∀ (v : V) (t : Int) (b c' : Nat) (H' : Hp), RatV K H' v true → PairV H' v t b → lowT t b = x → lowB t b = (y : Int) → t.natAbs < 10 ^ 60 → 0 < b → b < 10 ^ 60 → c' ≤ c + 2 → Pen H' p l c' → Kp p H H' → Q v H'
theorem lowP_of {t : Int} {b : Nat} (hb : 0 < b) (hl : b < 100) (ht : t.natAbs < 10 ^ 40) : ∃ y : Nat, lowB t b = (y : Int) ∧ LowP (lowT t b) y := by
  have g0 : 0 < Nat.gcd t.natAbs b := Nat.gcd_pos_of_pos_right _ hb
  have dv : ((Nat.gcd t.natAbs b : Nat) : Int) ∣ t := Int.dvd_natAbs.mp (Int.natCast_dvd_natCast.mpr (Nat.gcd_dvd_left _ _))
  have e : (lowT t b).natAbs = t.natAbs / Nat.gcd t.natAbs b := by
    unfold lowT
    rw [Int.natAbs_ediv_of_dvd dv, Int.natAbs_natCast]
  refine ⟨b / Nat.gcd t.natAbs b, rfl, ?_, ?_, ?_, ?_⟩
  · exact Nat.div_pos (Nat.le_of_dvd hb (Nat.gcd_dvd_right _ _)) g0
  · exact Nat.lt_of_le_of_lt (Nat.div_le_self _ _) hl
  · rw [e]
    exact Nat.lt_of_le_of_lt (Nat.div_le_self _ _) ht
  · rw [e]
    exact Nat.coprime_div_gcd_div_gcd g0
theorem low_id {x : Int} {y : Nat} (h : LowP x y) : lowT x y = x ∧ lowB x y = (y : Int) := by
  unfold lowT lowB
  rw [h.cop]
  simp
theorem low_times {x : Int} {y n : Nat} (h : LowP x y) (hn : 0 < n) : lowT (x * (n : Int)) (y * n) = x ∧ lowB (x * (n : Int)) (y * n) = (y : Int) := by
  unfold lowT lowB
  have e : Nat.gcd (x * (n : Int)).natAbs (y * n) = n := by
    rw [Int.natAbs_mul, Int.natAbs_natCast, Nat.gcd_mul_right, h.cop, Nat.one_mul]
  rw [e]
  have hn2 : (n : Int) ≠ 0 := by omega
  refine ⟨Int.mul_ediv_cancel _ hn2, ?_⟩
  rw [Int.natCast_mul]
  exact Int.mul_ediv_cancel _ hn2
section
variable {P : Program} {w : World} {K : PySem.W.Frag} {mg : Str → Option Value} {base : Heap}
theorem ok_l_ratio {f : Addr} {fd : FuncData} (F : Fun K "_law_ratio" "_law_ratio" s_l_ratio f fd)
    (DD : Fx P w K mg base "_law_draw" 1 ["_law_pen_here", "_law_many"] spDraw) (PP : Fx P w K mg base "_law_pick" 2 ["_law_pen_here", "_law_some"] (spPick K)) (BB : Fx P w K mg base "_law_big" 3 ["_law_pen_here", "_law_figures"] spBig)
    (QQ : Fx P w K mg base "_law_q" 2 ["_law_top", "_law_bottom"] spQ) : FnOk P w K mg base CX0 4 f fd ["_law_pen_here", "_law_figures"] spLra := by
  refine F.ok sc_l_ratio (fun vs H Q E h => ?_) (fun cdv A outer s H vs Q E hr h => ?_)
  · obtain ⟨p, l, c, k, rfl, _⟩ := h
    rfl
  · obtain ⟨p, l, c, k, rfl, hP, hc, hk0, hk1, kk⟩ := h
    have hr1 : Room 1 _ := hr.mono (by decide)
    have hr2 : Room 2 _ := hr.mono (by decide)
    refine ⟨_, (pss_cons (ps_set (i := 2) sc_l_ratio.nd rfl (Or.inl rfl) (pe_fx BB hr (pa_cons (pv 0) (pa_cons (pv 1) pa_nil))))
      (pss_cons (ps_set (i := 3) sc_l_ratio.nd rfl (Or.inl rfl) (pe_fx PP hr2 (pa_cons (pv 0) (pa_cons (pe_lst (pa_cons pe_int (pa_cons pe_int (pa_cons pe_int (pa_cons pe_int (pa_cons pe_int (pa_cons pe_int (pa_cons pe_int (pa_cons (pe_op op_add pe_int (pe_fx DD hr1 (pa_cons (pv 0) (pa_cons pe_int pa_nil)))) pa_nil))))))))) pa_nil))))
      (pss_one (ps_ret (pe_fx QQ hr2 (pa_cons (pe_op op_mul (pe_fx PP hr2 (pa_cons (pv 0) (pa_cons (pe_lst (pa_cons pe_int (pa_cons pe_int (pa_cons (pe_un un_neg pe_int) pa_nil)))) pa_nil))) (pv 2)) (pa_cons (pv 3) pa_nil))))))), ?_⟩
    refine ⟨_, rfl, _, rfl, p, l, c, k, rfl, hP, by omega, hk0, by omega, fun n c1 H1 hn _ hc1 hc2 hP1 K1 => ?_⟩
    refine ⟨_, rfl, _, rfl, p, l, c1, 97, rfl, hP1, by omega, by decide, by decide, fun d H2 hd0 hd1 hP2 B2 => ?_⟩
    refine ⟨_, _, rfl, rfl, (by show 8 ≤ sizeLine; rw [sizeLine_eq]; decide), fun q hq => ?_⟩
    have hP3 : Pen (upd H2 q (.lst [.int 1, .int 1, .int 1, .int 2, .int 3, .int 4, .int 7, .int (1 + d)])) p l (c1 + 1) := hP2.same (same_new hq)
    refine ⟨p, l, q, c1 + 1, _, rfl, hP3, by omega, .inl (.inl (.inl upd_same)), (by show 0 < 8; decide), (by show 8 < 1000; decide), fun v H4 hv hP4 B4 => ?_⟩
    have K4 : Kp p H H4 := ((K1.trans B2.kp).trans (Kp.new hq)).trans B4.kp
    obtain ⟨b, rfl, hb0, hb1⟩ : ∃ b : Nat, v = .int (b : Int) ∧ 0 < b ∧ b < 100 := by
      simp only [List.mem_cons, List.not_mem_nil, or_false] at hv
      rcases hv with rfl | rfl | rfl | rfl | rfl | rfl | rfl | rfl
      · exact ⟨1, rfl, by omega, by omega⟩
      · exact ⟨1, rfl, by omega, by omega⟩
      · exact ⟨1, rfl, by omega, by omega⟩
      · exact ⟨2, rfl, by omega, by omega⟩
      · exact ⟨3, rfl, by omega, by omega⟩
      · exact ⟨4, rfl, by omega, by omega⟩
      · exact ⟨7, rfl, by omega, by omega⟩
      · exact ⟨(1 + d).toNat, by congr 1; omega, by omega, by omega⟩
    refine ⟨_, rfl, _, rfl, (by show 3 ≤ sizeLine; rw [sizeLine_eq]; decide), fun q2 hq2 => ?_⟩
    have hP5 : Pen (upd H4 q2 (.lst [.int 1, .int 1, .int (-1)])) p l (c1 + 1 + 1) := hP4.same (same_new hq2)
    refine ⟨p, l, q2, c1 + 1 + 1, _, rfl, hP5, by omega, .inl (.inl (.inl upd_same)), (by show 0 < 3; decide), (by show 3 < 1000; decide), fun v H6 hv hP6 B6 => ?_⟩
    have K6 : Kp p H H6 := (K4.trans (Kp.new hq2)).trans B6.kp
    obtain ⟨sgn, rfl, hs⟩ : ∃ sgn : Int, v = .int sgn ∧ (sgn = 1 ∨ sgn = -1) := by
      simp only [List.mem_cons, List.not_mem_nil, or_false] at hv
      rcases hv with rfl | rfl | rfl
      · exact ⟨1, rfl, .inl rfl⟩
      · exact ⟨1, rfl, .inl rfl⟩
      · exact ⟨-1, rfl, .inr rfl⟩
    have ab : (sgn * (n : Int)).natAbs = n := by rcases hs with rfl | rfl <;> omega
    have h40 : (sgn * (n : Int)).natAbs < 10 ^ 40 := by
      rw [ab]
      exact Nat.lt_of_lt_of_le hn (Nat.pow_le_pow_right (by decide) (by omega))
    refine ⟨_, rfl, _, _, rfl, rfl, .inl (by rcases hs with rfl | rfl <;> decide), _, rfl, sgn * (n : Int), b, rfl, hb0, Nat.lt_of_lt_of_le hb1 (Nat.le_trans (show 100 ≤ 2 ^ 7 by decide) (Nat.pow_le_pow_right (by decide) (by decide))), fun q3 H7 hq3 s7 hH7 => ?_⟩
    obtain ⟨y, ey, lp⟩ := lowP_of hb0 hb1 h40
    rw [ey] at hH7
    exact kk _ y q3 (c1 + 3) H7 lp hH7 (by omega) (hP6.same s7) (K6.trans (fun b' o _ e => s7 _ _ e))
theorem ok_l_passed {f : Addr} {fd : FuncData} (F : Fun K "_law_passed" "_law_passed" s_l_passed f fd)
    (DD : Fx P w K mg base "_law_draw" 1 ["_law_pen_here", "_law_many"] spDraw) : FnOk P w K mg base CX0 2 f fd ["_law_pen_here", "_law_ratio_here"] (spPas K) := by
  refine F.ok sc_l_passed (fun vs H Q E h => ?_) (fun cdv A outer s H vs Q E hr h => ?_)
  · obtain ⟨p, l, q, c, x, y, rfl, _⟩ := h
    rfl
  · obtain ⟨p, l, q, c, x, y, rfl, hP, hc, hq, lp, kk⟩ := h
    refine ⟨_, (pss_cons (ps_set (i := 2) sc_l_passed.nd rfl (Or.inl rfl) (pe_fx DD hr (pa_cons (pv 0) (pa_cons pe_int pa_nil))))
      (pss_cons (ps_if (PW.pt (pw_and (pt_cmpR op_eq (pv 2) pe_int (nomark _)) (pw_and1 (pt_cmpR op_eq (pe_ix ix_tup (pv 1) pe_int (fun _ _ => rfl)) pe_int (nomark _)))))
        (pss_one (ps_ret (pe_ix ix_tup (pv 1) pe_int (fun _ _ => rfl))))
        pss_nil)
      (pss_cons (ps_if (pt_cmpR op_eq (pv 2) pe_int (nomark _))
        (pss_cons (ps_set (i := 3) sc_l_passed.nd rfl (Or.inl rfl) (pe_op op_add pe_int (pe_fx DD hr (pa_cons (pv 0) (pa_cons pe_int pa_nil)))))
          (pss_one (ps_ret (pe_tup (pa_cons (pe_op op_mul (pe_ix ix_tup (pv 1) pe_int (fun _ _ => rfl)) (pv 3)) (pa_cons (pe_op op_mul (pe_ix ix_tup (pv 1) pe_int (fun _ _ => rfl)) (pv 3)) pa_nil))))))
        pss_nil)
      (pss_one (ps_ret (pv 1)))))), ?_⟩
    refine ⟨_, rfl, p, l, c, 4, rfl, hP, by omega, by decide, by decide, fun d H1 hd0 hd1 hP1 B1 => ?_⟩
    obtain ⟨ns, a, dd, ff, hp0, _⟩ := hP.ex
    have qp : q ≠ p := fun z => by
      rw [z, hp0] at hq
      cases hq
    have hq1 : H1 q = some (.tup [.int x, .int (y : Int)]) := (B1 q qp).trans hq
    have x60 : x.natAbs < 10 ^ 60 := Nat.lt_of_lt_of_le lp.xlt (Nat.pow_le_pow_right (by decide) (by decide))
    have y60 : y < 10 ^ 60 := Nat.lt_of_lt_of_le lp.lt (by decide)
    have self : Q (.ref q) H1 := kk (.ref q) x y (c + 1) H1 (decide_eq_true (show (0 : Int) < (y : Int) from by have := lp.pos; omega) ▸ RatV.two hq1) (.two hq1 lp.pos) (low_id lp).1 (low_id lp).2 x60 lp.pos y60 (by omega) hP1 B1.kp
    have two : 2 ≤ sizeLine := by rw [sizeLine_eq]; decide
    refine ⟨_, rfl, rfl, _, rfl, ?_⟩
    refine ite2 (fun z1 => ?_) (fun z1 => ?_)
    · have z1 : d = 0 := V.int.inj (of_decide_eq_true z1)
      refine ⟨_, rfl, _, _, _, _, rfl, rfl, SqT.of hq1, atI_nat (j := 1) rfl, rfl, _, rfl, ?_⟩
      refine ite2 (fun z2 => ?_) (fun z2 => ?_)
      · have z2 : y = 1 := Int.ofNat.inj (V.int.inj (of_decide_eq_true z2))
        subst z2
        refine ⟨_, rfl, _, _, _, _, rfl, rfl, SqT.of hq1, atI_nat (j := 0) rfl, ?_⟩
        have r : RatV K H1 (.int x) (true && !false) := .oth (.base (.int x)) (by decide +kernel) (by decide +kernel) (by decide +kernel)
        exact kk (.int x) x 1 (c + 1) H1 r (.int x) (low_id lp).1 (low_id lp).2 x60 (by decide) y60 (by omega) hP1 B1.kp
      · exact ⟨_, rfl, rfl, _, rfl, if_f (decide_eq_false fun z => by have := V.int.inj z; omega) ⟨_, rfl, self⟩⟩
    · refine ⟨_, rfl, rfl, _, rfl, ?_⟩
      refine ite2 (fun z2 => ?_) (fun z2 => ⟨_, rfl, self⟩)
      refine ⟨_, rfl, p, l, c + 1, 5, rfl, hP1, by omega, by decide, by decide, fun d2 H2 hd0 hd1 hP2 B2 => ?_⟩
      obtain ⟨n, rfl⟩ := Int.eq_ofNat_of_zero_le hd0
      have hq2 : H2 q = some (.tup [.int x, .int (y : Int)]) := (B2 q qp).trans hq1
      have en : (2 : Int) + (n : Int) = ((n + 2 : Nat) : Int) := by omega
      refine ⟨_, _, rfl, rfl, _, rfl, _, _, _, _, rfl, rfl, SqT.of hq2, atI_nat (j := 0) rfl, _, rfl, _, _, rfl, rfl, .inr ⟨by omega, by omega⟩, _, rfl, _, _, _, _, rfl, rfl, SqT.of hq2, atI_nat (j := 1) rfl, _, rfl, _, _, rfl, rfl, .inr ⟨by omega, by omega⟩, two, fun q3 hq3 => ?_⟩
      have lt := low_times lp (n := n + 2) (by omega)
      have ps : 0 < y * (n + 2) := Nat.mul_pos lp.pos (by omega)
      have hnew : (upd H2 q3 (.tup [.int (x * (2 + (n : Int))), .int ((y : Int) * (2 + (n : Int)))])) q3 = some (.tup [.int (x * ((n + 2 : Nat) : Int)), .int ((y * (n + 2) : Nat) : Int)]) := by
        rw [upd_same, en, Int.natCast_mul]
      have n7 : n + 2 < 7 := by omega
      refine kk (.ref q3) (x * ((n + 2 : Nat) : Int)) (y * (n + 2)) (c + 2) _ (decide_eq_true (show (0 : Int) < ((y * (n + 2) : Nat) : Int) from by omega) ▸ RatV.two hnew) (.two hnew ps) lt.1 lt.2 ?_ ps ?_ (by omega) (hP2.same (same_new hq3)) ((B1.kp.trans B2.kp).trans (Kp.new hq3))
      · rw [Int.natAbs_mul, Int.natAbs_natCast]
        have h1 : x.natAbs * (n + 2) ≤ x.natAbs * 10 := Nat.mul_le_mul_left _ (by omega)
        have h2 : x.natAbs * 10 < 10 ^ 40 * 10 := Nat.mul_lt_mul_of_pos_right lp.xlt (by decide)
        exact Nat.lt_of_le_of_lt h1 (Nat.lt_of_lt_of_le h2 (by decide))
      · have h1 : y * (n + 2) ≤ y * 10 := Nat.mul_le_mul_left _ (by omega)
        have h2 : y * 10 < 100 * 10 := Nat.mul_lt_mul_of_pos_right lp.lt (by decide)
        exact Nat.lt_of_le_of_lt h1 (Nat.lt_of_lt_of_le h2 (by decide))
end
end Z
set_option Elab.async false
set_option linter.all false
set_option maxRecDepth 100000
set_option maxHeartbeats 2000000
namespace Z
open PySem L2 PyProof.Rows
abbrev s_l_begin : Stmt := topS 32
theorem sc_l_begin : FnScope ["_law_pen_here", "_law_way", "_law_zeros", "_law_top", "_law_bottom", "_law_text"] ["_law_pen_here"] (defScope s_l_begin) := ⟨rfl, rfl, rfl, by decide +kernel, rfl, by decide +kernel, by decide +kernel⟩
abbrev s_l_bent : Stmt := topS 33
theorem sc_l_bent : FnScope ["_law_pen_here", "_law_text", "_law_signs", "_law_at", "_law_sign"] ["_law_pen_here", "_law_text"] (defScope s_l_bent) := ⟨rfl, rfl, rfl, by decide +kernel, rfl, by decide +kernel, by decide +kernel⟩
def spBeg : Sp := fun vs H Q _ => ∃ (p l : Addr) (c : Nat), vs = [.ref p] ∧ Pen H p l c ∧ c < 2 ^ 38 ∧
  ∀ (z : Str) (c' : Nat) (H' : Hp), z.length ≤ 100 → c' ≤ c + 200 → Pen H' p l c' → Kp p H H' → Q (.str z) H'
def spBen : Sp := fun vs H Q _ => ∃ (p l : Addr) (c : Nat) (z : Str), vs = [.ref p, .str z] ∧ Pen H p l c ∧ c < 2 ^ 38 ∧ z.length ≤ 150 ∧
  ∀ (z' : Str) (c' : Nat) (H' : Hp), z'.length ≤ z.length + 1 → c' ≤ c + 10 → Pen H' p l c' → Kp p H H' → Q (.str z') H'
theorem zero_is : Str.ofString "0" = SX.S [48] := by decide +kernel
theorem num_text_len {n k : Nat} (hk : 0 < k) (h : n < 10 ^ k) : (Str.ofString (toString ((n : Nat) : Int))).length ≤ k := by
  rw [SX.num_S n, SX.S_len]
  exact TL.numL_len hk h
theorem cut_to {z : Str} {a : Nat} (h : a ≤ z.length) : (cutS z none (some (a : Int))).length = a := by
  unfold cutS
  rw [HT.sIx_nat, Nat.min_eq_left h]
  have e : HT.sIx z.length 0 none = 0 := rfl
  rw [e]
  have hz : z.cps.toList.length = z.length := Array.length_toList
  show ((z.cps.toList.drop 0).take (a - 0)).toArray.size = a
  rw [List.size_toArray, List.length_take, List.length_drop, hz]
  omega
theorem cut_from {z : Str} {a : Nat} : (cutS z (some (a : Int)) none).length = z.length - a := by
  unfold cutS
  rw [HT.sIx_nat]
  have e : HT.sIx z.length z.length none = z.length := rfl
  rw [e]
  have hz : z.cps.toList.length = z.length := Array.length_toList
  show ((z.cps.toList.drop (min a z.length)).take (z.length - min a z.length)).toArray.size = z.length - a
  rw [List.size_toArray, List.length_take, List.length_drop, hz]
  omega
section
variable {P : Program} {w : World} {K : PySem.W.Frag} {mg : Str → Option Value} {base : Heap}
theorem ok_l_begin {f : Addr} {fd : FuncData} (F : Fun K "_law_begin" "_law_begin" s_l_begin f fd) (bs : mg "str" = none)
    (DD : Fx P w K mg base "_law_draw" 1 ["_law_pen_here", "_law_many"] spDraw) (PP : Fx P w K mg base "_law_pick" 2 ["_law_pen_here", "_law_some"] (spPick K)) (BB : Fx P w K mg base "_law_big" 3 ["_law_pen_here", "_law_figures"] spBig) :
    FnOk P w K mg base CX0 4 f fd ["_law_pen_here"] spBeg := by
  refine F.ok sc_l_begin (fun vs H Q E h => ?_) (fun cdv A outer s H vs Q E hr h => ?_)
  · obtain ⟨p, l, c, rfl, _⟩ := h
    rfl
  · obtain ⟨p, l, c, rfl, hP, hc, kk⟩ := h
    have hr1 : Room 1 _ := hr.mono (by decide)
    have hr2 : Room 2 _ := hr.mono (by decide)
    refine ⟨_, (pss_cons (ps_set (i := 1) sc_l_begin.nd rfl (Or.inl rfl) (pe_fx DD hr1 (pa_cons (pv 0) (pa_cons pe_int pa_nil))))
      (pss_cons (ps_if (pt_cmpR op_eq (pv 1) pe_int (nomark _))
        (pss_one (ps_ret (pe_fx PP hr2 (pa_cons (pv 0) (pa_cons (pe_lst (pa_cons pe_str (pa_cons pe_str (pa_cons pe_str (pa_cons pe_str (pa_cons pe_str (pa_cons pe_str (pa_cons pe_str (pa_cons pe_str (pa_cons pe_str (pa_cons pe_str (pa_cons pe_str pa_nil)))))))))))) pa_nil)))))
        pss_nil)
      (pss_cons (ps_set (i := 2) sc_l_begin.nd rfl (Or.inl rfl) (pe_op op_mul_sign pe_str (pe_fx PP hr2 (pa_cons (pv 0) (pa_cons (pe_lst (pa_cons pe_int (pa_cons pe_int (pa_cons pe_int (pa_cons pe_int (pa_cons pe_int pa_nil)))))) pa_nil)))))
      (pss_cons (ps_par (i := 3) (j := 4) (by rfl) sc_l_begin.nd rfl rfl (by decide) rfl rfl (pa_cons (pe_callTy call_str_int (by rfl) bs (by decide +kernel) (pa_cons (pe_fx BB hr (pa_cons (pv 0) (pa_cons pe_int pa_nil))) pa_nil)) (pa_cons (pe_callTy call_str_int (by rfl) bs (by decide +kernel) (pa_cons (pe_op op_add pe_int (pe_fx BB hr (pa_cons (pv 0) (pa_cons pe_int pa_nil)))) pa_nil)) pa_nil)) (by rfl))
      (C8.pss_cut (ps_if (pt_cmpR op_eq (pv 1) pe_int (nomark _))
        (pss_one (ps_par (i := 3) (j := 4) (by rfl) sc_l_begin.nd rfl rfl (by decide) rfl rfl (pa_cons (pe_op op_mul_sign pe_str (pe_op op_add pe_int (pe_fx DD hr1 (pa_cons (pv 0) (pa_cons pe_int pa_nil))))) (pa_cons (pe_callTy call_str_int (by rfl) bs (by decide +kernel) (pa_cons (pe_fx DD hr1 (pa_cons (pv 0) (pa_cons pe_int pa_nil))) pa_nil)) pa_nil)) (by rfl)))
        pss_nil)
      (C8.pss_cut (ps_set (i := 5) sc_l_begin.nd rfl (Or.inl rfl) (pe_ifExp (pt_cmpR op_eq (pv 1) pe_int (nomark _)) (pe_op op_add_str (pv 2) (pv 3)) (pe_op op_add_str (pe_op op_add_str (pe_op op_add_str (pv 3) pe_str) (pe_slice sl_str (pv 2) po_none (po_some pe_int))) (pv 4))))
      (pss_one (ps_ret (pe_op op_add_str (pe_fx PP hr2 (pa_cons (pv 0) (pa_cons (pe_lst (pa_cons pe_str (pa_cons pe_str (pa_cons pe_str pa_nil)))) pa_nil))) (pv 5)))))))))), ?_⟩
    refine ⟨_, rfl, p, l, c, 6, rfl, hP, by omega, by decide, by decide, fun d H1 hd0 hd1 hP1 B1 => ?_⟩
    refine ⟨_, rfl, rfl, _, rfl, ?_⟩
    refine ite2 (fun z1 => ?_) (fun z1 => ?_)
    · refine ⟨_, rfl, (by show 11 ≤ sizeLine; rw [sizeLine_eq]; decide), fun q hq => ?_⟩
      refine ⟨p, l, q, c + 1, _, rfl, hP1.same (same_new hq), by omega, .inl (.inl (.inl upd_same)), (by show 0 < 11; decide), (by show 11 < 1000; decide), fun v H4 hv hP4 B4 => ?_⟩
      obtain ⟨z, rfl, hz⟩ : ∃ z : Str, v = .str z ∧ z.length ≤ 6 := by
        simp only [List.mem_cons, List.not_mem_nil, or_false] at hv
        rcases hv with rfl | rfl | rfl | rfl | rfl | rfl | rfl | rfl | rfl | rfl | rfl
        all_goals exact ⟨_, rfl, by decide +kernel⟩
      exact kk z (c + 2) H4 (by omega) (by omega) hP4 ((B1.kp.trans (Kp.new hq)).trans B4.kp)
    · refine ⟨_, rfl, (by show 5 ≤ sizeLine; rw [sizeLine_eq]; decide), fun q hq => ?_⟩
      refine ⟨p, l, q, c + 1, _, rfl, hP1.same (same_new hq), by omega, .inl (.inl (.inl upd_same)), (by show 0 < 5; decide), (by show 5 < 1000; decide), fun v H4 hv hP4 B4 => ?_⟩
      have K4 : Kp p H H4 := (B1.kp.trans (Kp.new hq)).trans B4.kp
      obtain ⟨n, rfl, hn⟩ : ∃ n : Nat, v = .int (n : Int) ∧ n ≤ 3 := by
        simp only [List.mem_cons, List.not_mem_nil, or_false] at hv
        rcases hv with rfl | rfl | rfl | rfl | rfl
        · exact ⟨0, rfl, by omega⟩
        · exact ⟨0, rfl, by omega⟩
        · exact ⟨0, rfl, by omega⟩
        · exact ⟨1, rfl, by omega⟩
        · exact ⟨3, rfl, by omega⟩
      refine ⟨48, n, congrArg V.str zero_is, rfl, by omega, ?_⟩
      have zl : (SX.S (List.replicate n 48)).length = n := by rw [SX.S_len, List.length_replicate]
      have up40 : (10 : Nat) ^ 40 ≤ 10 ^ 200 := Nat.pow_le_pow_right (by decide) (by decide)
      refine ⟨_, rfl, p, l, c + 2, 40, rfl, hP4, by omega, by decide, by decide, fun a c5 H5 ha _ hc5 hc5' hP5 K5 => ?_⟩
      refine ⟨_, rfl, log2_small (show (a : Int).natAbs < 10 ^ 200 from Nat.lt_of_lt_of_le ha up40), ?_⟩
      refine ⟨_, rfl, p, l, c5, 30, rfl, hP5, by omega, by decide, by decide, fun b c6 H6 hb _ hc6 hc6' hP6 K6 => ?_⟩
      have b1 : 1 + b < 10 ^ 31 := by
        have : (10 : Nat) ^ 31 = 10 ^ 30 * 10 := by rw [← Nat.pow_succ]
        omega
      have eb : (1 : Int) + (b : Int) = ((1 + b : Nat) : Int) := by omega
      refine ⟨_, _, rfl, rfl, _, rfl, log2_small (show ((1 : Int) + (b : Int)).natAbs < 10 ^ 200 from eb ▸ Nat.lt_of_lt_of_le b1 (Nat.pow_le_pow_right (by decide) (by decide))), _, _, rfl, ?_⟩
      have la : (Str.ofString (toString ((a : Nat) : Int))).length ≤ 40 := num_text_len (by decide) ha
      have lb : (Str.ofString (toString ((1 : Int) + (b : Int)))).length ≤ 31 := by rw [eb]; exact num_text_len (by decide) b1
      refine ⟨fun σ' H' => ∃ (ts bs : Str) (c7 : Nat), σ' = [some (.ref p), some (.int d), some (.str (SX.S (List.replicate n 48))), some (.str ts), some (.str bs), none] ∧ ts.length ≤ 40 ∧ bs.length ≤ 31 ∧ c7 ≤ c + 150 ∧ Pen H' p l c7 ∧ Kp p H H', ?_, ?_⟩
      · refine ⟨_, rfl, rfl, _, rfl, ?_⟩
        refine ite2 (fun z2 => ?_) (fun z2 => ⟨_, _, c6, rfl, la, lb, by omega, hP6, (K4.trans K5).trans K6⟩)
        refine ⟨_, rfl, p, l, c6, 4, rfl, hP6, by omega, by decide, by decide, fun d2 H7 hd20 hd21 hP7 B7 => ?_⟩
        obtain ⟨m, rfl⟩ := Int.eq_ofNat_of_zero_le hd20
        refine ⟨_, _, rfl, rfl, 48, 1 + m, congrArg V.str zero_is, congrArg V.int (show (1 : Int) + (m : Int) = ((1 + m : Nat) : Int) by omega), by omega, ?_⟩
        refine ⟨_, rfl, p, l, c6 + 1, 3, rfl, hP7, by omega, by decide, by decide, fun d3 H8 hd30 hd31 hP8 B8 => ?_⟩
        obtain ⟨k, rfl⟩ := Int.eq_ofNat_of_zero_le hd30
        refine ⟨_, rfl, log2_small (show (k : Int).natAbs < 10 ^ 200 from Nat.lt_of_lt_of_le (show k < 3 by omega) (Nat.le_trans (show 3 ≤ 10 ^ 1 by decide) (Nat.pow_le_pow_right (by decide) (by decide)))), _, _, rfl, ?_⟩
        exact ⟨_, _, c6 + 2, rfl, by rw [SX.S_len, List.length_replicate]; omega, Nat.le_trans (num_text_len (n := k) (k := 1) (by decide) (by omega)) (by decide), by omega, hP8, (((K4.trans K5).trans K6).trans B7.kp).trans B8.kp⟩
      · rintro σ' H7 ⟨ts, bs', c7, rfl, lt, lbs, hc7, hP7, K7⟩
        refine ⟨fun σ' H' => ∃ tx : Str, σ' = [some (.ref p), some (.int d), some (.str (SX.S (List.replicate n 48))), some (.str ts), some (.str bs'), some (.str tx)] ∧ tx.length ≤ 90 ∧ H' = H7, ?_, ?_⟩
        · have lsl : (Str.ofString "/").length = 1 := by decide +kernel
          refine ⟨_, rfl, rfl, _, rfl, ?_⟩
          refine ite2 (fun z3 => ?_) (fun z3 => ?_)
          · refine ⟨_, rfl, _, rfl, _, _, rfl, rfl, by rw [zl, sizeLine_eq]; omega, ?_⟩
            exact ⟨_, rfl, by rw [add_len, zl]; omega, rfl⟩
          · refine ⟨_, rfl, _, _, rfl, rfl, by rw [lsl, sizeLine_eq]; omega, ?_⟩
            have lcut := cutS_length (SX.S (List.replicate n 48)) none (some 2)
            rw [zl] at lcut
            refine ⟨_, rfl, _, rfl, _, rfl, by rw [zl, sizeLine_eq]; omega, _, _, rfl, rfl, by rw [add_len, lsl, sizeLine_eq]; omega, _, rfl, _, _, rfl, rfl, by rw [add_len, add_len, lsl, sizeLine_eq]; omega, ?_⟩
            exact ⟨_, rfl, by rw [add_len, add_len, add_len, lsl]; omega, rfl⟩
        · rintro σ' H8 ⟨tx, rfl, ltx, rfl⟩
          refine ⟨_, rfl, (by show 3 ≤ sizeLine; rw [sizeLine_eq]; decide), fun q2 hq2 => ?_⟩
          refine ⟨p, l, q2, c7, _, rfl, hP7.same (same_new hq2), by omega, .inl (.inl (.inl upd_same)), (by show 0 < 3; decide), (by show 3 < 1000; decide), fun v H9 hv hP9 B9 => ?_⟩
          obtain ⟨z, rfl, hz⟩ : ∃ z : Str, v = .str z ∧ z.length ≤ 1 := by
            simp only [List.mem_cons, List.not_mem_nil, or_false] at hv
            rcases hv with rfl | rfl | rfl
            all_goals exact ⟨_, rfl, by decide +kernel⟩
          refine ⟨_, rfl, _, _, rfl, rfl, by rw [sizeLine_eq]; omega, ?_⟩
          exact kk _ (c7 + 1) H9 (by rw [add_len]; omega) (by omega) hP9 ((K7.trans (Kp.new hq2)).trans B9.kp)
end
end Z
set_option Elab.async false
set_option linter.all false
set_option maxRecDepth 100000
set_option maxHeartbeats 2000000
namespace Z
open PySem L2 PyProof.Rows
section
variable {P : Program} {w : World} {K : PySem.W.Frag} {mg : Str → Option Value} {base : Heap}
theorem ok_l_bent {f : Addr} {fd : FuncData} (F : Fun K "_law_bent" "_law_bent" s_l_bent f fd) (bn : mg "len" = none)
    (DD : Fx P w K mg base "_law_draw" 1 ["_law_pen_here", "_law_many"] spDraw) (PP : Fx P w K mg base "_law_pick" 2 ["_law_pen_here", "_law_some"] (spPick K)) :
    FnOk P w K mg base CX0 3 f fd ["_law_pen_here", "_law_text"] spBen := by
  refine F.ok sc_l_bent (fun vs H Q E h => ?_) (fun cdv A outer s H vs Q E hr h => ?_)
  · obtain ⟨p, l, c, z, rfl, _⟩ := h
    rfl
  · obtain ⟨p, l, c, z, rfl, hP, hc, hz, kk⟩ := h
    have hr1 : Room 1 _ := hr.mono (by decide)
    refine ⟨_, (pss_cons (ps_set (i := 2) sc_l_bent.nd rfl (Or.inl rfl) pe_str)
      (C8.pss_cut (ps_set (i := 3) sc_l_bent.nd rfl (Or.inl rfl) (pe_ifExp (pt_cmpR op_gt (pe_fx DD hr1 (pa_cons (pv 0) (pa_cons pe_int pa_nil))) pe_int (nomark _)) (pe_fx DD hr1 (pa_cons (pv 0) (pa_cons (pe_op op_add (pe_callB call_len (by rfl) bn (by decide +kernel) (pa_cons (pv 1) pa_nil)) pe_int) pa_nil))) (pe_callB call_len (by rfl) bn (by decide +kernel) (pa_cons (pv 1) pa_nil))))
      (pss_cons (ps_set (i := 4) sc_l_bent.nd rfl (Or.inl rfl) (pe_fx PP hr (pa_cons (pv 0) (pa_cons (pe_lst (pa_cons pe_str (pa_cons (pe_ix ix_str (pv 2) (pe_fx DD hr1 (pa_cons (pv 0) (pa_cons (pe_callB call_len (by rfl) bn (by decide +kernel) (pa_cons (pv 2) pa_nil)) pa_nil))) (fun _ _ => rfl)) (pa_cons pe_str (pa_cons pe_str (pa_cons pe_str (pa_cons pe_str pa_nil))))))) pa_nil))))
      (pss_one (ps_ret (pe_op op_add_str (pe_op op_add_str (pe_slice sl_str (pv 1) po_none (po_some (pv 3))) (pv 4)) (pe_slice sl_str (pv 1) (po_some (pe_op op_add (pv 3) (pe_fx DD hr1 (pa_cons (pv 0) (pa_cons pe_int pa_nil))))) po_none))))))), ?_⟩
    have zs : z.length ≤ sizeLine := by rw [sizeLine_eq]; omega
    refine ⟨fun σ' H' => ∃ (sg : Str) (a c1 : Nat), σ' = [some (.ref p), some (.str z), some (.str sg), some (.int (a : Int)), none] ∧ 0 < sg.length ∧ sg.length ≤ 200 ∧ a ≤ z.length ∧ c1 ≤ c + 2 ∧ Pen H' p l c1 ∧ Kp p H H', ?_, ?_⟩
    · refine ⟨_, rfl, p, l, c, 3, rfl, hP, by omega, by decide, by decide, fun d H1 hd0 hd1 hP1 B1 => ?_⟩
      refine ⟨_, _, rfl, rfl, _, rfl, ?_⟩
      refine ite2 (fun z1 => ?_) (fun z1 => ?_)
      · refine ⟨_, rfl, _, rfl, .str z, z.length, rfl, ⟨zs, rfl⟩, _, _, rfl, rfl, p, l, c + 1, _, rfl, hP1, by omega, (by show (0 : Int) < ((z.length : Nat) : Int) + 1; omega), (by show ((z.length : Nat) : Int) + 1 < 1073741824; omega), fun d2 H2 hd20 hd21 hP2 B2 => ?_⟩
        obtain ⟨a, rfl⟩ := Int.eq_ofNat_of_zero_le hd20
        refine ⟨_, a, c + 2, rfl, by decide +kernel, by decide +kernel, ?_, by omega, hP2, B1.kp.trans B2.kp⟩
        have : (a : Int) < ((z.length : Nat) : Int) + 1 := hd21
        omega
      · refine ⟨_, rfl, .str z, z.length, rfl, ⟨zs, rfl⟩, ?_⟩
        exact ⟨_, z.length, c + 1, rfl, by decide +kernel, by decide +kernel, Nat.le_refl _, by omega, hP1, B1.kp⟩
    · rintro σ' H1 ⟨sg, a, c1, rfl, sg0, sg1, ha, hc1, hP1, K1⟩
      have ss : sg.length ≤ sizeLine := by rw [sizeLine_eq]; omega
      refine ⟨_, rfl, _, rfl, _, rfl, _, rfl, .str sg, sg.length, rfl, ⟨ss, rfl⟩, p, l, c1, _, rfl, hP1, by omega, (by show (0 : Int) < ((sg.length : Nat) : Int); omega), (by show ((sg.length : Nat) : Int) < 1073741824; omega), fun d H2 hd0 hd1 hP2 B2 => ?_⟩
      obtain ⟨j, rfl⟩ := Int.eq_ofNat_of_zero_le hd0
      have hj : j < sg.cps.toList.length := by
        have e : sg.cps.toList.length = sg.length := Array.length_toList
        have : (j : Int) < ((sg.length : Nat) : Int) := hd1
        omega
      refine ⟨sg, _, _, rfl, rfl, ss, atI_nat (List.getElem?_eq_getElem hj), (by show 6 ≤ sizeLine; rw [sizeLine_eq]; decide), fun q hq => ?_⟩
      refine ⟨p, l, q, c1 + 1, _, rfl, hP2.same (same_new hq), by omega, .inl (.inl (.inl upd_same)), (by show 0 < 6; decide), (by show 6 < 1000; decide), fun v H4 hv hP4 B4 => ?_⟩
      obtain ⟨y, rfl, hy⟩ : ∃ y : Str, v = .str y ∧ y.length ≤ 1 := by
        simp only [List.mem_cons, List.not_mem_nil, or_false] at hv
        rcases hv with rfl | rfl | rfl | rfl | rfl | rfl
        · exact ⟨_, rfl, by decide +kernel⟩
        · exact ⟨_, rfl, Nat.le_refl 1⟩
        all_goals exact ⟨_, rfl, by decide +kernel⟩
      have K4 : Kp p H H4 := ((K1.trans B2.kp).trans (Kp.new hq)).trans B4.kp
      have l1 := cut_to ha
      refine ⟨_, rfl, _, rfl, _, rfl, _, rfl, zs, _, rfl, _, _, rfl, rfl, by rw [l1, sizeLine_eq]; omega, ?_⟩
      refine ⟨_, rfl, _, rfl, _, rfl, p, l, c1 + 2, 2, rfl, hP4, by omega, by decide, by decide, fun d2 H5 hd20 hd21 hP5 B5 => ?_⟩
      obtain ⟨k, rfl⟩ := Int.eq_ofNat_of_zero_le hd20
      have l2 := cut_from (z := z) (a := a + k)
      refine ⟨_, _, rfl, rfl, _, rfl, _, rfl, zs, _, _, rfl, rfl, ?_, ?_⟩
      · show (cutS z none (some (a : Int)) ++ y).length + (cutS z (some ((a + k : Nat) : Int)) none).length ≤ _
        rw [add_len, l1, l2, sizeLine_eq]
        omega
      · refine kk _ (c1 + 3) H5 ?_ (by omega) hP5 (K4.trans B5.kp)
        show ((cutS z none (some (a : Int)) ++ y) ++ cutS z (some ((a + k : Nat) : Int)) none).length ≤ _
        rw [add_len, add_len, l1, l2]
        omega
end
end Z
set_option Elab.async false
set_option linter.all false
set_option maxRecDepth 100000
set_option maxHeartbeats 2000000
namespace Z
open PySem L2 PyProof.Rows
/-- isinstance(e, c) in a suite, e the own exception with fields that is held -/
def rIsD (K : PySem.W.Frag) (a : Addr) (cls : Value) (d : Option Addr) (C : Addr) : List V → Hp → VK → Prop := fun xs H Q => ∃ (c : V) (cv : Value) (b : Bool) (dd : Addr) (fs : List (Str × V)),
  xs = [.ref a, c] ∧ cls = .ref C ∧ d = some dd ∧ H dd = some (.xd fs) ∧ (∀ u, RelV c u → u = cv) ∧ PySem.W.kitOne K (.ref C) cv = some b ∧ Q (.bl b) H
theorem call_isD {X : Cx} {a C : Addr} {oe : Obj} {cls : Value} {d : Option Addr} {pn : List (Addr × Obj)} (T : XC X.K C) (hz : Zc cls d oe) (hf : ∃ vs, oe.data = .fields vs) : CallR (X.suite a ((a, oe) :: pn)) (.builtin "isinstance") (rIsD X.K a cls d C) := by
  intro pins s σ H xs us Q I r h
  obtain ⟨c, cv, b, dd, fs, rfl, ec, ed, ea, hc, hk, q⟩ := h
  subst ec
  subst ed
  obtain ⟨u1, u2, rfl, r1, r2⟩ := vals2 r
  cases r1
  cases hc _ r2
  obtain ⟨ha, _⟩ := I.pin (a, oe) (List.mem_append_left _ List.mem_cons_self)
  obtain ⟨vs, hd⟩ := hf
  have hx : ObjOk X.prog X.w H s.heap dd (.xd fs) := I.hok dd _ ea
  obtain ⟨mA, hns, hr⟩ := hx
  obtain ⟨od, ho, hl⟩ := lookIn_ns hns
  have J : PySem.W.InstAt s.heap a oe C (some od) := ⟨ha, hz.1, by unfold PySem.W.notCls; rw [hd] <;> rfl, by rw [hz.2]; exact ho⟩
  exact PySem.W.kia_one (PySem.W.kitx_exc (od := some od) T.cl T.ga T.gg T.oe.exC T.ha T.hn T.ht T.hm) I.kIn J hk (fun z => nomatch z) fun tk => ⟨.bl b, H, I.tok tk, rfl, q⟩
/-- what the top says of a class of errors -/
structure Bad (K : PySem.W.Frag) (mg : Str → Option Value) (x : Str) (C : Addr) : Prop where
  xc : XC K C
  g : mg x = some (.ref C)
  te : PySem.W.exmOne K (.ref C) (.ref C) = some true
theorem Bad.xf {K : PySem.W.Frag} {mg : Str → Option Value} {x : Str} {C : Addr} (T : Bad K mg x C) : XfC K C := ⟨T.xc.ga, T.xc.gg, T.xc.oe.exC, T.xc.hd⟩
abbrev s_l_read : Stmt := topS 31
theorem sc_l_read : FnScope ["_law_value", "_law_found", "e"] ["_law_value"] (defScope s_l_read) := ⟨rfl, rfl, rfl, by decide +kernel, rfl, by decide +kernel, by decide +kernel⟩
section
variable {P : Program} {w : World} {K : PySem.W.Frag} {mg : Str → Option Value} {base : Heap}
theorem due_low {cs : List Nat} {x y : Int} (h : due cs = .pair x y) : 0 < y ∧ Nat.gcd x.natAbs y.natAbs = 1 := by
  have lw : ∀ (t : Int) (b : Nat), 0 < b → low t b = .pair x y → 0 < y ∧ Nat.gcd x.natAbs y.natAbs = 1 := by
    intro t b hb e
    unfold low at e
    injection e with e1 e2
    have g0 : 0 < Nat.gcd t.natAbs b := Nat.gcd_pos_of_pos_right _ hb
    have dv : ((Nat.gcd t.natAbs b : Nat) : Int) ∣ t := Int.dvd_natAbs.mp (Int.natCast_dvd_natCast.mpr (Nat.gcd_dvd_left _ _))
    have h1 : x.natAbs = t.natAbs / Nat.gcd t.natAbs b := by
      rw [← e1, Int.natAbs_ediv_of_dvd dv, Int.natAbs_natCast]
    have h2 : y = ((b / Nat.gcd t.natAbs b : Nat) : Int) := e2.symm
    have h3 : 0 < b / Nat.gcd t.natAbs b := Nat.div_pos (Nat.le_of_dvd hb (Nat.gcd_dvd_right _ _)) g0
    refine ⟨by omega, ?_⟩
    rw [h1, h2, Int.natAbs_natCast]
    exact Nat.coprime_div_gcd_div_gcd g0
  simp only [due] at h
  split at h
  · cases h
  · split at h
    · injection h with h1 h2
      subst h1 h2
      refine ⟨by decide, ?_⟩
      show Nat.gcd _ 1 = 1
      exact Nat.gcd_one_right _
    · split at h
      · cases h
      · split at h
        · cases h
        · split at h
          · cases h
          · split at h
            · cases h
            · exact lw _ _ (by omega) h
theorem ok_l_read {f CT CM fR : Addr} {fd fdR : FuncData} (F : Fun K "_law_read" "_law_read" s_l_read f fd) (T : Bad K mg "BadText" CT) (gM : mg "MendError" = some (.ref CM)) (bI : mg "isinstance" = none) (bV : mg "ValueError" = none)
    (noL : PySem.W.findIn K (.ref CT) "line" = some none) (noC : PySem.W.findIn K (.ref CT) "column" = some none) (kM : PySem.W.kitOne K (.ref CT) (.ref CM) = some true) (kV : PySem.W.kitOne K (.ref CT) (.type "ValueError") = some true)
    (GR : FnOk P w K mg base (L2.CX P w) 4 fR fdR ["text"] (spRof K CT)) (gR : mg "ratio_of" = some (.ref fR)) (kR : PySem.W.keepIn K (.ref fR) = true) (bR : Binds K fdR ["text"] [])
    (LL : Fx P w K mg base "_law_is_ratio" 2 ["_law_value"] spLir) : FnOk P w K mg base CX0 5 f fd ["_law_value"] (spDue K) := by
  refine F.ok sc_l_read (fun vs H Q E h => ?_) (fun cdv A outer s H vs Q E hr h => ?_)
  · obtain ⟨cs, rfl, _⟩ := h
    rfl
  · obtain ⟨cs, rfl, hl, k⟩ := h
    have hr2 : Room 2 _ := hr.mono (by decide)
    refine ⟨_, (pss_cons (ps_try_as (i := 2) (tb := fun W => tAsg (tCallS (spRof K CT) (WE W) (tCons (tVar 0) tNil)) (gName 1)) (ts := _) (Wout := fun _ _ _ _ => False) rfl rfl sc_l_read.nd rfl rfl ⟨rfl, by decide, Or.inl T.g⟩ takes0
          (fun W pn xe tk _ => pss_one (ps_set (i := 1) sc_l_read.nd rfl (Or.inl rfl) (by exact (pe_callS GR hr rfl gR kR bR (fun σ => passAt tk σ) (by exact (pa_cons (pv 0) pa_nil))))))
          (fun a oe cls d pn hz hf => (pss_cons (ps_if (PW.pt (pw_or (pt_not (pt_val (pe_callB (call_isD T.xc hz hf) (by rfl) bI (by decide +kernel) (pa_cons (pv 2) (pa_cons (pe_glob (v := .ref CM) rfl gM rfl) pa_nil))))) (pw_or (pt_not (pt_val (pe_callB (call_isD T.xc hz hf) (by rfl) bI (by decide +kernel) (pa_cons (pv 2) (pa_cons (pe_bltn (v := .ty "ValueError") (by rfl) bV (by decide +kernel) rfl) pa_nil))))) (pw_or1 (pt_cmpR op_ne (pe_xf T.xf noL hz hf (pv 2)) pe_int (nomark _))))))
              (pss_one (ps_ret (pe_tup (pa_cons pe_str (pa_cons pe_int pa_nil)))))
              pss_nil)
            (pss_one (ps_ret (pe_tup (pa_cons pe_str (pa_cons (pe_xf T.xf noC hz hf (pv 2)) pa_nil))))))))
      (pss_one (ps_ret (pe_ifExp (pt_val (pe_fx LL hr2 (pa_cons (pv 1) pa_nil))) (pe_tup (pa_cons pe_str (pa_cons (pv 1) pa_nil))) (pe_tup (pa_cons pe_str (pa_cons pe_int pa_nil))))))), ?_⟩
    have two : 2 ≤ sizeLine := by rw [sizeLine_eq]; decide
    refine ⟨_, rfl, _, rfl, .inr ⟨cs, rfl, hl, fun n hn d H1 hd s1 hx => ?_, fun x y p H1 e hp s1 hH => ?_⟩⟩
    · refine ⟨true, T.te, fun _ a0 _ => ?_, fun q => Bool.noConfusion q⟩
      refine ⟨_, rfl, .ref CM, .ref CM, true, d, _, rfl, rfl, rfl, hx, (fun _ h => h), kM, _, rfl, if_f rfl ?_⟩
      refine ⟨_, rfl, .ty "ValueError", .type "ValueError", true, d, _, rfl, rfl, rfl, hx, (fun _ h => h), kV, _, rfl, if_f rfl ?_⟩
      refine ⟨_, rfl, rfl, rfl, d, _, .int 1, rfl, hx, by kernel_rfl, rfl, _, rfl, if_f (by decide +kernel) ?_⟩
      refine ⟨_, rfl, rfl, rfl, d, _, .int (n : Int), rfl, hx, by kernel_rfl, two, fun p hp => k p _ (s1.trans (same_new hp)) ?_⟩
      rw [hn]
      exact dp_col upd_same
    · have lw := due_low e
      refine ⟨_, rfl, p, x, y, rfl, hH, lw.1, lw.2, _, rfl, if_t rfl ?_⟩
      refine ⟨_, rfl, two, fun q hq => k q _ (s1.trans (same_new hq)) ?_⟩
      rw [e]
      have ne : p ≠ q := fun z => by rw [← z, hH] at hq; cases hq
      exact dp_pair upd_same ((upd_ne ne).trans hH)
end
end Z
set_option Elab.async false
set_option linter.all false
set_option maxRecDepth 100000
set_option maxHeartbeats 4000000
namespace Z
open PySem L2 PyProof.Rows
abbrev s_law : Stmt := topS 34
theorem sc_law : FnScope ["_law_script", "_law_pen_here", "_law_turn", "_law_text", "_law_bend", "_law_odd", "e", "_law_one", "_law_told"] ["_law_script"] (defScope s_law) := ⟨rfl, rfl, rfl, by decide +kernel, rfl, by decide +kernel, by decide +kernel⟩
def spLaw (K : PySem.W.Frag) : Sp := fun vs H Q _ => ∃ (a : Addr) (ns : List Int), vs = [.ref a] ∧ SqL K H a (ns.map V.int) ∧ ns.length ≤ 63 ∧ ∀ H', Q (.bl true) H'
/-- what the law leans on -/
structure TL (P : Program) (w : World) (K : PySem.W.Frag) (mg : Str → Option Value) (base : Heap) (CT CN : Addr) : Prop where
  f_l_pen : Fx P w K mg base "_law_pen" 1 ["_law_script"] (spPen K)
  f_l_begin : Fx P w K mg base "_law_begin" 4 ["_law_pen_here"] spBeg
  f_l_read : Fx P w K mg base "_law_read" 5 ["_law_value"] (spDue K)
  f_l_due : Fx P w K mg base "_law_due" 3 ["_law_text"] (spDue K)
  f_l_bent : Fx P w K mg base "_law_bent" 3 ["_law_pen_here", "_law_text"] spBen
  f_l_ratio : Fx P w K mg base "_law_ratio" 4 ["_law_pen_here", "_law_figures"] spLra
  f_l_passed : Fx P w K mg base "_law_passed" 2 ["_law_pen_here", "_law_ratio_here"] (spPas K)
  f_l_written : Fx P w K mg base "_law_written" 1 ["_law_one"] spWri
  bt : Bad K mg "BadText" CT
  bn : Bad K mg "BadNumber" CN
  noL : PySem.W.findIn K (.ref CT) "line" = some none
  noC : PySem.W.findIn K (.ref CT) "column" = some none
  noW : PySem.W.findIn K (.ref CN) "what" = some none
  noN : PySem.W.findIn K (.ref CN) "number" = some none
  b_range : mg "range" = none
  b_repr : mg "repr" = none
  b_isinstance : mg "isinstance" = none
  b_bool : mg "bool" = none
theorem shp_res : ∀ r : Res, SeqAt.shaped (resD r) = true
  | .col n => by
    simp [SeqAt.shaped, resD, PyData.canLay0, PyData.canLayAll0, PyData.depth, PyData.depthAll]
    decide +kernel
  | .pair a b => by
    simp [SeqAt.shaped, resD, PyData.canLay0, PyData.canLayAll0, PyData.depth, PyData.depthAll]
    decide +kernel
theorem call_reprS {X : Cx} {a : Addr} {pn : List (Addr × Obj)} (hg : X.A.guards = some []) (hu : X.A.units + 64 < cLine) : CallR (X.suite a pn) (.builtin "repr") (rRepD X.K) := call_reprD (X := X.suite a pn) hg hu
theorem op_neS {X : Cx} {a : Addr} {pn : List (Addr × Obj)} (hu : X.A.units + 64 < cLine) : OpR (X.suite a pn) (compareOp .NotEq) (rNeD X.K) := op_neD (X := X.suite a pn) hu
/-- try: body except x as n: suite, as one word -/
def tTryAs (K : PySem.W.Frag) (c : Value) (i : Nat) (tb : WX → TS) (ts : Addr → Value → Option Addr → TS) (Wout : WX) : TS := fun D σ H => tb (wAs K c i ts Wout D) D σ H
section
variable {X : Cx} {x n : Str} {c : Value} {i : Nat} {body suite : List Stmt} {b₀ : Stmt} {np pos pos' : Pos} {tb : WX → TS} {ts : Addr → Value → Option Addr → TS} {Wout : WX}
theorem ps_tryAs (hs : X.stack = X.env :: X.outer) (hf : X.env.frame = some X.env.locals) (hN : X.N.Nodup) (hi : X.N[i]? = some n) (hln : X.env.kindOf n = some .local) (hc : Names X x c) (tk : Takes X Wout)
    (hb : ∀ (W : WX) (pn : List (Addr × Obj)) (xe : Value → Shared → Prop), Takes (X.tr pn xe) W → PassesOwn (model X.prog X.w) X.A X.env xe → PSs (X.tr pn xe) body (tb W))
    (hsu : ∀ (a : Addr) (oe : Obj) (cls : Value) (d : Option Addr) (pn : List (Addr × Obj)), Zc cls d oe → (∃ vs, oe.data = .fields vs) → PSs (X.suite a ((a, oe) :: pn)) (b₀ :: suite) (ts a cls d)) :
    PS X (.Try body [.ExceptHandler (some (.Name x np)) (some n) (b₀ :: suite) pos'] [] [] pos) (tTryAs X.K c i tb ts Wout) := ps_try_as hs hf hN hi hln hc tk hb hsu
end
/-- values that are no ratios, as data -/
def okD (d : PyData) : Bool := PyData.showable d && (!PyData.hasDict d) && decide (d.depth ≤ 40) && decide (d.shown.length ≤ 100) && SeqAt.shaped (.tuple [.str "ratio", .str d.shown])
structure Odd (K : PySem.W.Frag) (H : Hp) (v : V) (d : PyData) : Prop where
  rat : RatV K H v false
  dp : Dp K H v d
  ok : okD d = true
theorem okD_all {d : PyData} (h : okD d = true) : PyData.showable d = true ∧ PyData.hasDict d = false ∧ d.depth ≤ 40 ∧ d.shown.length ≤ sizeLine ∧ SeqAt.shaped (.tuple [.str "ratio", .str d.shown]) = true := by
  unfold okD at h
  simp only [Bool.and_eq_true, Bool.not_eq_true', decide_eq_true_eq] at h
  obtain ⟨⟨⟨⟨h1, h2⟩, h3⟩, h4⟩, h5⟩ := h
  exact ⟨h1, h2, h3, by rw [sizeLine_eq]; omega, h5⟩
theorem str_tl (y : Str) : [V.str y] = [V.str (SX.S y.cps.toList)] := congrArg (fun z => [V.str z]) (SX.S_tl y).symm
section
variable {P : Program} {w : World} {K : PySem.W.Frag} {mg : Str → Option Value} {base : Heap}
theorem ok_law {f CT CN fT fR : Addr} {fd fdT fdR : FuncData} (F : Fun K "law" "law" s_law f fd) (T : TL P w K mg base CT CN)
    (GT : FnOk P w K mg base (L2.CX P w) 3 fT fdT ["ratio"] (spRtx K CN)) (gT : mg "ratio_text" = some (.ref fT)) (kT : PySem.W.keepIn K (.ref fT) = true) (bT : Binds K fdT ["ratio"] [])
    (GR : FnOk P w K mg base (L2.CX P w) 4 fR fdR ["text"] (spRof K CT)) (gR : mg "ratio_of" = some (.ref fR)) (kR : PySem.W.keepIn K (.ref fR) = true) (bR : Binds K fdR ["text"] []) :
    FnG P w K mg base CX0 6 f fd ["_law_script"] (spLaw K) := by
  refine fnG_of F sc_law (fun vs H Q E h => ?_) (fun cdv A hgA outer s H vs Q E hr h => ?_)
  · obtain ⟨a, ns, rfl, _⟩ := h
    rfl
  · obtain ⟨a, ns, rfl, hS, hl, k⟩ := h
    have hgd : (A.deeper (envOfC "law" (defScope s_law) s.heap.objs.size f cdv)).guards = some [] := hgA
    have hr3 : Room 3 _ := hr.mono (by decide)
    have hr4 : Room 4 _ := hr.mono (by decide)
    refine ⟨_, (pss_cons (ps_set (i := 1) sc_law.nd rfl (Or.inl rfl) (pe_fx T.f_l_pen (hr.mono (by decide)) (pa_cons (pv 0) pa_nil)))
      (C8.pss_cut (ps_for PassesOwn.never rfl (pi_range1 (by rfl) T.b_range (pa_cons pe_int pa_nil)) (pg_name (i := 2) sc_law.nd rfl (Or.inl rfl))
        (pss_cons (ps_set (i := 3) sc_law.nd rfl (Or.inl rfl) (pe_fx T.f_l_begin (hr.mono (by decide)) (pa_cons (pv 1) pa_nil)))
          (pss_one (ps_for PassesOwn.never rfl (pi_range1 (by rfl) T.b_range (pa_cons pe_int pa_nil)) (pg_name (i := 4) sc_law.nd rfl (Or.inl rfl))
            (pss_cons (ps_if (pt_cmpR (op_neD hr.units) (pe_fx T.f_l_read hr (pa_cons (pv 3) pa_nil)) (pe_fx T.f_l_due (hr.mono (by decide)) (pa_cons (pv 3) pa_nil)) (nomark _))
                (pss_one (ps_ret pe_bl))
                pss_nil)
              (pss_one (ps_set (i := 3) sc_law.nd rfl (Or.inl rfl) (pe_fx T.f_l_bent (hr.mono (by decide)) (pa_cons (pv 1) (pa_cons (pv 3) pa_nil))))))))))
      (C8.pss_cut (ps_for PassesOwn.never rfl (pi_list (pe_lst (pa_cons pe_non (pa_cons (pe_tup (pa_cons pe_int (pa_cons pe_int pa_nil))) (pa_cons (pe_tup (pa_cons pe_int (pa_cons (pe_un un_neg pe_int) pa_nil))) (pa_cons (pe_lst (pa_cons pe_int (pa_cons pe_int pa_nil))) (pa_cons pe_str (pa_cons pe_bl (pa_cons (pe_tup (pa_cons pe_int (pa_cons pe_bl pa_nil))) (pa_cons (pe_tup (pa_cons pe_int (pa_cons pe_int (pa_cons pe_int pa_nil)))) pa_nil)))))))))) (pg_name (i := 5) sc_law.nd rfl (Or.inl rfl))
        (pss_one (ps_tryAs (i := 6) (tb := fun W => tSeq (tDrop (tCallS (spRtx K CN) (WE W) (tCons (tVar 5) tNil))) (tRet (tC (.bl false)))) (ts := _) (Wout := fun _ _ _ _ => False) rfl rfl sc_law.nd rfl rfl ⟨rfl, by decide, Or.inl T.bn.g⟩ takes0
          (fun W pn xe tk _ => pss_cons (ps_expr (by exact (pe_callS GT hr3 rfl gT kT bT (fun σ => passAt tk σ) (by exact (pa_cons (pv 5) pa_nil))))) (pss_one (ps_ret pe_bl)))
          (fun a oe cls d pn hz hf => (pss_one (ps_if (pt_cmpR (op_neS hr.units) (pe_tup (pa_cons (pe_xf T.bn.xf T.noW hz hf (pv 6)) (pa_cons (pe_callB (call_reprS hgd hr.units) (by rfl) T.b_repr (by decide +kernel) (pa_cons (pe_xf T.bn.xf T.noN hz hf (pv 6)) pa_nil)) pa_nil))) (pe_tup (pa_cons pe_str (pa_cons (pe_callB (call_reprS hgd hr.units) (by rfl) T.b_repr (by decide +kernel) (pa_cons (pv 5) pa_nil)) pa_nil))) (nomark _))
              (pss_one (ps_ret pe_bl))
              pss_nil))))))
      (pss_cons (ps_set (i := 7) sc_law.nd rfl (Or.inl rfl) (pe_fx T.f_l_ratio hr4 (pa_cons (pv 1) (pa_cons pe_int pa_nil))))
      (pss_cons (ps_if (pt_cmpR op_ne (pe_call GT hr3 (by rfl) gT kT bT .nil (passes_call takes0 (fun _ _ _ _ h => h)) (pa_cons (pe_fx T.f_l_passed (hr.mono (by decide)) (pa_cons (pv 1) (pa_cons (pv 7) pa_nil))) pa_nil)) (pe_fx T.f_l_written (hr.mono (by decide)) (pa_cons (pv 7) pa_nil)) (nomark _))
        (pss_one (ps_ret pe_bl))
        pss_nil)
      (C8.pss_cut (ps_for PassesOwn.never rfl (pi_list (pe_lst (pa_cons pe_non (pa_cons pe_int (pa_cons (pe_tup (pa_cons pe_int (pa_cons pe_int pa_nil))) (pa_cons (pe_lst (pa_cons pe_str pa_nil)) (pa_cons pe_bl pa_nil))))))) (pg_name (i := 5) sc_law.nd rfl (Or.inl rfl))
        (pss_cons (ps_tryAs (i := 6) (tb := fun W => tSeq (tDrop (tCallS (spRof K CT) (WE W) (tCons (tVar 5) tNil))) (tAsg (tC .non) (gName 8))) (ts := _) (Wout := fun _ _ _ _ => False) rfl rfl sc_law.nd rfl rfl ⟨rfl, by decide, Or.inl T.bt.g⟩ takes0
          (fun W pn xe tk _ => pss_cons (ps_expr (by exact (pe_callS GR hr4 rfl gR kR bR (fun σ => passAt tk σ) (by exact (pa_cons (pv 5) pa_nil))))) (pss_one (ps_set (i := 8) sc_law.nd rfl (Or.inl rfl) pe_non)))
          (fun a oe cls d pn hz hf => (pss_one (ps_set (i := 8) sc_law.nd rfl (Or.inl rfl) (pe_tup (pa_cons (pe_xf T.bt.xf T.noL hz hf (pv 6)) (pa_cons (pe_xf T.bt.xf T.noC hz hf (pv 6)) pa_nil)))))))
          (pss_one (ps_if (PW.pt (pw_or (pt_cmpR (op_neD hr.units) (pv 8) (pe_tup (pa_cons pe_int (pa_cons pe_int pa_nil))) (nomark _)) (pw_or1 (pt_val (pe_callB call_isi (by rfl) T.b_isinstance (by decide +kernel) (pa_cons (pe_ix ix_tup (pv 8) pe_int (fun _ _ => rfl)) (pa_cons (pe_bltn (v := .ty "bool") (by rfl) T.b_bool PySem.Pv.boot_bool rfl) pa_nil)))))))
            (pss_one (ps_ret pe_bl))
            pss_nil))))
      (pss_one (ps_ret pe_bl)))))))), ?_⟩
    have two : 2 ≤ sizeLine := by rw [sizeLine_eq]; decide
    have nine : 9 ≤ sizeLine := by rw [sizeLine_eq]; decide
    refine ⟨_, rfl, a, ns, rfl, hS, hl, fun p l H1 hp0 hl0 s1 hP1 => ?_⟩
    refine ⟨fun σ' H' => ∃ (c : Nat) (v2 v3 v4 : Option V), σ' = [some (.ref a), some (.ref p), v2, v3, v4, none, none, none, none] ∧ Pen H' p l c ∧ c ≤ 2000, ?_, ?_⟩
    · refine ⟨3, rfl, by decide, by decide, ?_⟩
      refine for_range (lo := 0) (n := 3) (fun i σ H2 => ∃ (c : Nat) (v2 v3 v4 : Option V), σ = [some (.ref a), some (.ref p), v2, v3, v4, none, none, none, none] ∧ Pen H2 p l c ∧ c ≤ i * 600) ⟨0, none, none, none, rfl, hP1, Nat.zero_le _⟩ ?_ ?_
      · rintro i σ H2 hi ⟨c, v2, v3, v4, rfl, hP2, hc⟩
        refine ⟨_, rfl, p, l, c, rfl, hP2, by omega, fun z c3 H3 hz hc3 hP3 K3 => ?_⟩
        refine ⟨4, rfl, by decide, by decide, ?_⟩
        refine for_range (lo := 0) (n := 4) (fun j σ H4 => ∃ (y : Str) (c4 : Nat) (v4 : Option V), σ = [some (.ref a), some (.ref p), some (.int (0 + (i : Int))), some (.str y), v4, none, none, none, none] ∧ y.length ≤ 100 + j ∧ Pen H4 p l c4 ∧ c4 ≤ c + 200 + j * 10) ⟨z, c3, v4, rfl, by omega, hP3, by omega⟩ ?_ ?_
        · rintro j σ H4 hj ⟨y, c4, v4', rfl, hy, hP4, hc4⟩
          have ly : y.cps.toList.length ≤ 190 := by
            have e : y.cps.toList.length = y.length := Array.length_toList
            omega
          refine ⟨_, rfl, y.cps.toList, str_tl y, ly, fun q H5 s5 d5 => ?_⟩
          refine ⟨_, rfl, y.cps.toList, str_tl y, ly, fun q2 H6 s6 d6 => ?_⟩
          refine ⟨_, _, Dp.st (Same.st s6) d5, d6, shp_res _, shp_res _, _, rfl, ?_⟩
          rw [SeqAt.eqv_refl _ (SeqAt.canLay_of_shaped (shp_res _))]
          refine if_f rfl ?_
          refine ⟨_, rfl, _, rfl, p, l, c4, y, rfl, (hP4.same s5).same s6, by omega, by omega, fun y' c7 H7 hy' hc7 hP7 K7 => ?_⟩
          exact ⟨y', c7, _, rfl, by omega, hP7, by omega⟩
        · rintro σ H4 ⟨y, c4, v4', rfl, hy, hP4, hc4⟩
          exact ⟨c4, _, _, _, rfl, hP4, by omega⟩
      · rintro σ H2 ⟨c, v2, v3, v4, rfl, hP2, hc⟩
        exact ⟨c, v2, v3, v4, rfl, hP2, by omega⟩
    · rintro σ' H2 ⟨c, v2, v3, v4, rfl, hP2, hc⟩
      refine ⟨fun σ' H' => ∃ v5 : Option V, σ' = [some (.ref a), some (.ref p), v2, v3, v4, v5, none, none, none] ∧ Same H2 H', ?_, ?_⟩
      · refine ⟨two, fun t1 h1 => ⟨_, rfl, two, fun t2 h2 => ⟨two, fun l1 h3 => ⟨two, fun t3 h4 => ⟨(by show 3 ≤ sizeLine; omega), fun t4 h5 => ⟨(by show 8 ≤ sizeLine; omega), fun L hL => ?_⟩⟩⟩⟩⟩⟩
        have n1 := same_new (o := .tup [.int 1, .int 0]) h1
        have n2 := same_new (o := .tup [.int 1, .int (-2)]) h2
        have n3 := same_new (o := .lst [.int 1, .int 2]) h3
        have n4 := same_new (o := .tup [.int 1, .bl true]) h4
        have n5 := same_new (o := .tup [.int 1, .int 2, .int 3]) h5
        have n6 := same_new (o := .lst [.non, .ref t1, .ref t2, .ref l1, .str "1/2", .bl true, .ref t3, .ref t4]) hL
        have e1 := n6 _ _ (n5 _ _ (n4 _ _ (n3 _ _ (n2 _ _ (upd_same (H := H2) (a := t1) (o := .tup [.int 1, .int 0]))))))
        have e2 := n6 _ _ (n5 _ _ (n4 _ _ (n3 _ _ (upd_same (a := t2) (o := .tup [.int 1, .int (-2)])))))
        have e3 := n6 _ _ (n5 _ _ (n4 _ _ (upd_same (a := l1) (o := .lst [.int 1, .int 2]))))
        have e4 := n6 _ _ (n5 _ _ (upd_same (a := t3) (o := .tup [.int 1, .bl true])))
        have e5 := n6 _ _ (upd_same (a := t4) (o := .tup [.int 1, .int 2, .int 3]))
        have sz := ((((n1.trans n2).trans n3).trans n4).trans n5).trans n6
        refine ⟨L, rfl, ⟨_, SqL.of upd_same⟩, for_list (K := K) (a := L) (xs := [.non, .ref t1, .ref t2, .ref l1, .str "1/2", .bl true, .ref t3, .ref t4]) (fun i σ H' => ∃ v5 : Option V, σ = [some (.ref a), some (.ref p), v2, v3, v4, v5, none, none, none] ∧ Same (upd (upd (upd (upd (upd (upd H2 t1 (.tup [.int 1, .int 0])) t2 (.tup [.int 1, .int (-2)])) l1 (.lst [.int 1, .int 2])) t3 (.tup [.int 1, .bl true])) t4 (.tup [.int 1, .int 2, .int 3])) L (.lst [.non, .ref t1, .ref t2, .ref l1, .str "1/2", .bl true, .ref t3, .ref t4])) H')
          ⟨none, rfl, fun _ _ e => e⟩ (fun i σ H' _ ⟨_, _, s5⟩ => s5.seq (SqL.of upd_same)) ?_ ?_⟩
        · rintro i x σ H' hi ⟨v5, rfl, s⟩
          have hodd : ∃ d, Odd K H' x d := by
            have hx := List.mem_of_getElem? hi
            simp only [List.mem_cons, List.not_mem_nil, or_false] at hx
            rcases hx with rfl | rfl | rfl | rfl | rfl | rfl | rfl | rfl
            · exact ⟨.none, .oth (.base .non) (by decide +kernel) (b1 := false) (b2 := false) (by decide +kernel) (by decide +kernel), .non, by decide +kernel⟩
            · exact ⟨.tuple [.int 1, .int 0], .two (s _ _ e1), .tup (SqT.of (s _ _ e1)) (.cons (.int _) (.cons (.int _) .nil)), by decide +kernel⟩
            · exact ⟨.tuple [.int 1, .int (-2)], .two (s _ _ e2), .tup (SqT.of (s _ _ e2)) (.cons (.int _) (.cons (.int _) .nil)), by decide +kernel⟩
            · exact ⟨.list [.int 1, .int 2], .oth (.base (.lst (s _ _ e3))) (by decide +kernel) (b1 := false) (b2 := false) (by decide +kernel) (by decide +kernel), .lst (SqL.of (s _ _ e3)) (.cons (.int _) (.cons (.int _) .nil)), by decide +kernel⟩
            · exact ⟨.str "1/2", .oth (.base (.str _)) (by decide +kernel) (b1 := false) (b2 := false) (by decide +kernel) (by decide +kernel), .str _, by decide +kernel⟩
            · exact ⟨.bool true, .oth (.base (.bl _)) (by decide +kernel) (b1 := true) (b2 := true) (by decide +kernel) (by decide +kernel), .bl _, by decide +kernel⟩
            · exact ⟨.tuple [.int 1, .bool true], .bl (s _ _ e4), .tup (SqT.of (s _ _ e4)) (.cons (.int _) (.cons (.bl _) .nil)), by decide +kernel⟩
            · exact ⟨.tuple [.int 1, .int 2, .int 3], .len (s _ _ e5) (by decide) (by decide), .tup (SqT.of (s _ _ e5)) (.cons (.int _) (.cons (.int _) (.cons (.int _) .nil))), by decide +kernel⟩
          obtain ⟨d0, o⟩ := hodd
          obtain ⟨o1, o2, o3, o4, o5⟩ := okD_all o.ok
          refine ⟨_, rfl, x, rfl, .inl ⟨o.rat, fun d H5 hd s5 hx => ?_⟩⟩
          refine ⟨true, T.bn.te, fun _ a0 _ => ?_, fun q => Bool.noConfusion q⟩
          have dp5 := Dp.st (Same.st s5) o.dp
          refine ⟨_, rfl, rfl, rfl, d, _, .str "ratio", rfl, hx, by kernel_rfl, _, rfl, rfl, rfl, d, _, x, rfl, hx, by kernel_rfl, x, d0, rfl, dp5, o1, o2, o3, o4, two, fun T1 hT1 => ?_⟩
          have m1 := same_new (o := .tup [.str "ratio", .str d0.shown]) hT1
          refine ⟨_, rfl, x, d0, rfl, Dp.st (Same.st m1) dp5, o1, o2, o3, o4, two, fun T2 hT2 => ?_⟩
          have m2 := same_new (o := .tup [.str "ratio", .str d0.shown]) hT2
          refine ⟨_, _, .tup (SqT.of (m2 _ _ upd_same)) (.cons (.str _) (.cons (.str _) .nil)), .tup (SqT.of upd_same) (.cons (.str _) (.cons (.str _) .nil)), o5, o5, _, rfl, ?_⟩
          rw [SeqAt.eqv_refl _ (SeqAt.canLay_of_shaped o5)]
          refine if_f rfl ?_
          exact ⟨some x, rfl, ((s.trans s5).trans m1).trans m2⟩
        · rintro σ H' ⟨v5, rfl, s⟩
          exact ⟨v5, rfl, sz.trans s⟩
      · rintro σ' H3 ⟨v5, rfl, s3⟩
        refine ⟨_, rfl, p, l, c, 12, rfl, hP2.same s3, by omega, by decide, by decide, fun x y q c4 H4 lp hq hc4 hP4 K4 => ?_⟩
        have qp : q ≠ p := fun z => by
          obtain ⟨_, _, _, _, e, _⟩ := hP4.ex
          rw [z, e] at hq
          cases hq
        refine ⟨_, rfl, _, rfl, p, l, q, c4, x, y, rfl, hP4, by omega, hq, lp, fun v t b c5 H5 hR hPv et eb ht hb0 hb hc5 hP5 K5 => ?_⟩
        refine ⟨v, rfl, .inr ⟨t, b, hR, hPv, ht, hb0, hb, fun H6 s6 => ?_⟩⟩
        have hq6 : H6 q = some (.tup [.int x, .int (y : Int)]) := s6 _ _ (K5 _ _ qp hq)
        refine ⟨_, rfl, q, x, (y : Int), rfl, hq6, by omega, Nat.lt_of_lt_of_le lp.xlt (Nat.pow_le_pow_right (by decide) (by decide)), Nat.lt_of_lt_of_le (show ((y : Int)).natAbs < 100 from lp.lt) (by decide), ?_⟩
        refine ⟨rfl, _, rfl, if_f ?_ ?_⟩
        · rw [et, eb, decide_eq_true rfl]
          rfl
        · refine ⟨fun _ _ => True, ?_, fun σ' H' _ => k H'⟩
          refine ⟨two, fun t1 h1 => ⟨(by show 1 ≤ sizeLine; omega), fun l1 h2 => ⟨(by show 5 ≤ sizeLine; omega), fun L hL => ?_⟩⟩⟩
          have n1 := same_new (o := .tup [.int 1, .int 2]) h1
          have n2 := same_new (o := .lst [.str "1"]) h2
          have n3 := same_new (o := .lst [.non, .int 3, .ref t1, .ref l1, .bl true]) hL
          have e1 := n3 _ _ (n2 _ _ (upd_same (H := H6) (a := t1) (o := .tup [.int 1, .int 2])))
          have e2 := n3 _ _ (upd_same (a := l1) (o := .lst [.str "1"]))
          refine ⟨L, rfl, ⟨_, SqL.of upd_same⟩, for_list (K := K) (a := L) (xs := [.non, .int 3, .ref t1, .ref l1, .bl true]) (fun i σ H' => ∃ v5 v8 : Option V, σ = [some (.ref a), some (.ref p), v2, v3, v4, v5, none, some (.ref q), v8] ∧ Same (upd (upd (upd H6 t1 (.tup [.int 1, .int 2])) l1 (.lst [.str "1"])) L (.lst [.non, .int 3, .ref t1, .ref l1, .bl true])) H')
            ⟨v5, none, rfl, fun _ _ e => e⟩ (fun i σ H' _ ⟨_, _, _, s5⟩ => s5.seq (SqL.of upd_same)) ?_ (fun _ _ _ => trivial)⟩
          rintro i z σ H' hi ⟨v5', v8, rfl, s⟩
          have hty : ∃ Tn, TyX K H' z (.type Tn) ∧ kitB Tn "str" = some false := by
            have hx := List.mem_of_getElem? hi
            simp only [List.mem_cons, List.not_mem_nil, or_false] at hx
            rcases hx with rfl | rfl | rfl | rfl | rfl
            · exact ⟨_, .base .non, by decide +kernel⟩
            · exact ⟨_, .base (.int _), by decide +kernel⟩
            · exact ⟨_, .base (.tup (s _ _ e1)), by decide +kernel⟩
            · exact ⟨_, .base (.lst (s _ _ e2)), by decide +kernel⟩
            · exact ⟨_, .base (.bl _), by decide +kernel⟩
          obtain ⟨Tn, ty, kS⟩ := hty
          refine ⟨_, rfl, z, rfl, .inl ⟨Tn, ty, kS, fun d H7 hd s7 hx => ?_⟩⟩
          refine ⟨true, T.bt.te, fun _ a0 _ => ?_, fun q => Bool.noConfusion q⟩
          refine ⟨_, rfl, rfl, rfl, d, _, .int 0, rfl, hx, by kernel_rfl, _, rfl, rfl, rfl, d, _, .int 0, rfl, hx, by kernel_rfl, two, fun T1 hT1 => ?_⟩
          refine ⟨_, rfl, two, fun T2 hT2 => ?_⟩
          have m1 := same_new (o := .tup [.int 0, .int 0]) hT1
          have m2 := same_new (o := .tup [.int 0, .int 0]) hT2
          have shp : SeqAt.shaped (.tuple [.int 0, .int 0]) = true := by decide +kernel
          refine ⟨_, _, .tup (SqT.of (m2 _ _ upd_same)) (.cons (.int _) (.cons (.int _) .nil)), .tup (SqT.of upd_same) (.cons (.int _) (.cons (.int _) .nil)), shp, shp, _, rfl, ?_⟩
          rw [SeqAt.eqv_refl _ (SeqAt.canLay_of_shaped shp)]
          refine if_f rfl ?_
          refine ⟨_, rfl, _, _, _, _, rfl, rfl, SqT.of (m2 _ _ upd_same), atI_nat (j := 0) rfl, .int 0, .ty "bool", _, _, false, rfl, .ty _, .base (.int _), kit_ty (by decide +kernel), _, rfl, if_f rfl ?_⟩
          exact ⟨_, _, rfl, ((s.trans s7).trans m1).trans m2⟩
end
end Z
set_option Elab.async false
set_option linter.all false
set_option maxRecDepth 100000
set_option maxHeartbeats 4000000
namespace Z
open PySem L2 PyProof.Rows
theorem xc_mk {K : PySem.W.Frag} {C CM : Addr} {nm q : Str} {N : Addr} {bs : List Value} {sn : List Str} {sub : List Value} {ab : Bool} {col : Option Bool} {dd : Option Addr} {m0 m1 m2 m3 m5 : Option Value}
    (x : K.lookup C = some (excClassObj nm q C N bs (.ref CM :: [.type "ValueError", .type "Exception", .type "BaseException", .type "object"]) true sn sub ab col dd m0 m1 m2 m3 m5 "ValueError.__new__"))
    (sa : PySem.W.findIn K (.ref C) "__setattr__" = some (some (.builtin "object.__setattr__"))) (ga : PySem.W.findIn K (.ref C) "__getattribute__" = some (some (.builtin "BaseException.__getattribute__")))
    (gg : PySem.W.findIn K (.ref C) "__getattr__" = some none) (cc : PySem.W.findIn K (.ref C) "__class__" = some (some (.builtin "object.__class__"))) (eC : PySem.W.subIn K (.ref C) (.type "BaseException") = some true)
    (tC : PySem.W.typeIn K (.ref C) = some (.type "type")) (kC : PySem.W.keepIn K (.ref C) = true) (hC : PySem.W.hasDictIn K C = true) (hm : PySem.W.mroIn K C (.type "object") = some true)
    (hn : PySem.W.specialIn K (.builtin "object.__class__") "__get__" = some (some (.builtin "getset_descriptor.__get__"))) (ht : PySem.W.takesIn K (.builtin "object.__class__") = some true) : XC K C :=
  ⟨⟨⟨nm, q, N, bs, _, sn, sub, ab, col, dd, m0, m1, m2, m3, m5, x, by show PySem.HandSPX.refsVE [.type "ValueError", .type "Exception", .type "BaseException", .type "object"] = true; decide +kernel⟩, sa, eC, tC, kC⟩, ga, gg, hC, cc, hn, ht, hm⟩
/-- a class whose row of bases is known -/
structure Row (K : PySem.W.Frag) (CM C : Addr) : Prop where
  ty : PySem.W.typeIn K (.ref C) = some (.type "type")
  cd : ∃ cd, PySem.W.clsIn K C = some cd ∧ cd.mro = [.ref C, .ref CM, .type "ValueError", .type "Exception", .type "BaseException", .type "object"]
theorem row_mk {K : PySem.W.Frag} {C CM : Addr} {nm q : Str} {N : Addr} {bs : List Value} {sn : List Str} {sub : List Value} {ab : Bool} {col : Option Bool} {dd : Option Addr} {m0 m1 m2 m3 m5 : Option Value}
    (x : K.lookup C = some (excClassObj nm q C N bs (.ref CM :: [.type "ValueError", .type "Exception", .type "BaseException", .type "object"]) true sn sub ab col dd m0 m1 m2 m3 m5 "ValueError.__new__"))
    (tC : PySem.W.typeIn K (.ref C) = some (.type "type")) : Row K CM C := by
  refine ⟨tC, ?_⟩
  unfold PySem.W.clsIn
  rw [x]
  exact ⟨_, rfl, rfl⟩
theorem row_mro {K : PySem.W.Frag} {C CM : Addr} (R : Row K CM C) (b : Value) : PySem.W.mroIn K C b = some (([.ref C, .ref CM, .type "ValueError", .type "Exception", .type "BaseException", .type "object"] : List Value).contains b) := by
  obtain ⟨cd, h1, h2⟩ := R.cd
  unfold PySem.W.mroIn
  rw [h1, Option.bind_some, h2]
  rfl
theorem ref_beq {a b : Addr} (h : a ≠ b) : (Value.ref a == Value.ref b) = false := by
  rw [beq_eq_false_iff_ne]
  intro z
  exact h (Value.ref.inj z)
theorem kit_self {K : PySem.W.Frag} {C : Addr} : PySem.W.kitOne K (.ref C) (.ref C) = some true := by
  unfold PySem.W.kitOne
  rw [if_pos (beq_self_eq_true _)]
theorem kit_ref {K : PySem.W.Frag} {C B CM : Addr} (R : Row K CM C) (h : C ≠ B) (hc : (PySem.W.clsIn K B).isSome = true) (ht : PySem.W.typeIn K (.ref B) = some (.type "type")) : PySem.W.kitOne K (.ref C) (.ref B) = some (decide (B = CM)) := by
  have e1 : ((PySem.W.clsIn K B).isSome && PySem.W.typeIn K (.ref B) == some (.type "type")) = true := by rw [hc, ht] <;> rfl
  unfold PySem.W.kitOne
  rw [ref_beq h, if_neg Bool.false_ne_true]
  show (if ((PySem.W.clsIn K B).isSome && PySem.W.typeIn K (.ref B) == some (.type "type")) = true then PySem.W.subIn K (.ref C) (.ref B) else none) = _
  rw [if_pos e1]
  show PySem.W.mroIn K C (.ref B) = _
  rw [row_mro R]
  congr 1
  by_cases e : B = CM
  · subst e
    simp
  · rw [decide_eq_false e]
    simp [e, Ne.symm h]
theorem kit_ve {K : PySem.W.Frag} {C CM : Addr} (R : Row K CM C) : PySem.W.kitOne K (.ref C) (.type "ValueError") = some true := by
  have e1 : PySem.W.kitMeta "ValueError" = true := by decide +kernel
  have e0 : (Value.ref C == Value.type "ValueError") = false := by
    rw [beq_eq_false_iff_ne]
    intro z
    cases z
  unfold PySem.W.kitOne
  rw [e0, if_neg Bool.false_ne_true]
  show (if PySem.W.kitMeta "ValueError" = true then PySem.W.subIn K (.ref C) (.type "ValueError") else none) = _
  rw [if_pos e1]
  show PySem.W.mroIn K C (.type "ValueError") = _
  rw [row_mro R]
  congr 1

theorem exm_row {K : PySem.W.Frag} {C CM : Addr} (R : Row K CM C) (h1 : PySem.W.subIn K (.ref C) (.type "BaseException") = some true) : PySem.W.exmOne K (.ref C) (.ref C) = some true := by
  obtain ⟨cd, h2, _⟩ := R.cd
  have e1 : (PySem.W.subIn K (.ref C) (.type "BaseException") == some true) = true := by rw [h1] <;> rfl
  have e2 : ((PySem.W.clsIn K C).isSome && PySem.W.typeIn K (.ref C) == some (.type "type")) = true := by
    rw [h2, R.ty] <;> rfl
  show (if (PySem.W.subIn K (.ref C) (.type "BaseException") == some true) = true then (if ((PySem.W.clsIn K C).isSome && PySem.W.typeIn K (.ref C) == some (.type "type")) = true then PySem.W.subIn K (.ref C) (.ref C) else none) else none) = some true
  rw [if_pos e1, if_pos e2]
  show PySem.W.mroIn K C (.ref C) = _
  rw [row_mro R]
  congr 1
  simp

theorem all_mk {P : Program} {w : World} {K : PySem.W.Frag} {h : Heap} {mg : Str → Option Value} {fa : Addr} (X : K.In h) (G : h.Ns mainGlobals mg) (hfa : mg "law" = some (.ref fa))
    {CM C0 C1 : Addr}
    {nm0 q0 : Str} {N0 : Addr} {bs0 : List Value} {sn0 : List Str} {sub0 : List Value} {ab0 : Bool} {col0 : Option Bool} {dd0 : Option Addr} {m00 m10 m20 m30 m50 : Option Value}
    {f0 : Addr} {odi0 ani0 : Option Addr} {sli0 : Array (Option Value)} {oci0 kVi0 dci0 pmi0 cdi0 cti0 : Value}
    {nm1 q1 : Str} {N1 : Addr} {bs1 : List Value} {sn1 : List Str} {sub1 : List Value} {ab1 : Bool} {col1 : Option Bool} {dd1 : Option Addr} {m01 m11 m21 m31 m51 : Option Value}
    {f1 : Addr} {odi1 ani1 : Option Addr} {sli1 : Array (Option Value)} {oci1 kVi1 dci1 pmi1 cdi1 cti1 : Value}
    {g_is_whole : Addr} {od_is_whole an_is_whole : Option Addr} {sl_is_whole : Array (Option Value)} {oc_is_whole kV_is_whole dc_is_whole pm_is_whole cd_is_whole ct_is_whole : Value}
    {g_is_ratio : Addr} {od_is_ratio an_is_ratio : Option Addr} {sl_is_ratio : Array (Option Value)} {oc_is_ratio kV_is_ratio dc_is_ratio pm_is_ratio cd_is_ratio ct_is_ratio : Value}
    {g_lowest : Addr} {od_lowest an_lowest : Option Addr} {sl_lowest : Array (Option Value)} {oc_lowest kV_lowest dc_lowest pm_lowest cd_lowest ct_lowest : Value}
    {g_ratio_of : Addr} {od_ratio_of an_ratio_of : Option Addr} {sl_ratio_of : Array (Option Value)} {oc_ratio_of kV_ratio_of dc_ratio_of pm_ratio_of cd_ratio_of ct_ratio_of : Value}
    {g_end_of_digits : Addr} {od_end_of_digits an_end_of_digits : Option Addr} {sl_end_of_digits : Array (Option Value)} {oc_end_of_digits kV_end_of_digits dc_end_of_digits pm_end_of_digits cd_end_of_digits ct_end_of_digits : Value}
    {g_number_of : Addr} {od_number_of an_number_of : Option Addr} {sl_number_of : Array (Option Value)} {oc_number_of kV_number_of dc_number_of pm_number_of cd_number_of ct_number_of : Value}
    {g_ratio_text : Addr} {od_ratio_text an_ratio_text : Option Addr} {sl_ratio_text : Array (Option Value)} {oc_ratio_text kV_ratio_text dc_ratio_text pm_ratio_text cd_ratio_text ct_ratio_text : Value}
    {g_digits_of : Addr} {od_digits_of an_digits_of : Option Addr} {sl_digits_of : Array (Option Value)} {oc_digits_of kV_digits_of dc_digits_of pm_digits_of cd_digits_of ct_digits_of : Value}
    {g_l_pen : Addr} {od_l_pen an_l_pen : Option Addr} {sl_l_pen : Array (Option Value)} {oc_l_pen kV_l_pen dc_l_pen pm_l_pen cd_l_pen ct_l_pen : Value}
    {g_l_draw : Addr} {od_l_draw an_l_draw : Option Addr} {sl_l_draw : Array (Option Value)} {oc_l_draw kV_l_draw dc_l_draw pm_l_draw cd_l_draw ct_l_draw : Value}
    {g_l_pick : Addr} {od_l_pick an_l_pick : Option Addr} {sl_l_pick : Array (Option Value)} {oc_l_pick kV_l_pick dc_l_pick pm_l_pick cd_l_pick ct_l_pick : Value}
    {g_l_big : Addr} {od_l_big an_l_big : Option Addr} {sl_l_big : Array (Option Value)} {oc_l_big kV_l_big dc_l_big pm_l_big cd_l_big ct_l_big : Value}
    {g_l_gcd : Addr} {od_l_gcd an_l_gcd : Option Addr} {sl_l_gcd : Array (Option Value)} {oc_l_gcd kV_l_gcd dc_l_gcd pm_l_gcd cd_l_gcd ct_l_gcd : Value}
    {g_l_q : Addr} {od_l_q an_l_q : Option Addr} {sl_l_q : Array (Option Value)} {oc_l_q kV_l_q dc_l_q pm_l_q cd_l_q ct_l_q : Value}
    {g_l_written : Addr} {od_l_written an_l_written : Option Addr} {sl_l_written : Array (Option Value)} {oc_l_written kV_l_written dc_l_written pm_l_written cd_l_written ct_l_written : Value}
    {g_l_is_whole : Addr} {od_l_is_whole an_l_is_whole : Option Addr} {sl_l_is_whole : Array (Option Value)} {oc_l_is_whole kV_l_is_whole dc_l_is_whole pm_l_is_whole cd_l_is_whole ct_l_is_whole : Value}
    {g_l_is_ratio : Addr} {od_l_is_ratio an_l_is_ratio : Option Addr} {sl_l_is_ratio : Array (Option Value)} {oc_l_is_ratio kV_l_is_ratio dc_l_is_ratio pm_l_is_ratio cd_l_is_ratio ct_l_is_ratio : Value}
    {g_l_ratio : Addr} {od_l_ratio an_l_ratio : Option Addr} {sl_l_ratio : Array (Option Value)} {oc_l_ratio kV_l_ratio dc_l_ratio pm_l_ratio cd_l_ratio ct_l_ratio : Value}
    {g_l_passed : Addr} {od_l_passed an_l_passed : Option Addr} {sl_l_passed : Array (Option Value)} {oc_l_passed kV_l_passed dc_l_passed pm_l_passed cd_l_passed ct_l_passed : Value}
    {g_l_digits_end : Addr} {od_l_digits_end an_l_digits_end : Option Addr} {sl_l_digits_end : Array (Option Value)} {oc_l_digits_end kV_l_digits_end dc_l_digits_end pm_l_digits_end cd_l_digits_end ct_l_digits_end : Value}
    {g_l_due : Addr} {od_l_due an_l_due : Option Addr} {sl_l_due : Array (Option Value)} {oc_l_due kV_l_due dc_l_due pm_l_due cd_l_due ct_l_due : Value}
    {g_l_read : Addr} {od_l_read an_l_read : Option Addr} {sl_l_read : Array (Option Value)} {oc_l_read kV_l_read dc_l_read pm_l_read cd_l_read ct_l_read : Value}
    {g_l_begin : Addr} {od_l_begin an_l_begin : Option Addr} {sl_l_begin : Array (Option Value)} {oc_l_begin kV_l_begin dc_l_begin pm_l_begin cd_l_begin ct_l_begin : Value}
    {g_l_bent : Addr} {od_l_bent an_l_bent : Option Addr} {sl_l_bent : Array (Option Value)} {oc_l_bent kV_l_bent dc_l_bent pm_l_bent cd_l_bent ct_l_bent : Value}
    {g_law : Addr} {od_law an_law : Option Addr} {sl_law : Array (Option Value)} {oc_law kV_law dc_law pm_law cd_law ct_law : Value}
    {t1 t2 : Tok}
    (aM : PySem.W.nsIn K mainGlobals "MendError" = some (some (.ref CM)))
    (isM : PySem.W.isClsIn K CM = true)
    (tyM : PySem.W.typeIn K (.ref CM) = some (.type "type"))
    (hn : PySem.W.specialIn K (.builtin "object.__class__") "__get__" = some (some (.builtin "getset_descriptor.__get__")))
    (ht : PySem.W.takesIn K (.builtin "object.__class__") = some true)
    (nd : [CM, C0, C1].Nodup)
    (a0 : PySem.W.nsIn K mainGlobals "BadText" = some (some (.ref C0)))
    (x0 : K.lookup C0 = some (excClassObj nm0 q0 C0 N0 bs0 (.ref CM :: [.type "ValueError", .type "Exception", .type "BaseException", .type "object"]) true sn0 sub0 ab0 col0 dd0 m00 m10 m20 m30 m50 "ValueError.__new__"))
    (sa0 : PySem.W.findIn K (.ref C0) "__setattr__" = some (some (.builtin "object.__setattr__")))
    (ga0 : PySem.W.findIn K (.ref C0) "__getattribute__" = some (some (.builtin "BaseException.__getattribute__")))
    (gg0 : PySem.W.findIn K (.ref C0) "__getattr__" = some none)
    (cc0 : PySem.W.findIn K (.ref C0) "__class__" = some (some (.builtin "object.__class__")))
    (eC0 : PySem.W.subIn K (.ref C0) (.type "BaseException") = some true)
    (tC0 : PySem.W.typeIn K (.ref C0) = some (.type "type"))
    (kC0 : PySem.W.keepIn K (.ref C0) = true)
    (hC0 : PySem.W.hasDictIn K C0 = true)
    (hm0 : PySem.W.mroIn K C0 (.type "object") = some true)
    (iC0 : PySem.W.findIn K (.ref C0) "__init__" = some (some (.ref f0)))
    (tI0 : PySem.W.typeIn K (.ref f0) = some (.type "function"))
    (li0 : K.lookup f0 = some ⟨oci0, odi0, .func (PySem.W.fnOf "__init__" "BadText.__init__" (defArgs s_BadText) (defBody s_BadText) (defScope s_BadText) .none kVi0 dci0 pmi0 ani0 cdi0 cti0), sli0⟩)
    (ci0 : PySem.W.codeIn K cdi0 "BadText.__init__" = true)
    (ki0 : PySem.W.keepIn K (.ref f0) = true)
    (no0line : PySem.W.findIn K (.ref C0) "line" = some none)
    (no0column : PySem.W.findIn K (.ref C0) "column" = some none)
    (a1 : PySem.W.nsIn K mainGlobals "BadNumber" = some (some (.ref C1)))
    (x1 : K.lookup C1 = some (excClassObj nm1 q1 C1 N1 bs1 (.ref CM :: [.type "ValueError", .type "Exception", .type "BaseException", .type "object"]) true sn1 sub1 ab1 col1 dd1 m01 m11 m21 m31 m51 "ValueError.__new__"))
    (sa1 : PySem.W.findIn K (.ref C1) "__setattr__" = some (some (.builtin "object.__setattr__")))
    (ga1 : PySem.W.findIn K (.ref C1) "__getattribute__" = some (some (.builtin "BaseException.__getattribute__")))
    (gg1 : PySem.W.findIn K (.ref C1) "__getattr__" = some none)
    (cc1 : PySem.W.findIn K (.ref C1) "__class__" = some (some (.builtin "object.__class__")))
    (eC1 : PySem.W.subIn K (.ref C1) (.type "BaseException") = some true)
    (tC1 : PySem.W.typeIn K (.ref C1) = some (.type "type"))
    (kC1 : PySem.W.keepIn K (.ref C1) = true)
    (hC1 : PySem.W.hasDictIn K C1 = true)
    (hm1 : PySem.W.mroIn K C1 (.type "object") = some true)
    (iC1 : PySem.W.findIn K (.ref C1) "__init__" = some (some (.ref f1)))
    (tI1 : PySem.W.typeIn K (.ref f1) = some (.type "function"))
    (li1 : K.lookup f1 = some ⟨oci1, odi1, .func (PySem.W.fnOf "__init__" "BadNumber.__init__" (defArgs s_BadNumber) (defBody s_BadNumber) (defScope s_BadNumber) .none kVi1 dci1 pmi1 ani1 cdi1 cti1), sli1⟩)
    (ci1 : PySem.W.codeIn K cdi1 "BadNumber.__init__" = true)
    (ki1 : PySem.W.keepIn K (.ref f1) = true)
    (no1what : PySem.W.findIn K (.ref C1) "what" = some none)
    (no1number : PySem.W.findIn K (.ref C1) "number" = some none)
    (n_is_whole : PySem.W.nsIn K mainGlobals "is_whole" = some (some (.ref g_is_whole)))
    (l_is_whole : K.lookup g_is_whole = some ⟨oc_is_whole, od_is_whole, .func (PySem.W.fnOf "is_whole" "is_whole" (defArgs s_is_whole) (defBody s_is_whole) (defScope s_is_whole) .none kV_is_whole dc_is_whole pm_is_whole an_is_whole cd_is_whole ct_is_whole), sl_is_whole⟩)
    (c_is_whole : PySem.W.codeIn K cd_is_whole "is_whole" = true)
    (k_is_whole : PySem.W.keepIn K (.ref g_is_whole) = true)
    (n_is_ratio : PySem.W.nsIn K mainGlobals "is_ratio" = some (some (.ref g_is_ratio)))
    (l_is_ratio : K.lookup g_is_ratio = some ⟨oc_is_ratio, od_is_ratio, .func (PySem.W.fnOf "is_ratio" "is_ratio" (defArgs s_is_ratio) (defBody s_is_ratio) (defScope s_is_ratio) .none kV_is_ratio dc_is_ratio pm_is_ratio an_is_ratio cd_is_ratio ct_is_ratio), sl_is_ratio⟩)
    (c_is_ratio : PySem.W.codeIn K cd_is_ratio "is_ratio" = true)
    (k_is_ratio : PySem.W.keepIn K (.ref g_is_ratio) = true)
    (n_lowest : PySem.W.nsIn K mainGlobals "lowest" = some (some (.ref g_lowest)))
    (l_lowest : K.lookup g_lowest = some ⟨oc_lowest, od_lowest, .func (PySem.W.fnOf "lowest" "lowest" (defArgs s_lowest) (defBody s_lowest) (defScope s_lowest) .none kV_lowest dc_lowest pm_lowest an_lowest cd_lowest ct_lowest), sl_lowest⟩)
    (c_lowest : PySem.W.codeIn K cd_lowest "lowest" = true)
    (k_lowest : PySem.W.keepIn K (.ref g_lowest) = true)
    (n_ratio_of : PySem.W.nsIn K mainGlobals "ratio_of" = some (some (.ref g_ratio_of)))
    (l_ratio_of : K.lookup g_ratio_of = some ⟨oc_ratio_of, od_ratio_of, .func (PySem.W.fnOf "ratio_of" "ratio_of" (defArgs s_ratio_of) (defBody s_ratio_of) (defScope s_ratio_of) .none kV_ratio_of dc_ratio_of pm_ratio_of an_ratio_of cd_ratio_of ct_ratio_of), sl_ratio_of⟩)
    (c_ratio_of : PySem.W.codeIn K cd_ratio_of "ratio_of" = true)
    (k_ratio_of : PySem.W.keepIn K (.ref g_ratio_of) = true)
    (n_end_of_digits : PySem.W.nsIn K mainGlobals "end_of_digits" = some (some (.ref g_end_of_digits)))
    (l_end_of_digits : K.lookup g_end_of_digits = some ⟨oc_end_of_digits, od_end_of_digits, .func (PySem.W.fnOf "end_of_digits" "end_of_digits" (defArgs s_end_of_digits) (defBody s_end_of_digits) (defScope s_end_of_digits) .none kV_end_of_digits dc_end_of_digits pm_end_of_digits an_end_of_digits cd_end_of_digits ct_end_of_digits), sl_end_of_digits⟩)
    (c_end_of_digits : PySem.W.codeIn K cd_end_of_digits "end_of_digits" = true)
    (k_end_of_digits : PySem.W.keepIn K (.ref g_end_of_digits) = true)
    (n_number_of : PySem.W.nsIn K mainGlobals "number_of" = some (some (.ref g_number_of)))
    (l_number_of : K.lookup g_number_of = some ⟨oc_number_of, od_number_of, .func (PySem.W.fnOf "number_of" "number_of" (defArgs s_number_of) (defBody s_number_of) (defScope s_number_of) .none kV_number_of dc_number_of pm_number_of an_number_of cd_number_of ct_number_of), sl_number_of⟩)
    (c_number_of : PySem.W.codeIn K cd_number_of "number_of" = true)
    (k_number_of : PySem.W.keepIn K (.ref g_number_of) = true)
    (n_ratio_text : PySem.W.nsIn K mainGlobals "ratio_text" = some (some (.ref g_ratio_text)))
    (l_ratio_text : K.lookup g_ratio_text = some ⟨oc_ratio_text, od_ratio_text, .func (PySem.W.fnOf "ratio_text" "ratio_text" (defArgs s_ratio_text) (defBody s_ratio_text) (defScope s_ratio_text) .none kV_ratio_text dc_ratio_text pm_ratio_text an_ratio_text cd_ratio_text ct_ratio_text), sl_ratio_text⟩)
    (c_ratio_text : PySem.W.codeIn K cd_ratio_text "ratio_text" = true)
    (k_ratio_text : PySem.W.keepIn K (.ref g_ratio_text) = true)
    (n_digits_of : PySem.W.nsIn K mainGlobals "digits_of" = some (some (.ref g_digits_of)))
    (l_digits_of : K.lookup g_digits_of = some ⟨oc_digits_of, od_digits_of, .func (PySem.W.fnOf "digits_of" "digits_of" (defArgs s_digits_of) (defBody s_digits_of) (defScope s_digits_of) .none kV_digits_of dc_digits_of pm_digits_of an_digits_of cd_digits_of ct_digits_of), sl_digits_of⟩)
    (c_digits_of : PySem.W.codeIn K cd_digits_of "digits_of" = true)
    (k_digits_of : PySem.W.keepIn K (.ref g_digits_of) = true)
    (n_l_pen : PySem.W.nsIn K mainGlobals "_law_pen" = some (some (.ref g_l_pen)))
    (l_l_pen : K.lookup g_l_pen = some ⟨oc_l_pen, od_l_pen, .func (PySem.W.fnOf "_law_pen" "_law_pen" (defArgs s_l_pen) (defBody s_l_pen) (defScope s_l_pen) .none kV_l_pen dc_l_pen pm_l_pen an_l_pen cd_l_pen ct_l_pen), sl_l_pen⟩)
    (c_l_pen : PySem.W.codeIn K cd_l_pen "_law_pen" = true)
    (k_l_pen : PySem.W.keepIn K (.ref g_l_pen) = true)
    (n_l_draw : PySem.W.nsIn K mainGlobals "_law_draw" = some (some (.ref g_l_draw)))
    (l_l_draw : K.lookup g_l_draw = some ⟨oc_l_draw, od_l_draw, .func (PySem.W.fnOf "_law_draw" "_law_draw" (defArgs s_l_draw) (defBody s_l_draw) (defScope s_l_draw) .none kV_l_draw dc_l_draw pm_l_draw an_l_draw cd_l_draw ct_l_draw), sl_l_draw⟩)
    (c_l_draw : PySem.W.codeIn K cd_l_draw "_law_draw" = true)
    (k_l_draw : PySem.W.keepIn K (.ref g_l_draw) = true)
    (n_l_pick : PySem.W.nsIn K mainGlobals "_law_pick" = some (some (.ref g_l_pick)))
    (l_l_pick : K.lookup g_l_pick = some ⟨oc_l_pick, od_l_pick, .func (PySem.W.fnOf "_law_pick" "_law_pick" (defArgs s_l_pick) (defBody s_l_pick) (defScope s_l_pick) .none kV_l_pick dc_l_pick pm_l_pick an_l_pick cd_l_pick ct_l_pick), sl_l_pick⟩)
    (c_l_pick : PySem.W.codeIn K cd_l_pick "_law_pick" = true)
    (k_l_pick : PySem.W.keepIn K (.ref g_l_pick) = true)
    (n_l_big : PySem.W.nsIn K mainGlobals "_law_big" = some (some (.ref g_l_big)))
    (l_l_big : K.lookup g_l_big = some ⟨oc_l_big, od_l_big, .func (PySem.W.fnOf "_law_big" "_law_big" (defArgs s_l_big) (defBody s_l_big) (defScope s_l_big) .none kV_l_big dc_l_big pm_l_big an_l_big cd_l_big ct_l_big), sl_l_big⟩)
    (c_l_big : PySem.W.codeIn K cd_l_big "_law_big" = true)
    (k_l_big : PySem.W.keepIn K (.ref g_l_big) = true)
    (n_l_gcd : PySem.W.nsIn K mainGlobals "_law_gcd" = some (some (.ref g_l_gcd)))
    (l_l_gcd : K.lookup g_l_gcd = some ⟨oc_l_gcd, od_l_gcd, .func (PySem.W.fnOf "_law_gcd" "_law_gcd" (defArgs s_l_gcd) (defBody s_l_gcd) (defScope s_l_gcd) .none kV_l_gcd dc_l_gcd pm_l_gcd an_l_gcd cd_l_gcd ct_l_gcd), sl_l_gcd⟩)
    (c_l_gcd : PySem.W.codeIn K cd_l_gcd "_law_gcd" = true)
    (k_l_gcd : PySem.W.keepIn K (.ref g_l_gcd) = true)
    (n_l_q : PySem.W.nsIn K mainGlobals "_law_q" = some (some (.ref g_l_q)))
    (l_l_q : K.lookup g_l_q = some ⟨oc_l_q, od_l_q, .func (PySem.W.fnOf "_law_q" "_law_q" (defArgs s_l_q) (defBody s_l_q) (defScope s_l_q) .none kV_l_q dc_l_q pm_l_q an_l_q cd_l_q ct_l_q), sl_l_q⟩)
    (c_l_q : PySem.W.codeIn K cd_l_q "_law_q" = true)
    (k_l_q : PySem.W.keepIn K (.ref g_l_q) = true)
    (n_l_written : PySem.W.nsIn K mainGlobals "_law_written" = some (some (.ref g_l_written)))
    (l_l_written : K.lookup g_l_written = some ⟨oc_l_written, od_l_written, .func (PySem.W.fnOf "_law_written" "_law_written" (defArgs s_l_written) (defBody s_l_written) (defScope s_l_written) .none kV_l_written dc_l_written pm_l_written an_l_written cd_l_written ct_l_written), sl_l_written⟩)
    (c_l_written : PySem.W.codeIn K cd_l_written "_law_written" = true)
    (k_l_written : PySem.W.keepIn K (.ref g_l_written) = true)
    (n_l_is_whole : PySem.W.nsIn K mainGlobals "_law_is_whole" = some (some (.ref g_l_is_whole)))
    (l_l_is_whole : K.lookup g_l_is_whole = some ⟨oc_l_is_whole, od_l_is_whole, .func (PySem.W.fnOf "_law_is_whole" "_law_is_whole" (defArgs s_l_is_whole) (defBody s_l_is_whole) (defScope s_l_is_whole) .none kV_l_is_whole dc_l_is_whole pm_l_is_whole an_l_is_whole cd_l_is_whole ct_l_is_whole), sl_l_is_whole⟩)
    (c_l_is_whole : PySem.W.codeIn K cd_l_is_whole "_law_is_whole" = true)
    (k_l_is_whole : PySem.W.keepIn K (.ref g_l_is_whole) = true)
    (n_l_is_ratio : PySem.W.nsIn K mainGlobals "_law_is_ratio" = some (some (.ref g_l_is_ratio)))
    (l_l_is_ratio : K.lookup g_l_is_ratio = some ⟨oc_l_is_ratio, od_l_is_ratio, .func (PySem.W.fnOf "_law_is_ratio" "_law_is_ratio" (defArgs s_l_is_ratio) (defBody s_l_is_ratio) (defScope s_l_is_ratio) .none kV_l_is_ratio dc_l_is_ratio pm_l_is_ratio an_l_is_ratio cd_l_is_ratio ct_l_is_ratio), sl_l_is_ratio⟩)
    (c_l_is_ratio : PySem.W.codeIn K cd_l_is_ratio "_law_is_ratio" = true)
    (k_l_is_ratio : PySem.W.keepIn K (.ref g_l_is_ratio) = true)
    (n_l_ratio : PySem.W.nsIn K mainGlobals "_law_ratio" = some (some (.ref g_l_ratio)))
    (l_l_ratio : K.lookup g_l_ratio = some ⟨oc_l_ratio, od_l_ratio, .func (PySem.W.fnOf "_law_ratio" "_law_ratio" (defArgs s_l_ratio) (defBody s_l_ratio) (defScope s_l_ratio) .none kV_l_ratio dc_l_ratio pm_l_ratio an_l_ratio cd_l_ratio ct_l_ratio), sl_l_ratio⟩)
    (c_l_ratio : PySem.W.codeIn K cd_l_ratio "_law_ratio" = true)
    (k_l_ratio : PySem.W.keepIn K (.ref g_l_ratio) = true)
    (n_l_passed : PySem.W.nsIn K mainGlobals "_law_passed" = some (some (.ref g_l_passed)))
    (l_l_passed : K.lookup g_l_passed = some ⟨oc_l_passed, od_l_passed, .func (PySem.W.fnOf "_law_passed" "_law_passed" (defArgs s_l_passed) (defBody s_l_passed) (defScope s_l_passed) .none kV_l_passed dc_l_passed pm_l_passed an_l_passed cd_l_passed ct_l_passed), sl_l_passed⟩)
    (c_l_passed : PySem.W.codeIn K cd_l_passed "_law_passed" = true)
    (k_l_passed : PySem.W.keepIn K (.ref g_l_passed) = true)
    (n_l_digits_end : PySem.W.nsIn K mainGlobals "_law_digits_end" = some (some (.ref g_l_digits_end)))
    (l_l_digits_end : K.lookup g_l_digits_end = some ⟨oc_l_digits_end, od_l_digits_end, .func (PySem.W.fnOf "_law_digits_end" "_law_digits_end" (defArgs s_l_digits_end) (defBody s_l_digits_end) (defScope s_l_digits_end) .none kV_l_digits_end dc_l_digits_end pm_l_digits_end an_l_digits_end cd_l_digits_end ct_l_digits_end), sl_l_digits_end⟩)
    (c_l_digits_end : PySem.W.codeIn K cd_l_digits_end "_law_digits_end" = true)
    (k_l_digits_end : PySem.W.keepIn K (.ref g_l_digits_end) = true)
    (n_l_due : PySem.W.nsIn K mainGlobals "_law_due" = some (some (.ref g_l_due)))
    (l_l_due : K.lookup g_l_due = some ⟨oc_l_due, od_l_due, .func (PySem.W.fnOf "_law_due" "_law_due" (defArgs s_l_due) (defBody s_l_due) (defScope s_l_due) .none kV_l_due dc_l_due pm_l_due an_l_due cd_l_due ct_l_due), sl_l_due⟩)
    (c_l_due : PySem.W.codeIn K cd_l_due "_law_due" = true)
    (k_l_due : PySem.W.keepIn K (.ref g_l_due) = true)
    (n_l_read : PySem.W.nsIn K mainGlobals "_law_read" = some (some (.ref g_l_read)))
    (l_l_read : K.lookup g_l_read = some ⟨oc_l_read, od_l_read, .func (PySem.W.fnOf "_law_read" "_law_read" (defArgs s_l_read) (defBody s_l_read) (defScope s_l_read) .none kV_l_read dc_l_read pm_l_read an_l_read cd_l_read ct_l_read), sl_l_read⟩)
    (c_l_read : PySem.W.codeIn K cd_l_read "_law_read" = true)
    (k_l_read : PySem.W.keepIn K (.ref g_l_read) = true)
    (n_l_begin : PySem.W.nsIn K mainGlobals "_law_begin" = some (some (.ref g_l_begin)))
    (l_l_begin : K.lookup g_l_begin = some ⟨oc_l_begin, od_l_begin, .func (PySem.W.fnOf "_law_begin" "_law_begin" (defArgs s_l_begin) (defBody s_l_begin) (defScope s_l_begin) .none kV_l_begin dc_l_begin pm_l_begin an_l_begin cd_l_begin ct_l_begin), sl_l_begin⟩)
    (c_l_begin : PySem.W.codeIn K cd_l_begin "_law_begin" = true)
    (k_l_begin : PySem.W.keepIn K (.ref g_l_begin) = true)
    (n_l_bent : PySem.W.nsIn K mainGlobals "_law_bent" = some (some (.ref g_l_bent)))
    (l_l_bent : K.lookup g_l_bent = some ⟨oc_l_bent, od_l_bent, .func (PySem.W.fnOf "_law_bent" "_law_bent" (defArgs s_l_bent) (defBody s_l_bent) (defScope s_l_bent) .none kV_l_bent dc_l_bent pm_l_bent an_l_bent cd_l_bent ct_l_bent), sl_l_bent⟩)
    (c_l_bent : PySem.W.codeIn K cd_l_bent "_law_bent" = true)
    (k_l_bent : PySem.W.keepIn K (.ref g_l_bent) = true)
    (n_law : PySem.W.nsIn K mainGlobals "law" = some (some (.ref g_law)))
    (l_law : K.lookup g_law = some ⟨oc_law, od_law, .func (PySem.W.fnOf "law" "law" (defArgs s_law) (defBody s_law) (defScope s_law) .none kV_law dc_law pm_law an_law cd_law ct_law), sl_law⟩)
    (c_law : PySem.W.codeIn K cd_law "law" = true)
    (k_law : PySem.W.keepIn K (.ref g_law) = true)
    (gg_ : PySem.W.nsIn K mainGlobals "gcd" = some (some (.builtin "math.gcd")))
    (gP_ : PySem.W.nsIn K mainGlobals "PART" = some (some (.int 1000000000000000000000000000000000000000000000000000000000000 t1)))
    (gD_ : PySem.W.nsIn K mainGlobals "PART_DIGITS" = some (some (.int 60 t2)))
    (b_int : PySem.W.nsIn K mainGlobals "int" = some none)
    (b_str : PySem.W.nsIn K mainGlobals "str" = some none)
    (b_len : PySem.W.nsIn K mainGlobals "len" = some none)
    (b_list : PySem.W.nsIn K mainGlobals "list" = some none)
    (b_range : PySem.W.nsIn K mainGlobals "range" = some none)
    (b_repr : PySem.W.nsIn K mainGlobals "repr" = some none)
    (b_isinstance : PySem.W.nsIn K mainGlobals "isinstance" = some none)
    (b_ValueError : PySem.W.nsIn K mainGlobals "ValueError" = some none)
    (b_abs : PySem.W.nsIn K mainGlobals "abs" = some none)
    (b_bool : PySem.W.nsIn K mainGlobals "bool" = some none)
    (b_tuple : PySem.W.nsIn K mainGlobals "tuple" = some none)
    (b_divmod : PySem.W.nsIn K mainGlobals "divmod" = some none)
    (b_reversed : PySem.W.nsIn K mainGlobals "reversed" = some none)
    : ∃ fd : FuncData, (∀ (s : Shared) (v : Value), BindsTo s fd ⟨[v], []⟩ [("_law_script", v)]) ∧ ∀ base : Heap, K.In base → base.Ns mainGlobals mg → FnG P w K mg base CX0 6 fa fd ["_law_script"] (spLaw K) := by
  have e := hfa.symm.trans (PySem.W.mg_of X G n_law)
  cases e
  have B_int := PySem.W.mg_none_of X G b_int
  have B_str := PySem.W.mg_none_of X G b_str
  have B_len := PySem.W.mg_none_of X G b_len
  have B_list := PySem.W.mg_none_of X G b_list
  have B_range := PySem.W.mg_none_of X G b_range
  have B_repr := PySem.W.mg_none_of X G b_repr
  have B_isinstance := PySem.W.mg_none_of X G b_isinstance
  have B_ValueError := PySem.W.mg_none_of X G b_ValueError
  have B_abs := PySem.W.mg_none_of X G b_abs
  have B_bool := PySem.W.mg_none_of X G b_bool
  have B_tuple := PySem.W.mg_none_of X G b_tuple
  have B_divmod := PySem.W.mg_none_of X G b_divmod
  have B_reversed := PySem.W.mg_none_of X G b_reversed
  have xc0 := xc_mk x0 sa0 ga0 gg0 cc0 eC0 tC0 kC0 hC0 hm0 hn ht
  have r0 := row_mk x0 tC0
  have F0 := fun_mk (st := s_BadText) li0 ci0 ki0
  have B0 := F0.binds (ps := ["self", "line", "column"]) fun _ _ _ _ _ _ us hl => match us, hl with | [_, _, _], _ => rfl
  have xc1 := xc_mk x1 sa1 ga1 gg1 cc1 eC1 tC1 kC1 hC1 hm1 hn ht
  have r1 := row_mk x1 tC1
  have F1 := fun_mk (st := s_BadNumber) li1 ci1 ki1
  have B1 := F1.binds (ps := ["self", "what", "number"]) fun _ _ _ _ _ _ us hl => match us, hl with | [_, _, _], _ => rfl
  have F_is_whole := fun_mk (st := s_is_whole) l_is_whole c_is_whole k_is_whole
  have B_is_whole := F_is_whole.binds (ps := ["value"]) fun _ _ _ _ _ _ us hl => match us, hl with | [_], _ => rfl
  have m_is_whole := PySem.W.mg_of X G n_is_whole
  have F_is_ratio := fun_mk (st := s_is_ratio) l_is_ratio c_is_ratio k_is_ratio
  have B_is_ratio := F_is_ratio.binds (ps := ["value"]) fun _ _ _ _ _ _ us hl => match us, hl with | [_], _ => rfl
  have m_is_ratio := PySem.W.mg_of X G n_is_ratio
  have F_lowest := fun_mk (st := s_lowest) l_lowest c_lowest k_lowest
  have B_lowest := F_lowest.binds (ps := ["ratio"]) fun _ _ _ _ _ _ us hl => match us, hl with | [_], _ => rfl
  have m_lowest := PySem.W.mg_of X G n_lowest
  have F_ratio_of := fun_mk (st := s_ratio_of) l_ratio_of c_ratio_of k_ratio_of
  have B_ratio_of := F_ratio_of.binds (ps := ["text"]) fun _ _ _ _ _ _ us hl => match us, hl with | [_], _ => rfl
  have m_ratio_of := PySem.W.mg_of X G n_ratio_of
  have F_end_of_digits := fun_mk (st := s_end_of_digits) l_end_of_digits c_end_of_digits k_end_of_digits
  have B_end_of_digits := F_end_of_digits.binds (ps := ["text", "start"]) fun _ _ _ _ _ _ us hl => match us, hl with | [_, _], _ => rfl
  have m_end_of_digits := PySem.W.mg_of X G n_end_of_digits
  have F_number_of := fun_mk (st := s_number_of) l_number_of c_number_of k_number_of
  have B_number_of := F_number_of.binds (ps := ["digits"]) fun _ _ _ _ _ _ us hl => match us, hl with | [_], _ => rfl
  have m_number_of := PySem.W.mg_of X G n_number_of
  have F_ratio_text := fun_mk (st := s_ratio_text) l_ratio_text c_ratio_text k_ratio_text
  have B_ratio_text := F_ratio_text.binds (ps := ["ratio"]) fun _ _ _ _ _ _ us hl => match us, hl with | [_], _ => rfl
  have m_ratio_text := PySem.W.mg_of X G n_ratio_text
  have F_digits_of := fun_mk (st := s_digits_of) l_digits_of c_digits_of k_digits_of
  have B_digits_of := F_digits_of.binds (ps := ["number"]) fun _ _ _ _ _ _ us hl => match us, hl with | [_], _ => rfl
  have m_digits_of := PySem.W.mg_of X G n_digits_of
  have F_l_pen := fun_mk (st := s_l_pen) l_l_pen c_l_pen k_l_pen
  have B_l_pen := F_l_pen.binds (ps := ["_law_script"]) fun _ _ _ _ _ _ us hl => match us, hl with | [_], _ => rfl
  have m_l_pen := PySem.W.mg_of X G n_l_pen
  have F_l_draw := fun_mk (st := s_l_draw) l_l_draw c_l_draw k_l_draw
  have B_l_draw := F_l_draw.binds (ps := ["_law_pen_here", "_law_many"]) fun _ _ _ _ _ _ us hl => match us, hl with | [_, _], _ => rfl
  have m_l_draw := PySem.W.mg_of X G n_l_draw
  have F_l_pick := fun_mk (st := s_l_pick) l_l_pick c_l_pick k_l_pick
  have B_l_pick := F_l_pick.binds (ps := ["_law_pen_here", "_law_some"]) fun _ _ _ _ _ _ us hl => match us, hl with | [_, _], _ => rfl
  have m_l_pick := PySem.W.mg_of X G n_l_pick
  have F_l_big := fun_mk (st := s_l_big) l_l_big c_l_big k_l_big
  have B_l_big := F_l_big.binds (ps := ["_law_pen_here", "_law_figures"]) fun _ _ _ _ _ _ us hl => match us, hl with | [_, _], _ => rfl
  have m_l_big := PySem.W.mg_of X G n_l_big
  have F_l_gcd := fun_mk (st := s_l_gcd) l_l_gcd c_l_gcd k_l_gcd
  have B_l_gcd := F_l_gcd.binds (ps := ["_law_one", "_law_two"]) fun _ _ _ _ _ _ us hl => match us, hl with | [_, _], _ => rfl
  have m_l_gcd := PySem.W.mg_of X G n_l_gcd
  have F_l_q := fun_mk (st := s_l_q) l_l_q c_l_q k_l_q
  have B_l_q := F_l_q.binds (ps := ["_law_top", "_law_bottom"]) fun _ _ _ _ _ _ us hl => match us, hl with | [_, _], _ => rfl
  have m_l_q := PySem.W.mg_of X G n_l_q
  have F_l_written := fun_mk (st := s_l_written) l_l_written c_l_written k_l_written
  have B_l_written := F_l_written.binds (ps := ["_law_one"]) fun _ _ _ _ _ _ us hl => match us, hl with | [_], _ => rfl
  have m_l_written := PySem.W.mg_of X G n_l_written
  have F_l_is_whole := fun_mk (st := s_l_is_whole) l_l_is_whole c_l_is_whole k_l_is_whole
  have B_l_is_whole := F_l_is_whole.binds (ps := ["_law_value"]) fun _ _ _ _ _ _ us hl => match us, hl with | [_], _ => rfl
  have m_l_is_whole := PySem.W.mg_of X G n_l_is_whole
  have F_l_is_ratio := fun_mk (st := s_l_is_ratio) l_l_is_ratio c_l_is_ratio k_l_is_ratio
  have B_l_is_ratio := F_l_is_ratio.binds (ps := ["_law_value"]) fun _ _ _ _ _ _ us hl => match us, hl with | [_], _ => rfl
  have m_l_is_ratio := PySem.W.mg_of X G n_l_is_ratio
  have F_l_ratio := fun_mk (st := s_l_ratio) l_l_ratio c_l_ratio k_l_ratio
  have B_l_ratio := F_l_ratio.binds (ps := ["_law_pen_here", "_law_figures"]) fun _ _ _ _ _ _ us hl => match us, hl with | [_, _], _ => rfl
  have m_l_ratio := PySem.W.mg_of X G n_l_ratio
  have F_l_passed := fun_mk (st := s_l_passed) l_l_passed c_l_passed k_l_passed
  have B_l_passed := F_l_passed.binds (ps := ["_law_pen_here", "_law_ratio_here"]) fun _ _ _ _ _ _ us hl => match us, hl with | [_, _], _ => rfl
  have m_l_passed := PySem.W.mg_of X G n_l_passed
  have F_l_digits_end := fun_mk (st := s_l_digits_end) l_l_digits_end c_l_digits_end k_l_digits_end
  have B_l_digits_end := F_l_digits_end.binds (ps := ["_law_text", "_law_at"]) fun _ _ _ _ _ _ us hl => match us, hl with | [_, _], _ => rfl
  have m_l_digits_end := PySem.W.mg_of X G n_l_digits_end
  have F_l_due := fun_mk (st := s_l_due) l_l_due c_l_due k_l_due
  have B_l_due := F_l_due.binds (ps := ["_law_text"]) fun _ _ _ _ _ _ us hl => match us, hl with | [_], _ => rfl
  have m_l_due := PySem.W.mg_of X G n_l_due
  have F_l_read := fun_mk (st := s_l_read) l_l_read c_l_read k_l_read
  have B_l_read := F_l_read.binds (ps := ["_law_value"]) fun _ _ _ _ _ _ us hl => match us, hl with | [_], _ => rfl
  have m_l_read := PySem.W.mg_of X G n_l_read
  have F_l_begin := fun_mk (st := s_l_begin) l_l_begin c_l_begin k_l_begin
  have B_l_begin := F_l_begin.binds (ps := ["_law_pen_here"]) fun _ _ _ _ _ _ us hl => match us, hl with | [_], _ => rfl
  have m_l_begin := PySem.W.mg_of X G n_l_begin
  have F_l_bent := fun_mk (st := s_l_bent) l_l_bent c_l_bent k_l_bent
  have B_l_bent := F_l_bent.binds (ps := ["_law_pen_here", "_law_text"]) fun _ _ _ _ _ _ us hl => match us, hl with | [_, _], _ => rfl
  have m_l_bent := PySem.W.mg_of X G n_l_bent
  have F_law := fun_mk (st := s_law) l_law c_law k_law
  have len_nd := List.nodup_cons.mp nd
  refine ⟨PySem.W.fnOf "law" "law" (defArgs s_law) (defBody s_law) (defScope s_law) .none kV_law dc_law pm_law an_law cd_law ct_law, fun s v => .of_eq rfl, fun base _ _ => ?_⟩
  have M0 : MkE P w K mg base "BadText" C0 ["self", "line", "column"] ["line", "column"] := ⟨xc0, fun f hf => by simp only [List.mem_cons, List.not_mem_nil, or_false] at hf; rcases hf with rfl | rfl <;> assumption, PySem.W.mg_of X G a0, f0, _, iC0, tI0, ok_BadText F0, B0⟩
  have M1 : MkE P w K mg base "BadNumber" C1 ["self", "what", "number"] ["what", "number"] := ⟨xc1, fun f hf => by simp only [List.mem_cons, List.not_mem_nil, or_false] at hf; rcases hf with rfl | rfl <;> assumption, PySem.W.mg_of X G a1, f1, _, iC1, tI1, ok_BadNumber F1, B1⟩
  have gP := PySem.W.mg_of X G gP_
  have gD := PySem.W.mg_of X G gD_
  have gg := PySem.W.mg_of X G gg_
  have kM : PySem.W.kitOne K (.ref C0) (.ref CM) = some true := by
    have q := kit_ref r0 (fun z => len_nd.1 (by rw [← z]; simp)) isM tyM
    rw [decide_eq_true rfl] at q
    exact q
  have kV := kit_ve r0
  have T0 : Bad K mg "BadText" C0 := ⟨xc0, PySem.W.mg_of X G a0, exm_row r0 eC0⟩
  have T1 : Bad K mg "BadNumber" C1 := ⟨xc1, PySem.W.mg_of X G a1, exm_row r1 eC1⟩
  have G_is_whole := ok_is_whole (P := P) (w := w) (base := base) F_is_whole B_isinstance B_int B_bool
  have X_is_whole : Fx P w K mg base "is_whole" 1 ["value"] (spWhole K) := ⟨_, _, G_is_whole, m_is_whole, F_is_whole.kp, B_is_whole⟩
  have G_is_ratio := ok_is_ratio (P := P) (w := w) (base := base) F_is_ratio B_isinstance B_tuple B_len X_is_whole
  have X_is_ratio : Fx P w K mg base "is_ratio" 2 ["value"] (spRat K) := ⟨_, _, G_is_ratio, m_is_ratio, F_is_ratio.kp, B_is_ratio⟩
  have G_lowest := ok_lowest (P := P) (w := w) (base := base) F_lowest B_isinstance B_tuple gg
  have X_lowest : Fx P w K mg base "lowest" 1 ["ratio"] (spLow) := ⟨_, _, G_lowest, m_lowest, F_lowest.kp, B_lowest⟩
  have G_number_of := ok_number_of (P := P) (w := w) (base := base) F_number_of B_int
  have X_number_of : Fx P w K mg base "number_of" 1 ["digits"] (spNum) := ⟨_, _, G_number_of, m_number_of, F_number_of.kp, B_number_of⟩
  have G_end_of_digits := ok_end_of_digits (P := P) (w := w) (base := base) F_end_of_digits M0 B_len
  have G_ratio_of := ok_ratio_of (P := P) (w := w) (base := base) F_ratio_of M0 B_isinstance B_str B_len G_end_of_digits m_end_of_digits F_end_of_digits.kp B_end_of_digits X_number_of X_lowest
  have G_digits_of := ok_digits_of (P := P) (w := w) (base := base) F_digits_of gP gD B_divmod B_str B_reversed
  have X_digits_of : Fx P w K mg base "digits_of" 1 ["number"] (spDig) := ⟨_, _, G_digits_of, m_digits_of, F_digits_of.kp, B_digits_of⟩
  have G_ratio_text := ok_ratio_text (P := P) (w := w) (base := base) F_ratio_text M1 B_abs X_is_ratio X_lowest X_digits_of
  have G_l_pen := ok_pen (P := P) (w := w) (base := base) F_l_pen B_int B_list
  have X_l_pen : Fx P w K mg base "_law_pen" 1 ["_law_script"] (spPen K) := ⟨_, _, G_l_pen, m_l_pen, F_l_pen.kp, B_l_pen⟩
  have G_l_draw := ok_draw (P := P) (w := w) (base := base) F_l_draw B_int B_len
  have X_l_draw : Fx P w K mg base "_law_draw" 1 ["_law_pen_here", "_law_many"] (spDraw) := ⟨_, _, G_l_draw, m_l_draw, F_l_draw.kp, B_l_draw⟩
  have G_l_pick := ok_pick (P := P) (w := w) (base := base) F_l_pick B_len G_l_draw m_l_draw F_l_draw.kp B_l_draw
  have X_l_pick : Fx P w K mg base "_law_pick" 2 ["_law_pen_here", "_law_some"] (spPick K) := ⟨_, _, G_l_pick, m_l_pick, F_l_pick.kp, B_l_pick⟩
  have G_l_big := ok_big (P := P) (w := w) (base := base) F_l_big B_int B_str B_range G_l_draw m_l_draw F_l_draw.kp B_l_draw G_l_pick m_l_pick F_l_pick.kp B_l_pick
  have X_l_big : Fx P w K mg base "_law_big" 3 ["_law_pen_here", "_law_figures"] (spBig) := ⟨_, _, G_l_big, m_l_big, F_l_big.kp, B_l_big⟩
  have G_l_gcd := ok_l_gcd (P := P) (w := w) (base := base) F_l_gcd B_abs B_int
  have X_l_gcd : Fx P w K mg base "_law_gcd" 1 ["_law_one", "_law_two"] (spGcd) := ⟨_, _, G_l_gcd, m_l_gcd, F_l_gcd.kp, B_l_gcd⟩
  have G_l_q := ok_l_q (P := P) (w := w) (base := base) F_l_q X_l_gcd
  have X_l_q : Fx P w K mg base "_law_q" 2 ["_law_top", "_law_bottom"] (spQ) := ⟨_, _, G_l_q, m_l_q, F_l_q.kp, B_l_q⟩
  have G_l_written := ok_l_written (P := P) (w := w) (base := base) F_l_written B_str
  have X_l_written : Fx P w K mg base "_law_written" 1 ["_law_one"] (spWri) := ⟨_, _, G_l_written, m_l_written, F_l_written.kp, B_l_written⟩
  have G_l_is_whole := ok_l_is_whole (P := P) (w := w) (base := base) F_l_is_whole B_isinstance B_int B_bool
  have X_l_is_whole : Fx P w K mg base "_law_is_whole" 1 ["_law_value"] (spWhole K) := ⟨_, _, G_l_is_whole, m_l_is_whole, F_l_is_whole.kp, B_l_is_whole⟩
  have G_l_is_ratio := ok_l_is_ratio (P := P) (w := w) (base := base) F_l_is_ratio B_isinstance B_tuple B_len X_l_is_whole X_l_gcd
  have X_l_is_ratio : Fx P w K mg base "_law_is_ratio" 2 ["_law_value"] (spLir) := ⟨_, _, G_l_is_ratio, m_l_is_ratio, F_l_is_ratio.kp, B_l_is_ratio⟩
  have G_l_digits_end := ok_l_digits_end (P := P) (w := w) (base := base) F_l_digits_end B_range B_len B_tuple
  have X_l_digits_end : Fx P w K mg base "_law_digits_end" 1 ["_law_text", "_law_at"] (spDen) := ⟨_, _, G_l_digits_end, m_l_digits_end, F_l_digits_end.kp, B_l_digits_end⟩
  have G_l_due := ok_l_due (P := P) (w := w) (base := base) F_l_due B_int B_len X_l_digits_end X_l_q
  have X_l_due : Fx P w K mg base "_law_due" 3 ["_law_text"] (spDue K) := ⟨_, _, G_l_due, m_l_due, F_l_due.kp, B_l_due⟩
  have G_l_ratio := ok_l_ratio (P := P) (w := w) (base := base) F_l_ratio X_l_draw X_l_pick X_l_big X_l_q
  have X_l_ratio : Fx P w K mg base "_law_ratio" 4 ["_law_pen_here", "_law_figures"] (spLra) := ⟨_, _, G_l_ratio, m_l_ratio, F_l_ratio.kp, B_l_ratio⟩
  have G_l_passed := ok_l_passed (P := P) (w := w) (base := base) F_l_passed X_l_draw
  have X_l_passed : Fx P w K mg base "_law_passed" 2 ["_law_pen_here", "_law_ratio_here"] (spPas K) := ⟨_, _, G_l_passed, m_l_passed, F_l_passed.kp, B_l_passed⟩
  have G_l_begin := ok_l_begin (P := P) (w := w) (base := base) F_l_begin B_str X_l_draw X_l_pick X_l_big
  have X_l_begin : Fx P w K mg base "_law_begin" 4 ["_law_pen_here"] (spBeg) := ⟨_, _, G_l_begin, m_l_begin, F_l_begin.kp, B_l_begin⟩
  have G_l_bent := ok_l_bent (P := P) (w := w) (base := base) F_l_bent B_len X_l_draw X_l_pick
  have X_l_bent : Fx P w K mg base "_law_bent" 3 ["_law_pen_here", "_law_text"] (spBen) := ⟨_, _, G_l_bent, m_l_bent, F_l_bent.kp, B_l_bent⟩
  have G_l_read := ok_l_read (P := P) (w := w) (base := base) F_l_read T0 (PySem.W.mg_of X G aM) B_isinstance B_ValueError no0line no0column kM kV G_ratio_of m_ratio_of F_ratio_of.kp B_ratio_of X_l_is_ratio
  have X_l_read : Fx P w K mg base "_law_read" 5 ["_law_value"] (spDue K) := ⟨_, _, G_l_read, m_l_read, F_l_read.kp, B_l_read⟩
  have TT : TL P w K mg base C0 C1 :=
    ⟨X_l_pen, X_l_begin, X_l_read, X_l_due, X_l_bent, X_l_ratio, X_l_passed, X_l_written, T0, T1, no0line, no0column, no1what, no1number, B_range, B_repr, B_isinstance, B_bool⟩
  exact ok_law F_law TT G_ratio_text m_ratio_text F_ratio_text.kp B_ratio_text G_ratio_of m_ratio_of F_ratio_of.kp B_ratio_of
end Z
open PySem PySem.W PyProof.Rows
set_option maxRecDepth 100000 in
set_option maxHeartbeats 0 in
theorem PySem.Challenge.cw_anymend_k00_ratio_texts_holds : PySem.Challenge.rw_anymend_k00_ratio_texts.Holds := by
  w_on; o_law; k_head; (case hw => w_witness2)
  k_fill
  refine Z.walkG (l := PySem.Challenge.rw_anymend_k00_ratio_texts) (n := 63) (k := 6) (x := "_law_script") (sp := fun w => Z.spLaw _) rfl (by decide) rfl ⟨rfl, by decide, by decide⟩ (fun w h Y => PySem.W.kIn_of Y) ?F (fun _ _ a ns hl hS => ⟨a, ns, rfl, hS, hl, fun _ => rfl⟩)
  case F =>
    intro w mg fa h KX G hmg
    refine' Z.all_mk KX G hmg ?aM ?isM ?tyM ?hn ?ht ?nd ?a0 ?x0 ?sa0 ?ga0 ?gg0 ?cc0 ?eC0 ?tC0 ?kC0 ?hC0 ?hm0 ?iC0 ?tI0 ?li0 ?ci0 ?ki0 ?no0line ?no0column ?a1 ?x1 ?sa1 ?ga1 ?gg1 ?cc1 ?eC1 ?tC1 ?kC1 ?hC1 ?hm1 ?iC1 ?tI1 ?li1 ?ci1 ?ki1 ?no1what ?no1number ?n_is_whole ?l_is_whole ?c_is_whole ?k_is_whole ?n_is_ratio ?l_is_ratio ?c_is_ratio ?k_is_ratio ?n_lowest ?l_lowest ?c_lowest ?k_lowest ?n_ratio_of ?l_ratio_of ?c_ratio_of ?k_ratio_of ?n_end_of_digits ?l_end_of_digits ?c_end_of_digits ?k_end_of_digits ?n_number_of ?l_number_of ?c_number_of ?k_number_of ?n_ratio_text ?l_ratio_text ?c_ratio_text ?k_ratio_text ?n_digits_of ?l_digits_of ?c_digits_of ?k_digits_of ?n_l_pen ?l_l_pen ?c_l_pen ?k_l_pen ?n_l_draw ?l_l_draw ?c_l_draw ?k_l_draw ?n_l_pick ?l_l_pick ?c_l_pick ?k_l_pick ?n_l_big ?l_l_big ?c_l_big ?k_l_big ?n_l_gcd ?l_l_gcd ?c_l_gcd ?k_l_gcd ?n_l_q ?l_l_q ?c_l_q ?k_l_q ?n_l_written ?l_l_written ?c_l_written ?k_l_written ?n_l_is_whole ?l_l_is_whole ?c_l_is_whole ?k_l_is_whole ?n_l_is_ratio ?l_l_is_ratio ?c_l_is_ratio ?k_l_is_ratio ?n_l_ratio ?l_l_ratio ?c_l_ratio ?k_l_ratio ?n_l_passed ?l_l_passed ?c_l_passed ?k_l_passed ?n_l_digits_end ?l_l_digits_end ?c_l_digits_end ?k_l_digits_end ?n_l_due ?l_l_due ?c_l_due ?k_l_due ?n_l_read ?l_l_read ?c_l_read ?k_l_read ?n_l_begin ?l_l_begin ?c_l_begin ?k_l_begin ?n_l_bent ?l_l_bent ?c_l_bent ?k_l_bent ?n_law ?l_law ?c_law ?k_law ?gg_ ?gP_ ?gD_ ?b_int ?b_str ?b_len ?b_list ?b_range ?b_repr ?b_isinstance ?b_ValueError ?b_abs ?b_bool ?b_tuple ?b_divmod ?b_reversed
    (case aM => k_is)
    (case isM => k_is)
    (case tyM => k_is)
    (case hn => k_is)
    (case ht => k_is)
    (case a0 => k_is)
    (case x0 => k_is)
    (case sa0 => k_is)
    (case ga0 => k_is)
    (case gg0 => k_is)
    (case cc0 => k_is)
    (case eC0 => k_is)
    (case tC0 => k_is)
    (case kC0 => k_is)
    (case hC0 => k_is)
    (case hm0 => k_is)
    (case iC0 => k_is)
    (case tI0 => k_is)
    (case li0 => k_is)
    (case ci0 => k_is)
    (case ki0 => k_is)
    (case no0line => k_is)
    (case no0column => k_is)
    (case a1 => k_is)
    (case x1 => k_is)
    (case sa1 => k_is)
    (case ga1 => k_is)
    (case gg1 => k_is)
    (case cc1 => k_is)
    (case eC1 => k_is)
    (case tC1 => k_is)
    (case kC1 => k_is)
    (case hC1 => k_is)
    (case hm1 => k_is)
    (case iC1 => k_is)
    (case tI1 => k_is)
    (case li1 => k_is)
    (case ci1 => k_is)
    (case ki1 => k_is)
    (case no1what => k_is)
    (case no1number => k_is)
    (case n_is_whole => k_is)
    (case l_is_whole => k_is)
    (case c_is_whole => k_is)
    (case k_is_whole => k_is)
    (case n_is_ratio => k_is)
    (case l_is_ratio => k_is)
    (case c_is_ratio => k_is)
    (case k_is_ratio => k_is)
    (case n_lowest => k_is)
    (case l_lowest => k_is)
    (case c_lowest => k_is)
    (case k_lowest => k_is)
    (case n_ratio_of => k_is)
    (case l_ratio_of => k_is)
    (case c_ratio_of => k_is)
    (case k_ratio_of => k_is)
    (case n_end_of_digits => k_is)
    (case l_end_of_digits => k_is)
    (case c_end_of_digits => k_is)
    (case k_end_of_digits => k_is)
    (case n_number_of => k_is)
    (case l_number_of => k_is)
    (case c_number_of => k_is)
    (case k_number_of => k_is)
    (case n_ratio_text => k_is)
    (case l_ratio_text => k_is)
    (case c_ratio_text => k_is)
    (case k_ratio_text => k_is)
    (case n_digits_of => k_is)
    (case l_digits_of => k_is)
    (case c_digits_of => k_is)
    (case k_digits_of => k_is)
    (case n_l_pen => k_is)
    (case l_l_pen => k_is)
    (case c_l_pen => k_is)
    (case k_l_pen => k_is)
    (case n_l_draw => k_is)
    (case l_l_draw => k_is)
    (case c_l_draw => k_is)
    (case k_l_draw => k_is)
    (case n_l_pick => k_is)
    (case l_l_pick => k_is)
    (case c_l_pick => k_is)
    (case k_l_pick => k_is)
    (case n_l_big => k_is)
    (case l_l_big => k_is)
    (case c_l_big => k_is)
    (case k_l_big => k_is)
    (case n_l_gcd => k_is)
    (case l_l_gcd => k_is)
    (case c_l_gcd => k_is)
    (case k_l_gcd => k_is)
    (case n_l_q => k_is)
    (case l_l_q => k_is)
    (case c_l_q => k_is)
    (case k_l_q => k_is)
    (case n_l_written => k_is)
    (case l_l_written => k_is)
    (case c_l_written => k_is)
    (case k_l_written => k_is)
    (case n_l_is_whole => k_is)
    (case l_l_is_whole => k_is)
    (case c_l_is_whole => k_is)
    (case k_l_is_whole => k_is)
    (case n_l_is_ratio => k_is)
    (case l_l_is_ratio => k_is)
    (case c_l_is_ratio => k_is)
    (case k_l_is_ratio => k_is)
    (case n_l_ratio => k_is)
    (case l_l_ratio => k_is)
    (case c_l_ratio => k_is)
    (case k_l_ratio => k_is)
    (case n_l_passed => k_is)
    (case l_l_passed => k_is)
    (case c_l_passed => k_is)
    (case k_l_passed => k_is)
    (case n_l_digits_end => k_is)
    (case l_l_digits_end => k_is)
    (case c_l_digits_end => k_is)
    (case k_l_digits_end => k_is)
    (case n_l_due => k_is)
    (case l_l_due => k_is)
    (case c_l_due => k_is)
    (case k_l_due => k_is)
    (case n_l_read => k_is)
    (case l_l_read => k_is)
    (case c_l_read => k_is)
    (case k_l_read => k_is)
    (case n_l_begin => k_is)
    (case l_l_begin => k_is)
    (case c_l_begin => k_is)
    (case k_l_begin => k_is)
    (case n_l_bent => k_is)
    (case l_l_bent => k_is)
    (case c_l_bent => k_is)
    (case k_l_bent => k_is)
    (case n_law => k_is)
    (case l_law => k_is)
    (case c_law => k_is)
    (case k_law => k_is)
    (case gg_ => k_is)
    (case gP_ => k_is)
    (case gD_ => k_is)
    (case b_int => k_is)
    (case b_str => k_is)
    (case b_len => k_is)
    (case b_list => k_is)
    (case b_range => k_is)
    (case b_repr => k_is)
    (case b_isinstance => k_is)
    (case b_ValueError => k_is)
    (case b_abs => k_is)
    (case b_bool => k_is)
    (case b_tuple => k_is)
    (case b_divmod => k_is)
    (case b_reversed => k_is)
    (case nd => decide)
