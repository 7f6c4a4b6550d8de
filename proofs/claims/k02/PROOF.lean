import PyProof.Rows.All
import Wide.All
import OpenK.AllK
import Wide.FinOn
import HandS.ForMost
import HandS.AnyAll
import HandS.GenList
import HandS.Walk
import HandS.EndTab
import PyProof.TupleCall
import PyProof.MeetsIn
import PyProof.Rows.Range3
import HandS.Zip
import KE.GoesMore
import KE.GoesEnum
import HandS.TupSets
import HandS.IsInst
import HandS.Codes
import KE.KIndexOf
import HandS.Star
import HandS.Exc
import HandS.ExcInit
import HandS.Steps
import HandS.EndOwn
import KE.KNest
import PySem.Challenge.RW_anymend_k02_whole_rows_modulo_primes
set_option Elab.async false
set_option linter.all false
set_option maxRecDepth 100000
set_option maxHeartbeats 2000000
namespace GX
open PySem PySem.Spec PyProof.Rows L2
/-! generator expressions over anything that is walked, their elements by the hand layer: the frame -/
theorem over_comp {A : Around} {elt tg iter : Expr} {ifs : List Expr} {scope : Scope} {pos : Pos} {it acc : Value} {env : Env} :
    A.over (.compLoop (.GeneratorExp elt [⟨tg, iter, ifs, 0⟩] scope pos) 0 it acc env) [] = A.deeper env := by
  first
    | rfl
    | (obtain ⟨hd, d, fr, gs, u⟩ := A; simp [Around.over, Around.deeper, marksOver, frameCount, unitsOf, envsOf, guardsOf, pushEnvs, pushGuards, Code.envs, Code.env?, Code.isFrame, Code.guards, Code.isGuard, Code.weight, Code.frames, Code.isCreation, Code.isCaller, Code.cUnits])
theorem over_start {A : Around} {elt tg iter : Expr} {ifs : List Expr} {scope : Scope} {pos : Pos} {it acc : Value} {env : Env} :
    A.over (.compStart (.GeneratorExp elt [⟨tg, iter, ifs, 0⟩] scope pos) 0 it acc env) [] = A.deeper env := by
  first
    | rfl
    | (obtain ⟨hd, d, fr, gs, u⟩ := A; simp [Around.over, Around.deeper, marksOver, frameCount, unitsOf, envsOf, guardsOf, pushEnvs, pushGuards, Code.envs, Code.env?, Code.isFrame, Code.guards, Code.isGuard, Code.weight, Code.frames, Code.isCreation, Code.isCaller, Code.cUnits])
/-- the frame's context; s, H: where it was made; fp: the walked iterator's objects -/
abbrev gxc (X : Cx) (A : Around) (s : Shared) (H : Hp) (env : Env) (N : List Str) (fp : List Addr) (pn : List (Addr × Obj)) : Cx :=
  { X with A := A, N := N, s_0 := s, H_0 := H, env := env, outer := X.stack, stack := env :: X.stack, ex := fp, fn := fun _ => false, calm := true, pn := pn, xe := fun _ _ => False }
abbrev gxe (X : Cx) (scope : Scope) (C : Addr) (code : Value) : Env := genEnv scope (cloFrom X.env.cells scope.names []) C code builtinsNs X.env
/-- the scope of the expression: sc the def's, N its slots, Ng the frame's slots, src: the def's slots of the captured ones -/
structure GScp (sc scope : Scope) (N Ng : List Str) (src : List (Option Nat)) : Prop where
  kind : scope.kind = .function
  co : scope.isCoroutine = false
  uniq : ∀ y ∈ scope.names, scope.names.lookup y.1 = some y.2
  cell : ∀ y ∈ scope.names, y.2 ≠ .cell
  dot : scope.names.lookup (".0" : Str) = some NameKind.local
  free : ∀ y ∈ scope.names, y.2 = .free → sc.names.lookup y.1 = some .cell ∨ sc.names.lookup y.1 = some .free
  len : src.length = Ng.length
  src : ∀ i j : Nat, src[i]? = some (some j) → ∃ y, Ng[i]? = some y ∧ N[j]? = some y ∧ scope.names.lookup y = some .free
def isF : Option NameKind → Bool
  | some .free => true
  | _ => false
def isCF : Option NameKind → Bool
  | some .free => true
  | some .cell => true
  | _ => false
def isL : Option NameKind → Bool
  | some .local => true
  | _ => false
def isFn : ScopeKind → Bool
  | .function => true
  | _ => false
def gscpB (sc scope : Scope) (N Ng : List Str) (src : List (Option Nat)) : Bool :=
  isFn scope.kind && !scope.isCoroutine && scope.names.all (fun y => decide (scope.names.lookup y.1 = some y.2)) && scope.names.all (fun y => !decide (y.2 = .cell)) && isL (scope.names.lookup (".0" : Str)) &&
  scope.names.all (fun y => !decide (y.2 = .free) || isCF (sc.names.lookup y.1)) && decide (src.length = Ng.length) &&
  (List.range src.length).all fun i => match src[i]? with
    | some (some j) => (match Ng[i]? with
      | some y => decide (N[j]? = some y) && isF (scope.names.lookup y)
      | none => false)
    | _ => true
theorem isF_eq {o : Option NameKind} (h : isF o = true) : o = some .free := by
  cases o with
  | none => cases h
  | some k => cases k <;> first | rfl | cases h
theorem isL_eq {o : Option NameKind} (h : isL o = true) : o = some .local := by
  cases o with
  | none => cases h
  | some k => cases k <;> first | rfl | cases h
theorem isCF_eq {o : Option NameKind} (h : isCF o = true) : o = some .cell ∨ o = some .free := by
  cases o with
  | none => cases h
  | some k => cases k <;> first | exact .inl rfl | exact .inr rfl | cases h
theorem isFn_eq {k : ScopeKind} (h : isFn k = true) : k = .function := by
  cases k <;> first | rfl | cases h
theorem gscp_by {sc scope : Scope} {N Ng : List Str} {src : List (Option Nat)} (h : gscpB sc scope N Ng src = true) : GScp sc scope N Ng src := by
  unfold gscpB at h
  simp only [Bool.and_eq_true, Bool.not_eq_true', List.all_eq_true, decide_eq_true_eq, Bool.or_eq_true, decide_eq_false_iff_not] at h
  obtain ⟨⟨⟨⟨⟨⟨⟨h1, h2⟩, h3⟩, h4⟩, h5⟩, h6⟩, h7⟩, h8⟩ := h
  refine ⟨isFn_eq h1, h2, fun y hy => h3 y hy, fun y hy => h4 y hy, isL_eq h5, fun y hy e => ?_, h7, fun i j e => ?_⟩
  · rcases h6 y hy with q | q
    · exact absurd e q
    · exact isCF_eq q
  · have hi : i < src.length := (List.getElem?_eq_some_iff.mp e).1
    have q := h8 i (List.mem_range.mpr hi)
    rw [e] at q
    simp only at q
    split at q
    · rename_i y hy
      rw [Bool.and_eq_true, decide_eq_true_eq] at q
      exact ⟨y, hy, q.1, isF_eq q.2⟩
    · cases q
def sel (σ : L2.St) (src : List (Option Nat)) : L2.St := src.map fun o => o.bind fun j => (σ[j]?).join
theorem sel_some {σ : L2.St} {src : List (Option Nat)} {i : Nat} {v : V} (h : (sel σ src)[i]? = some (some v)) : ∃ j, src[i]? = some (some j) ∧ σ[j]? = some (some v) := by
  unfold sel at h
  rw [List.getElem?_map] at h
  cases e : src[i]? with
  | none => rw [e] at h; cases h
  | some o =>
    rw [e] at h
    have h := Option.some.inj h
    cases o with
    | none => cases h
    | some j =>
      refine ⟨j, rfl, ?_⟩
      have h : (σ[j]?).join = some v := h
      cases e2 : σ[j]? with
      | none => rw [e2] at h; cases h
      | some q => rw [e2] at h; rw [show q = some v from h]
section
variable {X : Cx} {pins pins' : List (Addr × Obj)} {σ : L2.St} {H : Hp} {s s5 : Shared} {A : Around} {scope : Scope} {code : Value} {Ng : List Str} {src : List (Option Nat)} {fp : List Addr} {pn : List (Addr × Obj)} {C : Addr} {mC : Str → Option Value}
theorem GScp.has (S : GScp X.env.scope scope X.N Ng src) (ok : X.Ok) : ∀ y ∈ scope.names, y.2 = .free → ∃ c, X.env.cells.lookup y.1 = some c := fun y hy e => by
  rcases S.free y hy e with k | k
  · exact ok.has _ (.inl k)
  · exact ok.has _ (.inr k)
theorem GScp.clo (S : GScp X.env.scope scope X.N Ng src) (ok : X.Ok) {y : Str} (hl : scope.names.lookup y = some .free) : ∃ c, (cloFrom X.env.cells scope.names []).lookup y = some c ∧ X.env.cells.lookup y = some c := by
  have hy : (y, NameKind.free) ∈ scope.names := PySem.mem_of_lookup hl
  obtain ⟨c', e'⟩ := mem_lookup (cloFrom_has (cells := X.env.cells) (acc := []) hy)
  refine ⟨c', e', ?_⟩
  rcases cloFrom_mem (PySem.mem_of_lookup e') with hm | ⟨h1, rfl⟩
  · cases hm
  · obtain ⟨c, hc⟩ := S.has ok _ h1 rfl
    rw [hc]
    rfl
theorem GScp.cm (S : GScp X.env.scope scope X.N Ng src) (ok : X.Ok) {y : Str} {c : Addr} (h : (cloFrom X.env.cells scope.names []).lookup y = some c) : X.env.cells.lookup y = some c ∧ scope.names.lookup y = some .free := by
  rcases cloFrom_mem (PySem.mem_of_lookup h) with hm | ⟨h1, rfl⟩
  · cases hm
  · obtain ⟨c, hc⟩ := S.has ok _ h1 rfl
    have := S.uniq _ h1
    rw [hc]
    exact ⟨rfl, this⟩
/-- the frame's first state -/
theorem gx_start (I : Inv X pins σ H s) (S : GScp X.env.scope scope X.N Ng src) (hA : A.handled = none) (hf : A.frames = some X.stack) (hfp : ∀ b ∈ fp, FpOk X pins H b ∧ b < s.heap.objs.size) (hC : s.heap.objs.size ≤ C)
    (keep : ∀ b o, s.heap.get? b = some o → s5.heap.get? b = some o) (ns : s5.heap.Ns C mC) (os : s5.os = s.os) (bare : AllBare s5.gens)
    (hp : ∀ p ∈ pn ++ pins', s5.heap.get? p.1 = some p.2 ∧ H p.1 = none ∧ p.1 ≠ C ∧ p.1 ∉ frs X.stack ∧ ∀ v, p.2.data ≠ .cell v) :
    Inv (gxc X (A.deeper (gxe X scope C code)) s H (gxe X scope C code) Ng fp pn) pins' (sel σ src) H s5 := by
  have okB : (gxc X (A.deeper (gxe X scope C code)) s H (gxe X scope C code) Ng fp pn).Ok := by
    refine ⟨I.ok.mod, S.kind, I.ok.glob, rfl, hC, fun y z c e1 e2 => I.ok.inj y z c (S.cm I.ok e1).1 (S.cm I.ok e2).1, fun y hy => ?_, fun y c z _ => (by cases z), fun _ => hA, Around.frames_deeper hf, .inr ⟨rfl, rfl⟩, fun b hb => ⟨?_, fun y c e z => ?_⟩, I.bs, Nat.le_trans I.ok.bsz I.sz, fun b o e hb => ?_, fun b hb z => ?_, I.stack, I.stkFree⟩
    · have hy : scope.names.lookup y = some .cell ∨ scope.names.lookup y = some .free := hy
      rcases hy with hy | hy
      · exact absurd rfl (S.cell _ (PySem.mem_of_lookup hy))
      · obtain ⟨c, h1, _⟩ := S.clo I.ok hy
        exact ⟨c, h1⟩
    · exact Nat.ne_of_lt (Nat.lt_of_lt_of_le (hfp b hb).2 hC)
    · exact (hfp b hb).1.2.2.2.2.1 y c (S.cm I.ok e).1 z
    · rcases (hfp b hb).1.2.2.2.1 with z | z
      · exact I.ok.noex b o e z
      · exact absurd (Nat.lt_of_lt_of_le (Heap.lt_size e) (Nat.le_trans I.ok.bsz z)) (Nat.lt_irrefl _)
    · rcases List.mem_cons.mp (I.stkSub b z) with z | z
      · exact (hfp b hb).1.2.1 z
      · exact (hfp b hb).1.2.2.1 z
  refine ⟨okB, os, bare, Un.kept keep, ⟨mC, ns, fun i y v e1 e2 e3 => ?_⟩, fun y c e => ?_, I.hok.fresh hC, fun y c e => I.freeC y c (S.cm I.ok e).1, hp, I.hok.kept keep, ?_⟩
  · obtain ⟨j, h1, h2⟩ := sel_some e2
    obtain ⟨y', g1, g2, g3⟩ := S.src i j h1
    rw [show Ng[i]? = some y from e1] at g1
    cases g1
    have hk := S.free _ (PySem.mem_of_lookup g3) rfl
    obtain ⟨mX, nX, hl⟩ := I.loc
    obtain ⟨u, r, l⟩ := hl j y v g2 h2 (by rcases hk with q | q; exact .inr (.inl q); exact .inr (.inr q))
    refine ⟨u, r, .inr ⟨.inr g3, ?_⟩⟩
    obtain ⟨c, e4, e5⟩ := S.clo I.ok g3
    rcases l with ⟨l, _⟩ | ⟨_, c', e, z⟩
    · have l : X.env.scope.names.lookup y = some .local := l
      rcases hk with q | q <;> (rw [l] at q; cases q)
    · rw [e5] at e
      cases e
      exact ⟨c, e4, z.keeps keep⟩
  · obtain ⟨v, z⟩ := I.cell y c (S.cm I.ok e).1
    exact ⟨v, z.keeps keep⟩
  · show (sel σ src).length = Ng.length
    unfold sel
    rw [List.length_map]
    exact S.len
end
end GX
set_option Elab.async false
set_option linter.all false
set_option maxRecDepth 100000
set_option maxHeartbeats 2000000
namespace GX
open PySem PySem.Spec PyProof.Rows L2
/-! the turns -/
abbrev CP := List V → List (Addr × Obj) → Prop
abbrev STP := List V → V → Hp → (Hp → Prop) → Prop
abbrev EN := List V → Hp → Prop
/-- an item is handed out: cp tells what the consumer keeps of its own -/
def Yp (Y : Cx) (cp : CP) (Step : STP) : Protocol := fun n s₀ v s kap =>
  ∃ (ys : List V) (y : V) (ps ip : List (Addr × Obj)) (σ2 : L2.St) (H : Hp) (Nx : Hp → Prop), RelV y v ∧ cp ys ps ∧ (∀ p ∈ ip, p.1 < Y.s_0.heap.objs.size) ∧ Inv Y (ps ++ ip) σ2 H s ∧ Step ys y H Nx ∧
    ∀ s' ps', cp (ys ++ [y]) ps' → Inv Y (ps' ++ ip) σ2 H s' → Nx H → kap (.send .none) s'
def Rp (Y : Cx) (cp : CP) (End : EN) : GenEnd := fun n s₀ r s => r = .ok .next ∧ ∃ (ys : List V) (ps : List (Addr × Obj)) (σ2 : L2.St) (H : Hp), cp ys ps ∧ Inv Y ps σ2 H s ∧ End ys H
/-- the reading of the turns: by the turn, a measure, what is out, the heap -/
def Turns (J : It) (g : TG) (tt : TT) (te : TE) (σg : L2.St) (vs : List Nat) (Step : STP) (End : EN) (W : Nat → Nat → List V → Hp → Prop) : Prop :=
  ∀ i m ys H, W i m ys H → (J.stop i H ∧ End ys H) ∨ (J.go i H ∧ ∃ Nx : List V → Hp → Prop, (∀ ys' H', Nx ys' H' → ∃ m', m' < m ∧ W (i + 1) m' ys' H') ∧
    ∀ x H', J.yld i H x H' → g x σg H' fun σ2 H2 => wipe σ2 vs = σg ∧ tt σ2 H2 fun b H3 => if b = true then te σ2 H3 fun y H4 => Step ys y H4 (Nx (ys ++ [y])) else Nx ys H3)
section
variable {Y : Cx} {A : Around} {elt tg iter : Expr} {ifs : List Expr} {scope : Scope} {pos : Pos} {J : It} {fp : List Addr} {it : Addr} {tn : Nat → Heap → Prop} {g : TG} {tt : TT} {te : TE} {σg : L2.St} {vs : List Nat} {Step : STP} {End : EN} {W : Nat → Nat → List V → Hp → Prop} {cp : CP}
theorem stat (hx : Y.ex = fp) (hpn : ∀ p ∈ Y.pn, p.1 ∉ fp) {ps : List (Addr × Obj)} (hps : ∀ p ∈ ps, p.1 ∉ fp) {σ : L2.St} {H : Hp} {s : Shared} (I : Inv Y ps σ H s) (hn : ∀ b ∈ fp, H b = none) : ∀ b ∈ fp, FpOk Y ps H b := fun b hb =>
  ⟨hn b hb, (I.ok.exf b (hx ▸ hb)).1, I.ok.exfs b (hx ▸ hb), .inl (hx ▸ hb), fun x c e => (I.ok.exf b (hx ▸ hb)).2 x c e, fun p hp z => by
    rcases List.mem_append.mp hp with q | q
    · exact hpn p q (z ▸ hb)
    · exact hps p q (z ▸ hb)⟩
theorem seg_loop (hA : A.deeper Y.env = Y.A) (hc : Y.calm = true) (hxe : Y.xe = fun _ _ => False) (hx : Y.ex = fp) (hpn : ∀ p ∈ Y.pn, p.1 ∉ fp) (hco : Y.env.scope.isCoroutine = false) (hfs : ∀ b ∈ fp, b < Y.s_0.heap.objs.size) (T : Turn Y.prog Y.w Y.K tg J fp it tn) (hg : PG Y tg g) (ht : PTs Y ifs tt) (he : PE Y elt te)
    (hcp : ∀ ys ps, cp ys ps → ∀ p ∈ ps, p.1 ∉ fp) (turn : Turns J g tt te σg vs Step End W) :
    ∀ (m n i : Nat) (ys : List V) (s₀ s : Shared) (H : Hp) (ps : List (Addr × Obj)), m < n → W i m ys H → cp ys ps → Inv Y ps σg H s → tn i s.heap → (∀ b ∈ fp, H b = none) →
      Seg (model Y.prog Y.w) A (Rp Y cp End) (Yp Y cp Step) n s₀ (.compLoop (.GeneratorExp elt [⟨tg, iter, ifs, 0⟩] scope pos) 0 (.ref it) .none Y.env)
        ((model Y.prog Y.w).den (.compLoop (.GeneratorExp elt [⟨tg, iter, ifs, 0⟩] scope pos) 0 (.ref it) .none Y.env)) [] s := by
  intro m
  induction m using Nat.strongRecOn with
  | ind m ih =>
    intro n i ys s₀ s H ps hmn w hc1 I st hn
    have ov : A.over (.compLoop (.GeneratorExp elt [⟨tg, iter, ifs, 0⟩] scope pos) 0 (.ref it) .none Y.env) [] = Y.A := over_comp.trans hA
    have F : ∀ {α : Type} {t : Sem α} {Q : α → Shared → Prop} {E : Value → Shared → Prop} {s : Shared}, wpAny (model Y.prog Y.w) Y.A t Q Y.xe s → wpAny (model Y.prog Y.w) Y.A t Q E s := fun {α t Q E s} h => by
      rw [hxe] at h
      exact wpAny_mono h (fun _ _ z => z) fun _ _ z => False.elim z
    have back : ∀ {ps : List (Addr × Obj)} {s7 s' : Shared} {σ8 : L2.St} {H' : Hp}, Inv Y (ps ++ pinsAt fp s7.heap) σ8 H' s' → wipe σ8 vs = σg → tn (i + 1) s7.heap → Inv Y ps σg H' s' ∧ tn (i + 1) s'.heap ∧ ∀ b ∈ fp, H' b = none := fun {ps s7 s' σ8 H'} I' hw st7 => by
      have pin' : ∀ b ∈ fp, ∀ o, s7.heap.get? b = some o → s'.heap.get? b = some o ∧ H' b = none := fun b hb o e =>
        let z := I'.pin (b, o) (List.mem_append_right _ (List.mem_append_right _ (mem_pinsAt hb e)))
        ⟨z.1, z.2.1⟩
      refine ⟨I'.unpinned.weak (by rw [← hw, wipe_length]) fun j v e => ?_, T.keep _ _ _ st7 fun b hb o e => (pin' b hb o e).1, fun b hb => ?_⟩
      · rw [← hw] at e
        exact (wipe_some e).1
      · obtain ⟨o, e, _⟩ := T.obj _ _ st7 b hb
        exact (pin' b hb o e).2
    show Seg _ A _ _ n s₀ _ ((compTurn (.GeneratorExp elt [⟨tg, iter, ifs, 0⟩] scope pos) 0 (.ref it) .none Y.env).onRaise (leaving Y.env)) [] s
    rw [compTurn_gen, Sem.onRaise_eq_wrap]
    refine seg_bind_wrap ?_
    rw [ov]
    refine wpAny_standAt ?_
    have hS := stat hx hpn (hcp ys ps hc1) I hn
    rcases turn i m ys H w with ⟨stop, hE⟩ | ⟨go, Nx, hNx, step⟩
    · refine seg_bind_wrap ?_
      rw [ov]
      refine thnF (T.done Y rfl rfl rfl hc i ps s σg H (fun _ _ => False) I hS st stop) fun r s1 ⟨hr, I1⟩ => ?_
      subst hr
      exact seg_end (.ok .next) ⟨rfl, ys, ps, σg, H, hc1, I1, hE⟩
    · refine seg_bind_wrap ?_
      rw [ov]
      refine thnF (T.item Y rfl rfl rfl hc i ps s σg H (fun _ _ => False) I hS st go) fun r s1 ⟨u, hr, h1⟩ => ?_
      subst hr
      refine seg_bind_wrap ?_
      rw [ov]
      refine thnF h1 fun _ s7 ⟨x, H7, I7, r7, y7, st7, n7⟩ => ?_
      have I7' := I7.pinned (stat hx hpn (hcp ys ps hc1) I7 n7) (T.obj _ _ st7)
      refine seg_bind_wrap ?_
      rw [ov]
      refine thn (F (hg.run _ s7 _ H7 x u _ I7' r7 (step x H7 y7))) fun _ s8 ⟨σ8, H8, I8, hw8, q8⟩ => ?_
      refine seg_bind_wrap ?_
      rw [ov]
      refine thn (F (ht.run _ s8 σ8 H8 _ I8 q8)) fun b s9 ⟨H9, I9, q9⟩ => ?_
      cases b with
      | false =>
        simp only [Bool.false_eq_true, if_false] at q9 ⊢
        obtain ⟨m', hm, w'⟩ := hNx _ _ q9
        obtain ⟨J1, J2, J3⟩ := back I9 hw8 st7
        exact seg_again rfl (ih m' hm n (i + 1) ys s₀ s9 H9 ps (Nat.lt_trans hm hmn) w' hc1 J1 J2 J3)
      | true =>
        simp only [if_true] at q9 ⊢
        have hy : ∀ v, yieldOut Y.env v = yieldValue v := fun v => by simp only [yieldOut, hco, Bool.false_eq_true, if_false]
        simp only [hy]
        rw [Sem.bind_eq_wrap', Sem.bind_eq_wrap', Sem.wrap_wrap, Sem.wrap_wrap]
        refine seg_wrap ?_
        rw [ov]
        refine thn (F (he.run _ s9 σ8 H9 _ I9 q9)) fun v s10 ⟨y, H10, I10, ry, q10⟩ => ?_
        obtain ⟨n', rfl⟩ : ∃ k, n = k + 1 := ⟨n - 1, by omega⟩
        refine seg_at (seg_yield rfl rfl rfl ⟨ys, y, ps, pinsAt fp s7.heap, σ8, H10, Nx (ys ++ [y]), ry, hc1, fun p hp => hfs _ (of_pinsAt hp).1, I10, q10, fun s' ps' hc' I' nx => ?_⟩)
        obtain ⟨m', hm, w'⟩ := hNx _ _ nx
        obtain ⟨J1, J2, J3⟩ := back I' hw8 st7
        exact seg_again rfl (ih m' hm n' (i + 1) (ys ++ [y]) s' s' H10 ps' (by omega) w' hc' J1 J2 J3)
theorem seg_start (hA : A.deeper Y.env = Y.A) (hc : Y.calm = true) (hxe : Y.xe = fun _ _ => False) (hx : Y.ex = fp) (hpn : ∀ p ∈ Y.pn, p.1 ∉ fp) (hco : Y.env.scope.isCoroutine = false) (hfs : ∀ b ∈ fp, b < Y.s_0.heap.objs.size) (T : Turn Y.prog Y.w Y.K tg J fp it tn) (hg : PG Y tg g) (ht : PTs Y ifs tt) (he : PE Y elt te)
    (hcp : ∀ ys ps, cp ys ps → ∀ p ∈ ps, p.1 ∉ fp) (turn : Turns J g tt te σg vs Step End W) {m n : Nat} {s₀ s : Shared} {H : Hp} {ps : List (Addr × Obj)} (hmn : m < n) (w : W 0 m [] H) (hc1 : cp [] ps) (I : Inv Y ps σg H s) (st : tn 0 s.heap) (hn : ∀ b ∈ fp, H b = none) :
      Seg (model Y.prog Y.w) A (Rp Y cp End) (Yp Y cp Step) n s₀ (.compStart (.GeneratorExp elt [⟨tg, iter, ifs, 0⟩] scope pos) 0 (.ref it) .none Y.env)
        ((model Y.prog Y.w).den (.compStart (.GeneratorExp elt [⟨tg, iter, ifs, 0⟩] scope pos) 0 (.ref it) .none Y.env)) [] s := by
  have loop := seg_loop (iter := iter) (scope := scope) (pos := pos) hA hc hxe hx hpn hco hfs T hg ht he hcp turn m n 0 [] s₀ s H ps hmn w hc1 I st hn
  show Seg _ A _ _ n s₀ _ ((compStart (.GeneratorExp elt [⟨tg, iter, ifs, 0⟩] scope pos) 0 (.ref it) .none Y.env).onRaise (leaving Y.env)) [] s
  unfold compStart
  rw [Sem.onRaise_eq_wrap]
  show Seg _ A _ _ n s₀ _ ((ask >>= _).wrap _ _ _ _) [] s
  refine seg_bind_wrap (wpAny_askSetting ?_)
  split
  · exact seg_again rfl loop
  · first
      | exact seg_bind_wrap (wpAny_rule (seg_bind_wrap (wpAny_standAt (seg_bind_wrap (T.self _ 0 s _ _ st (seg_again rfl loop))))))
      | (refine seg_bind_wrap (wpAny_rule ?_); show Seg _ A _ _ n s₀ _ ((standAt iter.pos >>= _).wrap _ _ _ _) [] s; exact seg_bind_wrap (wpAny_standAt (seg_bind_wrap (T.self _ 0 s _ _ st (seg_again rfl loop)))))
end
end GX
set_option Elab.async false
set_option linter.all false
set_option maxRecDepth 100000
set_option maxHeartbeats 2000000
namespace GX
open PySem PySem.Spec PyProof.Rows L2
/-! the generator, made -/
theorem nostk {X : Cx} {pins : List (Addr × Obj)} {σ : L2.St} {H : Hp} {s : Shared} (I : Inv X pins σ H s) {a : Addr} (h : s.heap.objs.size ≤ a) : a ∉ frs X.stack := fun z => by
  rcases List.mem_cons.mp (I.stkSub a z) with e | e
  · have h1 := I.lt
    rw [← e] at h1
    exact absurd (Nat.lt_of_lt_of_le h1 h) (Nat.lt_irrefl _)
  · exact I.nofs h e
/-- back in the def's context -/
theorem gx_back {X : Cx} {pins ps pn : List (Addr × Obj)} {σ σ' : L2.St} {H2 H : Hp} {s3 s1 : Shared} {A : Around} {env : Env} {Ng : List Str} {fp : List Addr} (I : Inv X pins σ H2 s3) (hfp : ∀ b ∈ fp, FpOk X pins H2 b)
    (J : Inv (gxc X A s3 H2 env Ng fp pn) ps σ' H s1) : Inv X pins σ H s1 :=
  I.call' (ch := fp) J.os J.base J.hok J.bare fun b hb => ⟨(hfp b hb).2.2.2.1, (hfp b hb).2.1, (hfp b hb).2.2.2.2.1, (hfp b hb).2.2.2.2.2⟩
def MadeG (X : Cx) (k : Nat) (pins : List (Addr × Obj)) (σ : L2.St) (Step : STP) (End : EN) (u : Value) (s' : Shared) : Prop :=
  ∃ (a : Addr) (g : Nat) (c : Code) (m : Nat) (s3 : Shared) (H2 : Hp) (env : Env) (Ng : List Str) (fp : List Addr) (go : Obj),
    u = .ref a ∧ (∀ h : Heap, h.get? a = some go → h.IsGen a g) ∧ s'.heap.get? a = some go ∧ s'.gens[g]? = some (.fresh c) ∧ s'.heap.NoLimit ∧ AllBare s'.gens ∧ s'.os = s3.os ∧
    Inv X pins σ H2 s3 ∧ (∀ b ∈ fp, FpOk X pins H2 b) ∧ s3.heap.objs.size ≤ s'.heap.objs.size ∧ a < s'.heap.objs.size ∧
    ∀ (A : Around) (cp : CP), A.frames = some X.stack → A.handled = none → Room k (A.deeper env) → (∀ ys ps, cp ys ps → ∀ p ∈ ps, s'.heap.objs.size ≤ p.1) →
      ∀ (s2 : Shared) (ps : List (Addr × Obj)), s2.os = s'.os → AllBare s2.gens → (∀ b o, s'.heap.get? b = some o → s2.heap.get? b = some o) → cp [] ps → (∀ p ∈ ps, s2.heap.get? p.1 = some p.2 ∧ ∀ v, p.2.data ≠ .cell v) →
        Seg (model X.prog X.w) A (Rp (gxc X (A.deeper env) s3 H2 env Ng fp [(a, go)]) cp End) (Yp (gxc X (A.deeper env) s3 H2 env Ng fp [(a, go)]) cp Step) (m + 1) s2 c ((model X.prog X.w).den c) [] s2
/-- the reading of a generator expression: what each item wants, what the end wants -/
def tGX (P : Addr) (wi : TI) (g : TG) (tt : TT) (te : TE) (src : List (Option Nat)) (vs : List Nat) (Step : STP) (End : EN) (σ : L2.St) (H : Hp) : Prop :=
  wi σ H fun J H1 => GxR.TabG H1 P ∧ ∀ H2, GxR.Tabbed P H1 H2 → ∃ W : Nat → Nat → List V → Hp → Prop, (∃ m, W 0 m [] H2) ∧ Turns J g tt te (sel σ src) vs Step End W
section
variable {X : Cx} {pins : List (Addr × Obj)} {σ : L2.St} {H : Hp} {s : Shared} {elt tg iter : Expr} {ifs : List Expr} {scope : Scope} {gpos : Pos} {g : TG} {tt : TT} {te : TE} {wi : TI} {Ng : List Str} {src : List (Option Nat)} {vs : List Nat} {Step : STP} {End : EN} {c P : Addr} {k : Nat} {Q' : Value → Shared → Prop}
theorem gen_any (hd : X.A.handled = none) (hroom : X.A.depth < recursionLimit) (TB : GxR.TabB X.base X.mg c P) (hcode : X.env.code = .ref c) (S : GScp X.env.scope scope X.N Ng src) (hi : PI X tg iter wi)
    (hg : ∀ (A : Around) (s : Shared) (H : Hp) (C : Addr) (code : Value) (fp : List Addr) (pn : List (Addr × Obj)), Room k A → PG (gxc X A s H (gxe X scope C code) Ng fp pn) tg g)
    (ht : ∀ (A : Around) (s : Shared) (H : Hp) (C : Addr) (code : Value) (fp : List Addr) (pn : List (Addr × Obj)), Room k A → PTs (gxc X A s H (gxe X scope C code) Ng fp pn) ifs tt)
    (he : ∀ (A : Around) (s : Shared) (H : Hp) (C : Addr) (code : Value) (fp : List Addr) (pn : List (Addr × Obj)), Room k A → PE (gxc X A s H (gxe X scope C code) Ng fp pn) elt te)
    (hs : ∀ v, genFold iter X.env v = pure v) (I : Inv X pins σ H s) (h : tGX P wi g tt te src vs Step End σ H) (hQ : ∀ u s', MadeG X k pins σ Step End u s' → Q' u s') :
    wpAny (model X.prog X.w) X.A (eval (.GeneratorExp elt [⟨tg, iter, ifs, 0⟩] scope gpos) X.env) Q' X.xe s := by
  refine wpAny_GeneratorExp_make S.co (closure_ok (S.has I.ok)) S.cell S.dot S.kind hroom ?_ hs
  refine thn (hi.run pins s σ H _ I h) fun xv s1 hx => thn hx fun itv s2 h2 => ?_
  obtain ⟨it, fp, tn, J, H1, rfl, I2, T, st2, f2, ⟨ps, hP, htr⟩, q⟩ := h2
  refine ⟨I2.nolimit, ?_⟩
  have hPs : s2.heap.get? P = some { cls := .none, data := .fields ps } := I2.hok P _ hP
  have cd : PySem.W.CodeHd s2.heap c P := TB.code.keeps fun b u e => I2.bk b u e
  have fsz : ∀ b ∈ fp, b < s2.heap.objs.size := fun b hb => by
    obtain ⟨o, e, _⟩ := T.obj _ _ st2 b hb
    exact Heap.lt_size e
  have fnP : ∀ b ∈ fp, b ≠ P := fun b hb z => by
    have e := (f2 b hb).1
    rw [z, hP] at e
    cases e
  have cont : ∀ (code : Value) (h3 : Heap) (tk : Nat) (ps' : Array Value), Heap.ExtBut P s2.heap h3 → s2.heap.objs.size ≤ h3.objs.size → h3.get? P = some { cls := .none, data := .fields ps' } → (∃ more, ps' = ps ++ more) → TriplesOk ps'.toList →
      wpAny (model X.prog X.w) X.A (builtinsFor X.env.globals X.env.builtins) (fun bi s₄ =>
        ∀ h', h'.Ns s₄.heap.objs.size (fun y => if y = ".0" then some (Value.ref it) else none) → Heap.SameBut s₄.heap.objs.size (s₄.heap.push { cls := .type "frame", data := .dict #[] }) h' →
          Q' (.ref h'.objs.size) { s₄ with
            gens := s₄.gens.push (.fresh (.compStart (.GeneratorExp elt [⟨tg, iter, ifs, 0⟩] scope gpos) 0 (.ref it) .none (genEnv scope (cloFrom X.env.cells scope.names []) s₄.heap.objs.size code bi X.env))),
            toks := s₄.toks + 1 + 1 + 1,
            heap := h'.push { cls := .type "generator", data := .fields #[.int s₄.gens.size 0, .str "<genexpr>" (s₄.toks + 1), .str (X.env.qual ++ "<genexpr>") (s₄.toks + 1 + 1)] } }) X.xe { s2 with heap := h3, toks := tk } := by
    rintro code h3 tk ps' hx hsz hP3 ⟨more, rfl⟩ ht3
    obtain ⟨bm, ob, e1, e2, e3, e4, e5, e6, e7, e8⟩ := TB.bm
    have keep3 : ∀ b u, b ≠ P → s2.heap.get? b = some u → h3.get? b = some u := fun b u hb e => hx b u hb e
    refine wpAny_builtinsFor (m := X.mg) (by rw [I2.ok.glob]; exact (I2.mod.glob.keeps I2.bk).extBut hx TB.gP) e1 e2 (keep3 _ _ e4 (I2.bk _ _ e5)) e6 e7 e8 ?_
    have J3 : Inv X pins σ (upd H1 P (.tbl (ps ++ more))) { s2 with heap := h3, toks := tk } := GxR.inv_tab (more := more) (h' := h3) (g' := s2.gens) (d' := s2.drawn) (t' := tk) I2 hP keep3 hP3 I2.bare
    have tb : GxR.Tabbed P H1 (upd H1 P (.tbl (ps ++ more))) := ⟨⟨_, upd_same, ht3⟩, fun b hb => upd_ne hb⟩
    obtain ⟨W, ⟨m, w0⟩, turn⟩ := q _ tb
    generalize hs3 : ({ s2 with heap := h3, toks := tk } : Shared) = s3 at J3 ⊢
    have eh : s3.heap = h3 := by rw [← hs3]
    have eg : s3.gens = s2.gens := by rw [← hs3]
    generalize hH2 : upd H1 P (.tbl (ps ++ more)) = H2 at J3 tb w0
    have f3 : ∀ b ∈ fp, FpOk X pins H2 b ∧ b < s3.heap.objs.size := fun b hb => by
      refine ⟨⟨?_, (f2 b hb).2⟩, by rw [eh]; exact Nat.lt_of_lt_of_le (fsz b hb) hsz⟩
      rw [← hH2, upd_ne (fnP b hb)]
      exact (f2 b hb).1
    have st3 : tn 0 s3.heap := T.keep _ _ _ st2 fun b hb o e => by rw [eh]; exact keep3 b o (fnP b hb) e
    intro h' hn' hs'
    have hsz' : h'.objs.size = s3.heap.objs.size + 1 := by rw [hs'.1, Heap.size_push]
    have keep' : ∀ b o, s3.heap.get? b = some o → h'.get? b = some o := fun b o e => hs'.extBut b o (Nat.ne_of_lt (Heap.lt_size e)) (Heap.get?_push_of_some _ e)
    generalize hgo : ({ cls := .type "generator", data := .fields #[.int s3.gens.size 0, .str "<genexpr>" (s3.toks + 1), .str (X.env.qual ++ "<genexpr>") (s3.toks + 1 + 1)] } : Obj) = go
    have isg : ∀ h : Heap, h.get? h'.objs.size = some go → h.IsGen h'.objs.size s3.gens.size := fun h e => ⟨go, _, _, e, by rw [← hgo], by rw [← hgo], by rw [← hgo]⟩
    have god : ∀ v, go.data ≠ .cell v := fun v z => by rw [← hgo] at z; cases z
    have here : (h'.push go).get? h'.objs.size = some go := by rw [← hgo]; exact Heap.get?_push_size _ rfl
    have keep5 : ∀ b o, s3.heap.get? b = some o → (h'.push go).get? b = some o := fun b o e => Heap.get?_push_of_some _ (keep' b o e)
    refine hQ _ _ ⟨h'.objs.size, s3.gens.size, _, m, s3, H2, gxe X scope s3.heap.objs.size code, Ng, fp, go, rfl, isg, here, Array.getElem?_push_size .., J3.nolimit.keeps keep5, AllBare.push J3.bare rfl, rfl, J3, fun b hb => (f3 b hb).1, ?_, ?_, ?_⟩
    · show s3.heap.objs.size ≤ (h'.push go).objs.size
      rw [Heap.size_push, hsz']
      omega
    · show h'.objs.size < (h'.push go).objs.size
      rw [Heap.size_push]
      omega
    · intro A cp hf hA hr hcp sw psw osw baw kw hc0 hpw
      have hcp' : ∀ ys ps, cp ys ps → ∀ p ∈ ps, s3.heap.objs.size + 2 ≤ p.1 := fun ys ps hc p hp => by
        have z := hcp ys ps hc p hp
        have z' : (h'.push go).objs.size ≤ p.1 := z
        rw [Heap.size_push, hsz'] at z'
        exact z'
      have I5 : Inv (gxc X (A.deeper (gxe X scope s3.heap.objs.size code)) s3 H2 (gxe X scope s3.heap.objs.size code) Ng fp [(h'.objs.size, go)]) psw (sel σ src) H2 sw :=
        gx_start J3 S hA hf f3 (Nat.le_refl _) (fun b o e => kw b o (keep5 b o e)) ((hn'.push go).keeps kw) osw baw fun p hp => by
          rcases List.mem_append.mp hp with hp | hp
          · rw [List.mem_singleton.mp hp]
            refine ⟨kw _ _ here, J3.hok.fresh (by rw [hsz']; omega), by rw [hsz']; exact Nat.ne_of_gt (Nat.lt_succ_self _), nostk J3 (by rw [hsz']; omega), god⟩
          · have z := hcp' _ _ hc0 p hp
            have z1 : s3.heap.objs.size ≤ p.1 := Nat.le_trans (Nat.le_add_right _ 2) z
            have z2 : s3.heap.objs.size < p.1 := Nat.lt_of_lt_of_le (Nat.lt_add_of_pos_right (by decide)) z
            exact ⟨(hpw p hp).1, J3.hok.fresh z1, fun e => Nat.ne_of_lt z2 e.symm, nostk J3 z1, (hpw p hp).2⟩
      refine seg_start (Y := gxc X (A.deeper (gxe X scope s3.heap.objs.size code)) s3 H2 (gxe X scope s3.heap.objs.size code) Ng fp [(h'.objs.size, go)]) rfl rfl rfl rfl (fun p hp z => ?_) S.co (fun b hb => (f3 b hb).2) T (hg _ _ _ _ _ _ _ hr) (ht _ _ _ _ _ _ _ hr) (he _ _ _ _ _ _ _ hr) (fun ys ps hc p hp z => ?_) turn (Nat.lt_succ_self m) w0 hc0 I5
        (T.keep _ _ _ st3 fun b _ o e => kw b o (keep5 b o e)) fun b hb => (f3 b hb).1.1
      · rw [List.mem_singleton.mp hp] at z
        have := (f3 _ z).2
        have q : s3.heap.objs.size + 1 < s3.heap.objs.size := by rw [← hsz']; exact this
        omega
      · have q1 := hcp' ys ps hc p hp
        have q2 := (f3 _ z).2
        exact absurd (Nat.lt_of_lt_of_le q2 (Nat.le_trans (Nat.le_add_right _ 2) q1)) (Nat.lt_irrefl _)
  cases hf : codeAmong gpos ps.toList with
  | none =>
    refine wpAny_genexprCodeX hcode (cd.code hPs htr) (cd.tab hPs) hf fun c' h' tk hx hge hlt hco' _ htab' _ => ?_
    obtain ⟨o1, vs1, f1, tf, fl, tg1, inF, tx, tt1, op, _, _, _, _, _, _, _, _, _, htr', _⟩ := hco'
    exact cont _ h' tk _ hx (Nat.le_trans hge (Nat.le_of_lt hlt)) htab'.2 ⟨_, rfl⟩ htr'
  | some cv =>
    refine wpAny_genexprCode_hit hcode (cd.code hPs htr) hf ?_
    exact cont cv s2.heap s2.toks ps (Heap.ExtBut.refl _ _) (Nat.le_refl _) hPs ⟨#[], by simp⟩ htr
end
end GX
set_option Elab.async false
set_option linter.all false
set_option maxRecDepth 100000
set_option maxHeartbeats 2000000
namespace GX
open PySem PySem.Spec PyProof.Rows L2 GenW
/-! all, any -/
theorem inv_ext {X : Cx} {pins : List (Addr × Obj)} {σ : L2.St} {H : Hp} {s s' : Shared} (I : Inv X pins σ H s) (os : s'.os = s.os) (hb : AllBare s'.gens) (hk : ∀ b o, s.heap.get? b = some o → s'.heap.get? b = some o) : Inv X pins σ H s' :=
  I.call' (ch := []) os (Un.kept hk) (I.hok.kept hk) hb fun b z => absurd z (by simp)
theorem pure_inv {α : Type} {M : Model} {A : Around} {E : Value → Shared → Prop} {s : Shared} {a : α} {Q : α → Shared → Prop} (h : Q a s) : wpAny M A (Pure.pure a : Sem α) Q E s := wpAny_pure h
def cp0 : CP := fun _ ps => ps = []
def stAll (Q : VK) : STP := fun _ y H Nx => ∃ b, y = .bl b ∧ if b = true then Nx H else Q (.bl false) H
def enAll (Q : VK) : EN := fun _ H => Q (.bl true) H
def stAny (Q : VK) : STP := fun _ y H Nx => ∃ b, y = .bl b ∧ if b = true then Q (.bl true) H else Nx H
def enAny (Q : VK) : EN := fun _ H => Q (.bl false) H
section
variable {X : Cx} {pins : List (Addr × Obj)} {σ : L2.St} {H2 : Hp} {s3 : Shared} {env : Env} {Ng : List Str} {fp : List Addr} {a : Addr} {g : Nat} {go : Obj} {Q : VK} {R : Result → Shared → Prop}
theorem all_loop (hh : X.A.handled = none) (hd : X.A.depth < recursionLimit) (I3 : Inv X pins σ H2 s3) (hfp : ∀ b ∈ fp, FpOk X pins H2 b) (isg : ∀ h : Heap, h.get? a = some go → h.IsGen a g) (hR : ∀ b H' s', Inv X pins σ H' s' → Q (.bl b) H' → R (.ok (.ret (.bool b))) s') :
    ∀ (n : Nat) (s : Shared), s.heap.IsGen a g → s.heap.NoLimit →
      (∃ gs, s.gens[g]? = some gs ∧ gs.Goes (model X.prog X.w) X.A.in1.in1 (Rp (gxc X (X.A.in1.in1.deeper env) s3 H2 env Ng fp [(a, go)]) cp0 (enAll Q)) (Yp (gxc X (X.A.in1.in1.deeper env) s3 H2 env Ng fp [(a, go)]) cp0 (stAll Q)) n (.send .none) (s.setGen g .running)) →
      codeAny (model X.prog X.w) X.A (.builtin "all.loop" ⟨[.ref a], []⟩) R s := by
  intro n
  induction n with
  | zero =>
    intro s hg hl ⟨gs, hgs, hgo⟩
    refine codeAny_builtin F.entry_all_loop ?_
    rw [Around.under_plainId F.plain_all_loop _]
    show wpAny _ X.A.in1 (pyNext (.ref a) >>= _) _ _ s
    refine wpAny_bind (wpAny_pyNext_genexpQ (A := X.A.in1) (P := fun _ _ s => ∃ (ys : List V) (ps : List (Addr × Obj)) (σ2 : L2.St) (H : Hp), cp0 ys ps ∧ Inv (gxc X (X.A.in1.in1.deeper env) s3 H2 env Ng fp [(a, go)]) ps σ2 H s ∧ enAll Q ys H) hh hl hd hg hgs hgo (fun v s₁ gs' hbare hv => ?_) (fun s₁ hp h' hk => ?_))
    · obtain ⟨ys, y, ps, ip, σ2, H, Nx, rv, rfl, hip, J, ⟨b, rfl, q⟩, hkap⟩ := hv
      cases rv
      refine wpAny_bind (wpAny_holding (wpAny_truthy_bool ?_))
      refine wpAny_bind (wpAny_letGo ?_)
      cases b with
      | true =>
        simp only [if_true] at q
        exact (hkap _ [] rfl J q).elim
      | false =>
        simp only [Bool.false_eq_true, if_false] at q ⊢
        refine wpAny_bind (wpAny_rule (wpAny_pure ?_))
        exact hR false H _ (inv_ext (gx_back I3 hfp J) rfl (allBare_setGen J.bare hbare) fun _ _ e => e) q
    · obtain ⟨ys, ps, σ2, H, rfl, J, q⟩ := hp
      refine wpAny_bind (wpAny_rule (wpAny_pure ?_))
      exact hR true H _ (inv_ext (gx_back I3 hfp J) rfl (allBare_setGen (x := .finished) J.bare rfl) hk) q
  | succ n ih =>
    intro s hg hl ⟨gs, hgs, hgo⟩
    have hgl : g < s.gens.size := (Array.getElem?_eq_some_iff.mp hgs).1
    refine codeAny_builtin F.entry_all_loop ?_
    rw [Around.under_plainId F.plain_all_loop _]
    show wpAny _ X.A.in1 (pyNext (.ref a) >>= _) _ _ s
    refine wpAny_bind (wpAny_gsz (n := g + 1) hgl (wpAny_pyNext_genexpQ (A := X.A.in1) (P := fun _ _ s => ∃ (ys : List V) (ps : List (Addr × Obj)) (σ2 : L2.St) (H : Hp), cp0 ys ps ∧ Inv (gxc X (X.A.in1.in1.deeper env) s3 H2 env Ng fp [(a, go)]) ps σ2 H s ∧ enAll Q ys H) hh hl hd hg hgs hgo (fun v s₁ gs' hbare hv => ?_) (fun s₁ hp h' hk => ?_)))
    · intro hsz
      have hsz1 : g < s₁.gens.size := by
        have q : (s₁.setGen g gs').gens.size = s₁.gens.size := setGen_size _ _ _
        have hsz' : g + 1 ≤ (s₁.setGen g gs').gens.size := hsz
        omega
      obtain ⟨ys, y, ps, ip, σ2, H, Nx, rv, rfl, hip, J, ⟨b, rfl, q⟩, hkap⟩ := hv
      cases rv
      refine wpAny_bind (wpAny_holding (wpAny_truthy_bool ?_))
      refine wpAny_bind (wpAny_letGo ?_)
      cases b with
      | true =>
        simp only [if_true] at q ⊢
        have hgo1 := hkap ((s₁.setGen g gs').setGen g .running) [] rfl (inv_ext J rfl (allBare_setGen (x := .running) (allBare_setGen J.bare hbare) rfl) fun _ _ e => e) q
        refine wpAny_pure ⟨plainId_quiet F.plain_all_loop _, ih (s₁.setGen g gs') (isg _ (J.pin (a, go) (List.mem_append_left _ (List.mem_singleton.mpr rfl))).1) J.nolimit ⟨gs', setGen_at hsz1, hgo1⟩⟩
      | false =>
        simp only [Bool.false_eq_true, if_false] at q ⊢
        refine wpAny_bind (wpAny_rule (wpAny_pure ?_))
        exact hR false H _ (inv_ext (gx_back I3 hfp J) rfl (allBare_setGen J.bare hbare) fun _ _ e => e) q
    · intro _
      obtain ⟨ys, ps, σ2, H, rfl, J, q⟩ := hp
      refine wpAny_bind (wpAny_rule (wpAny_pure ?_))
      exact hR true H _ (inv_ext (gx_back I3 hfp J) rfl (allBare_setGen (x := .finished) J.bare rfl) hk) q
theorem any_loop (hh : X.A.handled = none) (hd : X.A.depth < recursionLimit) (I3 : Inv X pins σ H2 s3) (hfp : ∀ b ∈ fp, FpOk X pins H2 b) (isg : ∀ h : Heap, h.get? a = some go → h.IsGen a g) (hR : ∀ b H' s', Inv X pins σ H' s' → Q (.bl b) H' → R (.ok (.ret (.bool b))) s') :
    ∀ (n : Nat) (s : Shared), s.heap.IsGen a g → s.heap.NoLimit →
      (∃ gs, s.gens[g]? = some gs ∧ gs.Goes (model X.prog X.w) X.A.in1.in1 (Rp (gxc X (X.A.in1.in1.deeper env) s3 H2 env Ng fp [(a, go)]) cp0 (enAny Q)) (Yp (gxc X (X.A.in1.in1.deeper env) s3 H2 env Ng fp [(a, go)]) cp0 (stAny Q)) n (.send .none) (s.setGen g .running)) →
      codeAny (model X.prog X.w) X.A (.builtin "any.loop" ⟨[.ref a], []⟩) R s := by
  intro n
  induction n with
  | zero =>
    intro s hg hl ⟨gs, hgs, hgo⟩
    refine codeAny_builtin F.entry_any_loop ?_
    rw [Around.under_plainId F.plain_any_loop _]
    show wpAny _ X.A.in1 (pyNext (.ref a) >>= _) _ _ s
    refine wpAny_bind (wpAny_pyNext_genexpQ (A := X.A.in1) (P := fun _ _ s => ∃ (ys : List V) (ps : List (Addr × Obj)) (σ2 : L2.St) (H : Hp), cp0 ys ps ∧ Inv (gxc X (X.A.in1.in1.deeper env) s3 H2 env Ng fp [(a, go)]) ps σ2 H s ∧ enAny Q ys H) hh hl hd hg hgs hgo (fun v s₁ gs' hbare hv => ?_) (fun s₁ hp h' hk => ?_))
    · obtain ⟨ys, y, ps, ip, σ2, H, Nx, rv, rfl, hip, J, ⟨b, rfl, q⟩, hkap⟩ := hv
      cases rv
      refine wpAny_bind (wpAny_holding (wpAny_truthy_bool ?_))
      refine wpAny_bind (wpAny_letGo ?_)
      cases b with
      | false =>
        simp only [Bool.false_eq_true, if_false] at q
        exact (hkap _ [] rfl J q).elim
      | true =>
        simp only [if_true] at q ⊢
        refine wpAny_bind (wpAny_rule (wpAny_pure ?_))
        exact hR true H _ (inv_ext (gx_back I3 hfp J) rfl (allBare_setGen J.bare hbare) fun _ _ e => e) q
    · obtain ⟨ys, ps, σ2, H, rfl, J, q⟩ := hp
      refine wpAny_bind (wpAny_rule (wpAny_pure ?_))
      exact hR false H _ (inv_ext (gx_back I3 hfp J) rfl (allBare_setGen (x := .finished) J.bare rfl) hk) q
  | succ n ih =>
    intro s hg hl ⟨gs, hgs, hgo⟩
    have hgl : g < s.gens.size := (Array.getElem?_eq_some_iff.mp hgs).1
    refine codeAny_builtin F.entry_any_loop ?_
    rw [Around.under_plainId F.plain_any_loop _]
    show wpAny _ X.A.in1 (pyNext (.ref a) >>= _) _ _ s
    refine wpAny_bind (wpAny_gsz (n := g + 1) hgl (wpAny_pyNext_genexpQ (A := X.A.in1) (P := fun _ _ s => ∃ (ys : List V) (ps : List (Addr × Obj)) (σ2 : L2.St) (H : Hp), cp0 ys ps ∧ Inv (gxc X (X.A.in1.in1.deeper env) s3 H2 env Ng fp [(a, go)]) ps σ2 H s ∧ enAny Q ys H) hh hl hd hg hgs hgo (fun v s₁ gs' hbare hv => ?_) (fun s₁ hp h' hk => ?_)))
    · intro hsz
      have hsz1 : g < s₁.gens.size := by
        have q : (s₁.setGen g gs').gens.size = s₁.gens.size := setGen_size _ _ _
        have hsz' : g + 1 ≤ (s₁.setGen g gs').gens.size := hsz
        omega
      obtain ⟨ys, y, ps, ip, σ2, H, Nx, rv, rfl, hip, J, ⟨b, rfl, q⟩, hkap⟩ := hv
      cases rv
      refine wpAny_bind (wpAny_holding (wpAny_truthy_bool ?_))
      refine wpAny_bind (wpAny_letGo ?_)
      cases b with
      | false =>
        simp only [Bool.false_eq_true, if_false] at q ⊢
        have hgo1 := hkap ((s₁.setGen g gs').setGen g .running) [] rfl (inv_ext J rfl (allBare_setGen (x := .running) (allBare_setGen J.bare hbare) rfl) fun _ _ e => e) q
        refine wpAny_pure ⟨plainId_quiet F.plain_any_loop _, ih (s₁.setGen g gs') (isg _ (J.pin (a, go) (List.mem_append_left _ (List.mem_singleton.mpr rfl))).1) J.nolimit ⟨gs', setGen_at hsz1, hgo1⟩⟩
      | true =>
        simp only [if_true] at q ⊢
        refine wpAny_bind (wpAny_rule (wpAny_pure ?_))
        exact hR true H _ (inv_ext (gx_back I3 hfp J) rfl (allBare_setGen J.bare hbare) fun _ _ e => e) q
    · intro _
      obtain ⟨ys, ps, σ2, H, rfl, J, q⟩ := hp
      refine wpAny_bind (wpAny_rule (wpAny_pure ?_))
      exact hR false H _ (inv_ext (gx_back I3 hfp J) rfl (allBare_setGen (x := .finished) J.bare rfl) hk) q
end
section
variable {X : Cx} {elt tg iter : Expr} {ifs : List Expr} {scope : Scope} {gpos p pos : Pos} {g : TG} {tt : TT} {te : TE} {wi : TI} {Ng : List Str} {src : List (Option Nat)} {vs : List Nat} {c P : Addr} {k : Nat}
theorem room_deep2 (hr : Room (k + 1) X.A) {env : Env} : Room k (X.A.in1.in1.deeper env) :=
  ⟨hr.hd, by have := hr.dp; show X.A.depth + 1 + 3 * k + 5 < _; omega, by have := hr.un; show X.A.units + 1 + 1 + 3 + 16 * k + 200 < _; omega⟩
/-- all(elt for tg in iter if ..) -/
def tAllG (P : Addr) (wi : TI) (g : TG) (tt : TT) (te : TE) (src : List (Option Nat)) (vs : List Nat) : TE := fun σ H Q => tGX P wi g tt te src vs (stAll Q) (enAll Q) σ H
def tAnyG (P : Addr) (wi : TI) (g : TG) (tt : TT) (te : TE) (src : List (Option Nat)) (vs : List Nat) : TE := fun σ H Q => tGX P wi g tt te src vs (stAny Q) (enAny Q) σ H
theorem pe_allG (hr : Room (k + 1) X.A) (hg0 : Gl X "all") (hm : X.mg "all" = none) (hb : bootBuiltins "all" = some (.builtin "all")) (TB : GxR.TabB X.base X.mg c P) (hcode : X.env.code = .ref c) (S : GScp X.env.scope scope X.N Ng src) (hi : PI X tg iter wi)
    (hg : ∀ (A : Around) (s : Shared) (H : Hp) (C : Addr) (code : Value) (fp : List Addr) (pn : List (Addr × Obj)), Room k A → PG (gxc X A s H (gxe X scope C code) Ng fp pn) tg g)
    (ht : ∀ (A : Around) (s : Shared) (H : Hp) (C : Addr) (code : Value) (fp : List Addr) (pn : List (Addr × Obj)), Room k A → PTs (gxc X A s H (gxe X scope C code) Ng fp pn) ifs tt)
    (he : ∀ (A : Around) (s : Shared) (H : Hp) (C : Addr) (code : Value) (fp : List Addr) (pn : List (Addr × Obj)), Room k A → PE (gxc X A s H (gxe X scope C code) Ng fp pn) elt te)
    (hs : ∀ v, genFold iter X.env v = pure v)
    (hst : starEach [.GeneratorExp elt [⟨tg, iter, ifs, 0⟩] scope gpos] X.env = (false, eval (.GeneratorExp elt [⟨tg, iter, ifs, 0⟩] scope gpos) X.env) :: starEach [] X.env := by rfl) :
    PE X (.Call (.Name "all" p) [.GeneratorExp elt [⟨tg, iter, ifs, 0⟩] scope gpos] [] pos) (tAllG P wi g tt te src vs) := by
  refine ⟨fun pins s σ H Q I h => ?_⟩
  refine wpAny_Call_Name_kw (ld_blt I hg0 hm hb ?_)
  refine PyProof.Rows.callWith_builtin1 ?_ hst (by rfl)
  rw [hst]
  show wpAny _ _ (spliced ((false, eval (.GeneratorExp elt [⟨tg, iter, ifs, 0⟩] scope gpos) X.env) :: backTo pos (starEach [] X.env))) _ _ s
  refine Calls.spliced_cons (gen_any hr.hd hr.depth TB hcode S hi hg ht he hs I h fun u s' M => ?_)
  obtain ⟨a, gi, cd, m, s3, H2, env, Ng', fp, go, rfl, isg, ea, hgs, hl, hbare, hos, I3, hfp, _, _, wake⟩ := M
  refine Calls.spliced_nil ?_
  refine call_function_tree F.kind_all F.plain_all F.entry_all (F.args_all1 _) ?_
  unfold Builtin.«all»
  refine wpAny_bind (m := oneArg "all" _) (wpAny_pure ?_)
  refine wpAny_bind (wpAny_pyIter_gen (isg _ ea) ?_)
  refine wpAny_pure ⟨plainId_quiet F.plain_all_loop _, all_loop (Q := Q) (env := env) (Ng := Ng') hr.hd hr.depth I3 hfp isg (fun b H' s' J q => ?_) (m + 1) s' (isg _ ea) hl ⟨_, hgs, rfl, ?_⟩⟩
  · exact ⟨.bl b, H', J, rfl, q⟩
  · exact wake X.A.in1.in1 cp0 I3.ok.frames hr.hd (room_deep2 hr) (fun ys ps e p hp => by rw [show ps = [] from e] at hp; cases hp) _ [] rfl (allBare_setGen (x := .running) hbare rfl) (fun _ _ e => e) rfl fun p hp => by cases hp
theorem pe_anyG (hr : Room (k + 1) X.A) (hg0 : Gl X "any") (hm : X.mg "any" = none) (TB : GxR.TabB X.base X.mg c P) (hcode : X.env.code = .ref c) (S : GScp X.env.scope scope X.N Ng src) (hi : PI X tg iter wi)
    (hg : ∀ (A : Around) (s : Shared) (H : Hp) (C : Addr) (code : Value) (fp : List Addr) (pn : List (Addr × Obj)), Room k A → PG (gxc X A s H (gxe X scope C code) Ng fp pn) tg g)
    (ht : ∀ (A : Around) (s : Shared) (H : Hp) (C : Addr) (code : Value) (fp : List Addr) (pn : List (Addr × Obj)), Room k A → PTs (gxc X A s H (gxe X scope C code) Ng fp pn) ifs tt)
    (he : ∀ (A : Around) (s : Shared) (H : Hp) (C : Addr) (code : Value) (fp : List Addr) (pn : List (Addr × Obj)), Room k A → PE (gxc X A s H (gxe X scope C code) Ng fp pn) elt te)
    (hs : ∀ v, genFold iter X.env v = pure v)
    (hst : starEach [.GeneratorExp elt [⟨tg, iter, ifs, 0⟩] scope gpos] X.env = (false, eval (.GeneratorExp elt [⟨tg, iter, ifs, 0⟩] scope gpos) X.env) :: starEach [] X.env := by rfl) :
    PE X (.Call (.Name "any" p) [.GeneratorExp elt [⟨tg, iter, ifs, 0⟩] scope gpos] [] pos) (tAnyG P wi g tt te src vs) := by
  refine ⟨fun pins s σ H Q I h => ?_⟩
  refine wpAny_Call_Name_kw (ld_blt I hg0 hm boot_any ?_)
  refine PyProof.Rows.callWith_builtin1 ?_ hst (by rfl)
  rw [hst]
  show wpAny _ _ (spliced ((false, eval (.GeneratorExp elt [⟨tg, iter, ifs, 0⟩] scope gpos) X.env) :: backTo pos (starEach [] X.env))) _ _ s
  refine Calls.spliced_cons (gen_any hr.hd hr.depth TB hcode S hi hg ht he hs I h fun u s' M => ?_)
  obtain ⟨a, gi, cd, m, s3, H2, env, Ng', fp, go, rfl, isg, ea, hgs, hl, hbare, hos, I3, hfp, _, _, wake⟩ := M
  refine Calls.spliced_nil ?_
  refine call_function_tree F.kind_any F.plain_any F.entry_any (F.args_any1 _) ?_
  unfold Builtin.«any»
  refine wpAny_bind (m := oneArg "any" _) (wpAny_pure ?_)
  refine wpAny_bind (wpAny_pyIter_gen (isg _ ea) ?_)
  refine wpAny_pure ⟨plainId_quiet F.plain_any_loop _, any_loop (Q := Q) (env := env) (Ng := Ng') hr.hd hr.depth I3 hfp isg (fun b H' s' J q => ?_) (m + 1) s' (isg _ ea) hl ⟨_, hgs, rfl, ?_⟩⟩
  · exact ⟨.bl b, H', J, rfl, q⟩
  · exact wake X.A.in1.in1 cp0 I3.ok.frames hr.hd (room_deep2 hr) (fun ys ps e p hp => by rw [show ps = [] from e] at hp; cases hp) _ [] rfl (allBare_setGen (x := .running) hbare rfl) (fun _ _ e => e) rfl fun p hp => by cases hp
end
end GX
set_option Elab.async false
set_option linter.all false
set_option maxRecDepth 100000
set_option maxHeartbeats 2000000
namespace GX
open PySem PySem.Spec PyProof.Rows L2 GenW
open PySem.AutoSeq1 (wpAny_loadPart')
/-! all that a generator expression hands out, collected: tuple(..) -/
def cp1 (S : Addr) : CP := fun ys ps => ∃ (acc : Array Value) (c : Nat), Vals ys acc.toList ∧ acc.size ≤ sizeLine ∧ ps = [(S, lstObj acc c)]
def stCol : STP := fun ys _ H Nx => ys.length < sizeLine ∧ Nx H
theorem inv_push {Y : Cx} {S : Addr} {o o' : Obj} {ip : List (Addr × Obj)} {σ : L2.St} {H : Hp} {s s' : Shared} (J : Inv Y ((S, o) :: ip) σ H s) (hs0 : Y.s_0.heap.objs.size ≤ S) (ho : ∀ v, o.data ≠ .cell v) (ho' : ∀ v, o'.data ≠ .cell v) (hpn : ∀ p ∈ Y.pn, p.1 ≠ S) (hip : ∀ p ∈ ip, p.1 ≠ S)
    (os : s'.os = s.os) (hb : AllBare s'.gens) (hk : ∀ b u, b ≠ S → s.heap.get? b = some u → s'.heap.get? b = some u) (hS : s'.heap.get? S = some o') : Inv Y ((S, o') :: ip) σ H s' := by
  obtain ⟨eS, hS0, hSL, hSf, _⟩ := J.pin (S, o) (List.mem_append_right _ List.mem_cons_self)
  have I0 : Inv Y ip σ H s := J.pins_of fun p hp => J.pin p (List.mem_append_right _ (List.mem_cons_of_mem _ hp))
  have nt : ∀ b u, H b = some u → b ≠ S := fun b u q hb => by rw [hb, hS0] at q; cases q
  have hcl : ∀ x c, Y.env.cells.lookup x = some c → c ≠ S := fun x c e z => by
    obtain ⟨v, ob, h1, h2⟩ := J.cell x c e
    rw [z, eS] at h1
    cases h1
    exact ho v h2
  obtain ⟨hh, g, d, t, oo⟩ := s'
  have e : oo = s.os := os
  subst e
  have nc : ∀ b, b ∉ [S] → b ≠ S := fun b hb e => hb (by rw [e]; exact List.mem_singleton.mpr rfl)
  have K : Inv Y ip σ H { s with heap := hh, gens := g, drawn := d, toks := t } := by
    refine I0.step (g' := g) (t' := t) (d' := d) (ch := [S]) (fun b hb => ?_)
      (fun b ob _ _ hc q _ => hk b ob (nc b hc) q) (fun b ob _ _ hc q _ => ⟨ob.slots, hk b ob (nc b hc) q⟩) (fun _ _ _ _ n => n) (fun b ob hc q => ⟨ob, hk b ob (nc b hc) q⟩)
      (fun _ _ q => q) (fun _ _ _ q => q) (fun b ps q => ⟨#[], by rw [q]; simp⟩) (fun m hm => ?_) (fun b u q => ?_) hb
    · rw [List.mem_singleton.mp hb]
      refine ⟨.inr hs0, hSL, hcl, fun p hp => ?_⟩
      rcases List.mem_append.mp hp with hp | hp
      · exact hpn p hp
      · exact hip p hp
    · obtain ⟨ob, es, ep, ho, r⟩ := hm
      exact ⟨ob, es, ep, hk _ ob (Ne.symm hSL) ho, r⟩
    · refine (I0.hok b u q).stay (fun c v hc y => hk c v ?_ y) (fun _ y => y) fun _ _ y => y
      rcases hc with y | y
      · rw [y]; exact nt b u q
      · exact nt c _ y
  refine K.pins_of fun p hp => ?_
  rcases List.mem_cons.mp hp with hp | hp
  · rw [hp]
    exact ⟨hS, hS0, hSL, hSf, ho'⟩
  · exact K.pin p (List.mem_append_right _ hp)
section
variable {X : Cx} {pins : List (Addr × Obj)} {σ : L2.St} {H2 : Hp} {s3 : Shared} {env : Env} {Ng : List Str} {fp : List Addr} {a S : Addr} {g : Nat} {go : Obj} {End : EN} {R : Result → Shared → Prop} {B : Around} {res : Value}
theorem ext_loop (hh : B.handled = none) (hd : B.depth < recursionLimit) (I3 : Inv X pins σ H2 s3) (hfp : ∀ b ∈ fp, FpOk X pins H2 b) (isg : ∀ h : Heap, h.get? a = some go → h.IsGen a g) (hS : s3.heap.objs.size ≤ S) (hSa : a ≠ S)
    (hR : ∀ ys H' s' acc c, Inv X pins σ H' s' → H' S = none → s'.heap.get? S = some (lstObj acc c) → Vals ys acc.toList → acc.size ≤ sizeLine → End ys H' → R (.ok (.ret res)) s') :
    ∀ (n : Nat) (s : Shared), s.heap.IsGen a g → s.heap.NoLimit →
      (∃ gs, s.gens[g]? = some gs ∧ gs.Goes (model X.prog X.w) B.in1.in1 (Rp (gxc X (B.in1.in1.deeper env) s3 H2 env Ng fp [(a, go)]) (cp1 S) End) (Yp (gxc X (B.in1.in1.deeper env) s3 H2 env Ng fp [(a, go)]) (cp1 S) stCol) n (.send .none) (s.setGen g .running)) →
      codeAny (model X.prog X.w) B (.builtin "list.extend.loop" ⟨[.ref S, .ref a, res], []⟩) R s := by
  have fin : ∀ {s₁ : Shared} {h' : Heap} {ys : List V} {ps : List (Addr × Obj)} {σ2 : L2.St} {H : Hp}, cp1 S ys ps → Inv (gxc X (B.in1.in1.deeper env) s3 H2 env Ng fp [(a, go)]) ps σ2 H s₁ → End ys H → (∀ b o, s₁.heap.get? b = some o → h'.get? b = some o) →
      R (.ok (.ret res)) { s₁.setGen g .finished with heap := h' } := fun {s₁ h' ys ps σ2 H} hc J q hk => by
    obtain ⟨acc, c, rv, hz, rfl⟩ := hc
    obtain ⟨e1, e2, _⟩ := J.pin (S, lstObj acc c) (List.mem_append_right _ List.mem_cons_self)
    exact hR ys H _ acc c (inv_ext (gx_back I3 hfp J) rfl (allBare_setGen (x := .finished) J.bare rfl) hk) e2 (hk _ _ e1) rv hz q
  intro n
  induction n with
  | zero =>
    intro s hg hl ⟨gs, hgs, hgo⟩
    refine codeAny_builtin F.entry_extend_loop ?_
    rw [Around.under_plainId F.plain_extend_loop _]
    show wpAny _ B.in1 (pyNext (.ref a) >>= _) _ _ s
    refine wpAny_bind (wpAny_pyNext_genexpQ (A := B.in1) (P := fun _ _ s => ∃ (ys : List V) (ps : List (Addr × Obj)) (σ2 : L2.St) (H : Hp), cp1 S ys ps ∧ Inv (gxc X (B.in1.in1.deeper env) s3 H2 env Ng fp [(a, go)]) ps σ2 H s ∧ End ys H) hh hl hd hg hgs hgo (fun v s₁ gs' hbare hv => ?_) (fun s₁ hp h' hk => ?_))
    · obtain ⟨ys, y, ps, ip, σ2, H, Nx, rv, ⟨acc, c, rvs, hz, rfl⟩, hip, J, ⟨hlen, q⟩, hkap⟩ := hv
      obtain ⟨e1, e2, _⟩ := J.pin (S, lstObj acc c) (List.mem_append_right _ List.mem_cons_self)
      have hsz : acc.size < sizeLine := by
        have h1 : ys.length = acc.toList.length := rvs.length
        have h2 : acc.toList.length = acc.size := Array.length_toList
        omega
      have hne : ∀ p ∈ ip, p.1 ≠ S := fun p hp z => by
        have := hip p hp
        rw [z] at this
        exact absurd (Nat.lt_of_lt_of_le this hS) (Nat.lt_irrefl _)
      have J2 := inv_push (s' := { s₁ with heap := s₁.heap.update S (Obj.mapSeq (·.push v)) }) J hS (fun v z => by cases z) (fun v z => by cases z) (fun p hp z => by rw [List.mem_singleton.mp hp] at z; exact hSa z) hne rfl J.bare (fun b u hb e => (Heap.get?_update_other _ _ (Ne.symm hb)).trans e) (Heap.get?_update_self _ e1 rfl)
      exact (hkap _ _ ⟨acc.push v, _, by rw [Array.toList_push]; exact rvs.append (.cons rv .nil), by rw [Array.size_push]; exact hsz, rfl⟩ J2 q).elim
    · obtain ⟨ys, ps, σ2, H, hc, J, q⟩ := hp
      exact wpAny_pure (fin hc J q hk)
  | succ n ih =>
    intro s hg hl ⟨gs, hgs, hgo⟩
    have hgl : g < s.gens.size := (Array.getElem?_eq_some_iff.mp hgs).1
    refine codeAny_builtin F.entry_extend_loop ?_
    rw [Around.under_plainId F.plain_extend_loop _]
    show wpAny _ B.in1 (pyNext (.ref a) >>= _) _ _ s
    refine wpAny_bind (wpAny_gsz (n := g + 1) hgl (wpAny_pyNext_genexpQ (A := B.in1) (P := fun _ _ s => ∃ (ys : List V) (ps : List (Addr × Obj)) (σ2 : L2.St) (H : Hp), cp1 S ys ps ∧ Inv (gxc X (B.in1.in1.deeper env) s3 H2 env Ng fp [(a, go)]) ps σ2 H s ∧ End ys H) hh hl hd hg hgs hgo (fun v s₁ gs' hbare hv => ?_) (fun s₁ hp h' hk => ?_)))
    · intro hsz0
      have hsz1 : g < s₁.gens.size := by
        have q : (s₁.setGen g gs').gens.size = s₁.gens.size := setGen_size _ _ _
        have hsz' : g + 1 ≤ (s₁.setGen g gs').gens.size := hsz0
        omega
      obtain ⟨ys, y, ps, ip, σ2, H, Nx, rv, ⟨acc, c, rvs, hz, rfl⟩, hip, J, ⟨hlen, q⟩, hkap⟩ := hv
      obtain ⟨e1, e2, _⟩ := J.pin (S, lstObj acc c) (List.mem_append_right _ List.mem_cons_self)
      have hsz : acc.size < sizeLine := by
        have h1 : ys.length = acc.toList.length := rvs.length
        have h2 : acc.toList.length = acc.size := Array.length_toList
        omega
      have hne : ∀ p ∈ ip, p.1 ≠ S := fun p hp z => by
        have := hip p hp
        rw [z] at this
        exact absurd (Nat.lt_of_lt_of_le this hS) (Nat.lt_irrefl _)
      have hup := Heap.get?_update_self (Obj.mapSeq (·.push v)) e1 rfl
      have other : ∀ b u, b ≠ S → s₁.heap.get? b = some u → (s₁.heap.update S (Obj.mapSeq (·.push v))).get? b = some u := fun b u hb e => (Heap.get?_update_other _ _ (Ne.symm hb)).trans e
      have J2 := inv_push (s' := ({ s₁.setGen g gs' with heap := s₁.heap.update S (Obj.mapSeq (·.push v)) } : Shared).setGen g .running) J hS (fun v z => by cases z) (fun v z => by cases z) (fun p hp z => by rw [List.mem_singleton.mp hp] at z; exact hSa z) hne rfl
        (allBare_setGen (s := { s₁.setGen g gs' with heap := s₁.heap.update S (Obj.mapSeq (·.push v)) }) (x := .running) (allBare_setGen J.bare hbare) rfl) other hup
      have hgo1 := hkap _ _ ⟨acc.push v, _, by rw [Array.toList_push]; exact rvs.append (.cons rv .nil), by rw [Array.size_push]; exact hsz, rfl⟩ J2 q
      show wpAny _ B.in1 (updateSeq S (·.push v) >>= _) _ _ _
      refine wpAny_bind ?_
      refine wpAny_updateSeq (s := s₁.setGen g gs') e1 rfl (wpAny_pure ⟨plainId_quiet F.plain_extend_loop _, ?_⟩) (Nat.le_of_lt hsz) (by show (acc.push v).size ≤ sizeLine + 1; rw [Array.size_push]; omega)
      refine ih { s₁.setGen g gs' with heap := s₁.heap.update S (Obj.mapSeq (·.push v)) } (isg _ (other _ _ hSa (J.pin (a, go) (List.mem_append_left _ (List.mem_singleton.mpr rfl))).1)) J2.nolimit ⟨gs', setGen_at hsz1, hgo1⟩
    · intro _
      obtain ⟨ys, ps, σ2, H, hc, J, q⟩ := hp
      exact wpAny_pure (fin hc J q hk)
end
section
variable {X : Cx} {pins : List (Addr × Obj)} {σ : L2.St} {k : Nat} {End : EN} {B : Around} {u : Value} {s : Shared} {Q : List Value → Shared → Prop} {E : Value → Shared → Prop}
/-- collect -/
theorem collect_gx (hf : B.frames = some X.stack) (hr : Room (k + 1) B) (M : MadeG X k pins σ stCol End u s)
    (hQ : ∀ ys H' s' (acc : Array Value), Inv X pins σ H' s' → Vals ys acc.toList → acc.size ≤ sizeLine → End ys H' → Q acc.toList s') : wpAny (model X.prog X.w) B (collect u) Q E s := by
  obtain ⟨a, gi, cd, m, s3, H2, env, Ng, fp, go, rfl, isg, ea, hgs, hl, hbare, hos, I3, hfp, hsz, halt, wake⟩ := M
  have hSI : s.heap.objs.size ≠ a := fun e => by rw [← e] at halt; exact absurd halt (Nat.lt_irrefl _)
  unfold collect
  refine wpAny_bind (wpAny_runValue (codeAny_builtin F.entry_proto_collect ?_))
  rw [Around.under_plainId F.plain_proto_collect _]
  show wpAny _ B.in1 (newList [] >>= fun l => again (.builtin "list.__iadd__" ⟨[l, .ref a], []⟩)) _ _ s
  refine wpAny_bind (wpAny_newObj_type ?_)
  refine wpAny_pure ⟨plainId_quiet F.plain_list_iadd _, codeAny_builtin F.entry_list_iadd ?_⟩
  rw [Around.under_plainId F.plain_list_iadd _]
  have k1 : ∀ b o, s.heap.get? b = some o → (s.heap.push { cls := .type "list", data := .seq ([] : List Value).toArray }).get? b = some o := fun b o e => Heap.get?_push_of_some _ e
  have gt : ∀ {h : Heap}, (∀ b o, s.heap.get? b = some o → h.get? b = some o) → h.IsGen a gi := fun q => isg _ (q _ _ ea)
  show wpAny _ B.in1 (Builtin.List.listExtendWith (.ref s.heap.objs.size) (.ref a) (.ref s.heap.objs.size)) _ _ _
  unfold Builtin.List.listExtendWith
  refine wpAny_bind (wpAny_typeOf (Heap.IsGen.typeIs (s := { s with heap := _ }) (gt k1)) ?_)
  have h1 : Builtin.List.listSameRef (.ref s.heap.objs.size) (.ref a) = false := by simp [Builtin.List.listSameRef, hSI]
  have h2 : (Value.type "generator" == Value.type "list") = false := by decide
  have h3 : (Value.type "generator" == Value.type "tuple") = false := by decide
  simp only [h1, h2, h3, Bool.or_false, Bool.false_eq_true, if_false]
  refine wpAny_bind (wpAny_pyIter_gen (s := { s with heap := _ }) (gt k1) ?_)
  refine wpAny_bind (wpAny_holding ?_)
  unfold Builtin.List.listLengthHint
  refine wpAny_bind (wpAny_specialOf (Heap.IsGen.typeIs (s := { s with heap := _ }) (gt k1)) F.gen_no_len ?_)
  show wpAny _ B.in1 (specialOf (Value.ref a) (Str.ofString "__length_hint__") >>= _) _ _ _
  refine wpAny_bind (wpAny_specialOf (Heap.IsGen.typeIs (s := { s with heap := _ }) (gt k1)) F.gen_no_hint ?_)
  refine wpAny_pure ?_
  show wpAny _ B.in1 (rule "list.extend.makes-room" >>= fun _ => Builtin.List.listTouch (.ref s.heap.objs.size) >>= fun _ =>
    again (.builtin "list.extend.loop" ⟨[.ref s.heap.objs.size, .ref a, .ref s.heap.objs.size], []⟩)) _ _ _
  refine wpAny_bind (wpAny_rule ?_)
  have hS₁ : (s.heap.push { cls := .type "list", data := .seq ([] : List Value).toArray }).get? s.heap.objs.size = some { cls := .type "list", data := .seq ([] : List Value).toArray } := Heap.get?_push_size _ rfl
  refine wpAny_bind ?_
  show wpAny _ B.in1 (updateSeq s.heap.objs.size (·.push .none) >>= fun _ => updateSeq s.heap.objs.size (·.pop)) _ _ _
  refine wpAny_bind (wpAny_updateSeq hS₁ rfl ?_)
  have hS₂ := Heap.get?_update_self (Obj.mapSeq (·.push Value.none)) hS₁ rfl
  refine wpAny_updateSeq (hz := by seq_fits) hS₂ rfl ?_
  have hS₃ := Heap.get?_update_self (Obj.mapSeq (·.pop)) hS₂ rfl
  have oth : ∀ b o, s.heap.get? b = some o →
      (((s.heap.push { cls := .type "list", data := .seq ([] : List Value).toArray }).update s.heap.objs.size (Obj.mapSeq (·.push Value.none))).update s.heap.objs.size (Obj.mapSeq (·.pop))).get? b = some o :=
    fun b o e => (Heap.get?_update_other _ _ (Ne.symm (Nat.ne_of_lt (Heap.lt_size e)))).trans ((Heap.get?_update_other _ _ (Ne.symm (Nat.ne_of_lt (Heap.lt_size e)))).trans (k1 b o e))
  refine wpAny_pure ⟨plainId_quiet F.plain_extend_loop _, ext_loop (env := env) (Ng := Ng) (End := End) hr.hd hr.depth I3 hfp isg (Nat.le_trans hsz (Nat.le_refl _)) (Ne.symm hSI) (fun ys H' s' acc c J hn e rv hz q => ?_) (m + 1) _ (gt oth) (hl.keeps oth) ⟨_, hgs, rfl, ?_⟩⟩
  · show wpAny _ B (load s.heap.objs.size >>= _) _ _ s'
    refine wpAny_bind (wpAny_load e ?_)
    exact wpAny_pure (hQ ys H' s' acc J rv hz q)
  · exact wake B.in1.in1 (cp1 s.heap.objs.size) hf hr.hd ⟨hr.hd, by have := hr.dp; show B.depth + 1 + 3 * k + 5 < _; omega, by have := hr.un; show B.units + 1 + 1 + 3 + 16 * k + 200 < _; omega⟩
      (fun ys ps e p hp => by obtain ⟨acc, c, _, _, rfl⟩ := e; rw [List.mem_singleton.mp hp]; exact Nat.le_refl _) _ [(s.heap.objs.size, lstObj #[] _)] rfl (allBare_setGen (s := { s with heap := _ }) (x := .running) hbare rfl) oth ⟨#[], _, .nil, Nat.zero_le _, rfl⟩
      fun p hp => by rw [List.mem_singleton.mp hp]; exact ⟨hS₃, fun v z => by cases z⟩
end
end GX
set_option Elab.async false
set_option linter.all false
set_option maxRecDepth 100000
set_option maxHeartbeats 2000000
namespace PySem
open PyProof.Rows L2 GenW GX
open PySem.AutoSeq1 (wpAny_loadPart')
theorem meets_tuple_gx {X : Cx} {pins : List (Addr × Obj)} {σ : L2.St} {k : Nat} {End : EN} {a : Addr} :
    MeetsIn X.prog X.w (Builtin.«tuple.__new__» ⟨[.type "tuple", .ref a], []⟩)
      (fun A R s => A.frames = some X.stack ∧ Room (k + 1) A.in1 ∧ MadeG X k pins σ stCol End (.ref a) s ∧
        ∀ (ys : List V) (H' : Hp) (s' : Shared) (acc : Array Value), L2.Inv X pins σ H' s' → Vals ys acc.toList → acc.size ≤ sizeLine → End ys H' → R (.ok (.ret (.ref s'.heap.objs.size))) { s' with heap := s'.heap.push { cls := .type "tuple", data := .seq acc } }) :=
  .of_wp fun A R s h => by
    obtain ⟨hf, hr, M, h⟩ := h
    have hsub := sub_tuple_self
    have hinit := init_tuple_lookup
    have hmh := madeHere_tuple
    have hT : s.TypeIs (.ref a) "generator" := by
      obtain ⟨a', gi, cd, m, s3, H2, env, Ng, fp, go, e, isg, ea, _⟩ := id M
      cases e
      exact (isg _ ea).typeIs
    have hf1 : A.in1.frames = some X.stack := hf
    wp_walk using wpAny_typeOf hT, collect_gx (X := X) hf1 hr M
    intro ys H' s' acc I rv hz e
    show wpAny _ _ (Builtin.Tuple.tupleExact acc.toList.toArray >>= fun v => ret v) _ _ _
    unfold Builtin.Tuple.tupleExact
    refine wpAny_bind (wpAny_newObj_type ?_ (show acc.toList.toArray.size ≤ sizeLine by simpa using hz))
    refine wpAny_pure ⟨_, rfl, ?_⟩
    have e2 : acc.toList.toArray = acc := by simp
    rw [e2]
    exact h ys H' s' acc I rv hz e
end PySem
namespace GX
open PySem PySem.Spec PyProof.Rows L2 GenW
def enTup (Q : VK) : EN := fun ys H => ∀ p, H p = none → Q (.ref p) (upd H p (.tup ys))
/-- tuple(elt for tg in iter if ..) -/
def tTupG (P : Addr) (wi : TI) (g : TG) (tt : TT) (te : TE) (src : List (Option Nat)) (vs : List Nat) : TE := fun σ H Q => tGX P wi g tt te src vs stCol (enTup Q) σ H
section
variable {X : Cx} {elt tg iter : Expr} {ifs : List Expr} {scope : Scope} {gpos p pos : Pos} {g : TG} {tt : TT} {te : TE} {wi : TI} {Ng : List Str} {src : List (Option Nat)} {vs : List Nat} {c P : Addr} {k : Nat}
theorem pe_tupG (hr : Room (k + 2) X.A) (hg0 : Gl X "tuple") (hm : X.mg "tuple" = none) (TB : GxR.TabB X.base X.mg c P) (hcode : X.env.code = .ref c) (S : GScp X.env.scope scope X.N Ng src) (hi : PI X tg iter wi)
    (hg : ∀ (A : Around) (s : Shared) (H : Hp) (C : Addr) (code : Value) (fp : List Addr) (pn : List (Addr × Obj)), Room k A → PG (gxc X A s H (gxe X scope C code) Ng fp pn) tg g)
    (ht : ∀ (A : Around) (s : Shared) (H : Hp) (C : Addr) (code : Value) (fp : List Addr) (pn : List (Addr × Obj)), Room k A → PTs (gxc X A s H (gxe X scope C code) Ng fp pn) ifs tt)
    (he : ∀ (A : Around) (s : Shared) (H : Hp) (C : Addr) (code : Value) (fp : List Addr) (pn : List (Addr × Obj)), Room k A → PE (gxc X A s H (gxe X scope C code) Ng fp pn) elt te)
    (hs : ∀ v, genFold iter X.env v = pure v)
    (hst : starEach [.GeneratorExp elt [⟨tg, iter, ifs, 0⟩] scope gpos] X.env = (false, eval (.GeneratorExp elt [⟨tg, iter, ifs, 0⟩] scope gpos) X.env) :: starEach [] X.env := by rfl) :
    PE X (.Call (.Name "tuple" p) [.GeneratorExp elt [⟨tg, iter, ifs, 0⟩] scope gpos] [] pos) (tTupG P wi g tt te src vs) := by
  refine ⟨fun pins s σ H Q I h => ?_⟩
  refine wpAny_Call_Name_kw (ld_blt I hg0 hm PySem.Pv.boot_tuple ?_)
  refine PyProof.Rows.callWith_type1 ?_ hst rfl
  rw [hst]
  show wpAny _ _ (spliced ((false, eval (.GeneratorExp elt [⟨tg, iter, ifs, 0⟩] scope gpos) X.env) :: backTo pos (starEach [] X.env))) _ _ s
  refine Calls.spliced_cons (gen_any hr.hd hr.depth TB hcode S hi hg ht he hs I h fun u s' M => ?_)
  obtain ⟨a, hu⟩ : ∃ a, u = Value.ref a := by obtain ⟨a, _, _, _, _, _, _, _, _, _, e, _⟩ := id M; exact ⟨a, e⟩
  subst hu
  have hf : X.A.frames = some X.stack := I.ok.frames
  refine Calls.spliced_nil ?_
  refine callType_newIn F.called_tuple (by decide) (F.typeCall_tuple_1 _) (F.newCall_tuple_1 _) (fun obj => F.args_object_init_2 obj _) F.entry_tuple_new (meets_tuple_gx (X := X) (pins := pins) (σ := σ) (k := k) (End := enTup Q))
    ⟨hf, ⟨hr.hd, by have := hr.dp; show X.A.depth + 3 * (k + 1) + 5 < _; omega, by have := hr.un; show X.A.units + 1 + 1 + 16 * (k + 1) + 200 < _; omega⟩, M, fun ys H' s1 acc J rv hz e => ⟨⟨_, Heap.get?_push_size _ rfl, rfl⟩, ?_⟩⟩
  have J2 : L2.Inv X pins σ (upd H' s1.heap.objs.size (.tup ys)) { s1 with heap := s1.heap.push { cls := .type "tuple", data := .seq acc } } :=
    J.laid (t' := s1.toks) (fun b o e => Heap.get?_push_of_some _ e) (Nat.le_refl _) (show ObjOk X.prog X.w _ _ _ (.tup ys) from ⟨by have h1 : ys.length = acc.toList.length := rv.length; have h2 : acc.toList.length = acc.size := Array.length_toList; omega, acc.toList, rv, by rw [Array.toArray_toList]; exact IsTup.new _ _⟩)
  exact ⟨.ref s1.heap.objs.size, _, J2, rfl, e _ (J.hok.fresh (Nat.le_refl _))⟩
end
end GX
set_option Elab.async false
set_option linter.all false
set_option maxRecDepth 100000
set_option maxHeartbeats 2000000
namespace ZX
open PySem PySem.Spec PyProof.Rows L2
/-! lists and tuples alike: walked, and walked two by two -/
def SqOf (t : Bool) (K : PySem.W.Frag) (H : Hp) (a : Addr) (xs : List V) : Prop := if t = true then SqT K H a xs else SqL K H a xs
def ItOf (t : Bool) (h : Heap) (it a : Addr) (i : Nat) : Prop := if t = true then h.IsTupleIter it a i else h.IsListIter it a i
def IsOf (t : Bool) (h : Heap) (a : Addr) (its : Array Value) : Prop := if t = true then h.IsTuple a its else h.IsList a its
theorem ItOf.at {t : Bool} {h h' : Heap} {it a : Addr} {i : Nat} (x : ItOf t h it a i) (k : ∀ o, h.get? it = some o → h'.get? it = some o) : ItOf t h' it a i := by
  cases t
  · exact Heap.IsListIter.at (show h.IsListIter it a i from x) k
  · exact Heap.IsTupleIter.at (show h.IsTupleIter it a i from x) k
theorem ItOf.ob {t : Bool} {h : Heap} {it a : Addr} {i : Nat} (x : ItOf t h it a i) : ∃ o, h.get? it = some o ∧ ∀ v, o.data ≠ .cell v := by
  cases t
  · obtain ⟨o, e, _, d⟩ := (show h.IsListIter it a i from x)
    exact ⟨o, e, fun v q => by rw [d] at q; cases q⟩
  · obtain ⟨o, e, _, d⟩ := (show h.IsTupleIter it a i from x)
    exact ⟨o, e, fun v q => by rw [d] at q; cases q⟩
section
variable {X : Cx} {pins : List (Addr × Obj)} {σ : L2.St} {H : Hp} {s : Shared}
theorem sq_read (I : Inv X pins σ H s) {t : Bool} {a : Addr} {xs : List V} (h : SqOf t X.K H a xs) : ∃ its : List Value, Vals xs its ∧ IsOf t s.heap a its.toArray := by
  cases t
  · obtain ⟨its, rv, p, _⟩ := I.list (show SqL X.K H a xs from h)
    exact ⟨its, rv, p.isList⟩
  · obtain ⟨its, rv, p, _⟩ := I.tuple (show SqT X.K H a xs from h)
    exact ⟨its, rv, p⟩
theorem sq_inj (I : Inv X pins σ H s) {t : Bool} {a : Addr} {xs ys : List V} (h : SqOf t X.K H a xs) (k : SqOf t X.K H a ys) : xs = ys := by
  cases t
  · exact I.list_inj (show SqL X.K H a xs from h) k
  · exact I.tuple_inj (show SqT X.K H a xs from h) k
end
theorem is_lt {t : Bool} {h : Heap} {a : Addr} {its : Array Value} (x : IsOf t h a its) : a < h.objs.size := by
  cases t
  · obtain ⟨_, e, _⟩ := (show h.IsList a its from x)
    exact Heap.lt_size e
  · obtain ⟨_, e, _⟩ := (show h.IsTuple a its from x)
    exact Heap.lt_size e
theorem drawsOf {prog : Program} {w : World} {A : Around} (hh : A.handled = none) (t : Bool) (it a : Addr) (hne : a ≠ it) (items : Array Value) :
    Draws prog w A it [it, a] items.size (fun i v => items[i]? = some v) (fun i h => ItOf t h it a i ∧ IsOf t h a items) := by
  cases t
  · exact Draws.list hh it a hne items
  · exact Draws.tuple hh it a hne items
theorem beginsOf (t : Bool) (a : Addr) (items : Array Value) : ∃ o : Obj, Begins (.ref a) o (fun h => IsOf t h a items) ∧ ∀ (h : Heap) (it : Addr), h.get? it = some o → ItOf t h it a 0 := by
  cases t
  · exact ⟨_, begins_list a items, fun h it e => ⟨_, e, rfl, rfl⟩⟩
  · exact ⟨_, begins_tuple a items, fun h it e => ⟨_, e, rfl, rfl⟩⟩
/-- the i-th of both -/
def Itzx (K : PySem.W.Frag) (t1 t2 : Bool) (a b : Addr) : It :=
  ⟨fun i H => ∃ (xs ys : List V) (x y : V), SqOf t1 K H a xs ∧ SqOf t2 K H b ys ∧ xs[i]? = some x ∧ ys[i]? = some y,
    fun i H v H' => ∃ T x y, v = .ref T ∧ H T = none ∧ H' = upd H T (.tup [x, y]) ∧ (∀ xs, SqOf t1 K H a xs → xs[i]? = some x) ∧ ∀ ys, SqOf t2 K H b ys → ys[i]? = some y,
    fun i H => ∃ xs ys : List V, SqOf t1 K H a xs ∧ SqOf t2 K H b ys ∧ i ≤ xs.length ∧ i ≤ ys.length ∧ (i = xs.length ∨ i = ys.length)⟩
theorem turn_zx {P : Program} {w : World} {K : PySem.W.Frag} {elts : List Expr} {kk : Nat} {tpos : Pos} {t1 t2 : Bool} {a b z TI TO i1 i2 : Addr} (D : ZipSep2 z TI TO i1 i2 [i1, a] [i2, b]) (na : a ≠ i1) (nb : b ≠ i2) :
    Turn P w K (.Tuple elts kk tpos) (Itzx K t1 t2 a b) [z, TI, TO, i1, i2] z (fun i h => IsZip h z TI TO .none ∧ IsPair h TI (.ref i1) (.ref i2) ∧ (∃ x y, IsPair h TO x y) ∧ ItOf t1 h i1 a i ∧ ItOf t2 h i2 b i) := by
  have five : ∀ {c : Addr}, c ∈ [z, TI, TO, i1, i2] → c = z ∨ c = TI ∨ c = TO ∨ c = i1 ∨ c = i2 := fun {c} hc => by simpa using hc
  have out : ∀ {c : Addr}, c ∉ [z, TI, TO, i1, i2] → c ≠ z ∧ c ≠ TO ∧ c ≠ i1 ∧ c ≠ i2 := fun {c} hc => ⟨fun e => hc (by simp [e]), fun e => hc (by simp [e]), fun e => hc (by simp [e]), fun e => hc (by simp [e])⟩
  constructor
  · simp
  · intro i h st c hc
    obtain ⟨hz, hTI, ⟨x, y, hTO⟩, h1, h2⟩ := st
    rcases five hc with rfl | rfl | rfl | rfl | rfl
    · exact ⟨_, hz, fun v q => by cases q⟩
    · exact ⟨_, hTI, fun v q => by cases q⟩
    · exact ⟨_, hTO, fun v q => by cases q⟩
    · exact h1.ob
    · exact h2.ob
  · intro i h h' st k
    obtain ⟨hz, hTI, ⟨x, y, hTO⟩, h1, h2⟩ := st
    exact ⟨k z (by simp) _ hz, k TI (by simp) _ hTI, ⟨x, y, k TO (by simp) _ hTO⟩, h1.at fun o q => k i1 (by simp) o q, h2.at fun o q => k i2 (by simp) o q⟩
  · intro X hP hw hK hc i pins s σ H E I hf st hg
    subst hP hw hK
    obtain ⟨hz, hTI, ⟨x0, y0, hTO⟩, h1, h2⟩ := st
    obtain ⟨xs, ys, x, y, hqx, hqy, hx, hy⟩ := hg
    obtain ⟨its, rv, p⟩ := sq_read I hqx
    obtain ⟨its2, rv2, p2⟩ := sq_read I hqy
    obtain ⟨u, hu, ru⟩ := rv.get hx
    obtain ⟨u2, hu2, ru2⟩ := rv2.get hy
    have hzl : z < s.heap.objs.size := Heap.lt_size hz
    have hh : X.A.in1.handled = none := I.ok.hd hc
    have l1 : i < its.toArray.size := by simp; exact (List.getElem?_eq_some_iff.mp hu).1
    have l2 : i < its2.toArray.size := by simp; exact (List.getElem?_eq_some_iff.mp hu2).1
    refine wpAny_pyNext_zipD2_item D (drawsOf hh t1 i1 a na its.toArray) (drawsOf hh t2 i2 b nb its2.toArray) hz hTI hTO ⟨h1, p⟩ ⟨h2, p2⟩ l1 l2 fun v1 v2 h' tk e1 e2 z' TO' h1' h2' hT hsz hk => ?_
    have ev1 : v1 = u := by
      have q : its.toArray[i]? = some u := by simpa using hu
      exact Option.some.inj ((show its.toArray[i]? = some v1 from e1).symm.trans q)
    have ev2 : v2 = u2 := by
      have q : its2.toArray[i]? = some u2 := by simpa using hu2
      exact Option.some.inj ((show its2.toArray[i]? = some v2 from e2).symm.trans q)
    subst ev1 ev2
    refine ⟨_, rfl, wpAny_letOwnedTupleGo_zip (s := { s with heap := h', toks := tk }) z' fun h'' z'' sb => ?_⟩
    have hT2 : h''.get? s.heap.objs.size = some { cls := .type "tuple", data := .seq #[v1, v2] } := (sb.2 _ (Nat.ne_of_gt hzl)).trans hT
    have new : ObjOk X.prog X.w (upd H s.heap.objs.size (.tup [x, y])) h'' s.heap.objs.size (.tup [x, y]) := ⟨by show 2 ≤ sizeLine; decide, [v1, v2], .cons ru (.cons ru2 .nil), ⟨_, hT2, rfl, _, rfl⟩⟩
    have J : Inv X pins σ (upd H s.heap.objs.size (.tup [x, y])) { s with heap := h'', toks := tk } :=
      I.turnedNew (t' := tk) (ch := [z, TI, TO, i1, i2]) (fun c o hb q => by obtain ⟨c1, c2, c3, c4⟩ := out hb; exact (sb.2 c c1).trans (hk c o c1 c2 c3 c4 q)) hf (Nat.le_refl _) new
    refine ⟨.ref s.heap.objs.size, _, J, rfl, ⟨_, x, y, rfl, I.hok.fresh (Nat.le_refl _), rfl, fun l hl => by rw [sq_inj I hl hqx]; exact hx, fun l hl => by rw [sq_inj I hl hqy]; exact hy⟩, ⟨z'', ?_, ⟨v1, v2, ?_⟩, ?_, ?_⟩, fun c hcm => ?_⟩
    · exact (sb.2 _ D.TIz).trans (hk _ _ D.TIz D.TITO D.TIi1 D.TIi2 hTI)
    · exact (sb.2 _ D.TOz).trans TO'
    · exact h1'.1.at fun o q => (sb.2 _ (Ne.symm D.zi1)).trans q
    · exact h2'.1.at fun o q => (sb.2 _ (Ne.symm D.zi2)).trans q
    · have hlt : c < s.heap.objs.size := by
        rcases five hcm with rfl | rfl | rfl | rfl | rfl
        · exact hzl
        · exact Heap.lt_size hTI
        · exact Heap.lt_size hTO
        · obtain ⟨o, e, _⟩ := h1.ob
          exact Heap.lt_size e
        · obtain ⟨o, e, _⟩ := h2.ob
          exact Heap.lt_size e
      rw [upd_ne (Nat.ne_of_lt hlt)]
      exact (hf c hcm).1
  · intro X hP hw hK hc i pins s σ H E I hf st hg
    subst hP hw hK
    obtain ⟨hz, hTI, ⟨x0, y0, hTO⟩, h1, h2⟩ := st
    obtain ⟨xs, ys, hqx, hqy, le1, le2, hend⟩ := hg
    obtain ⟨its, rv, p⟩ := sq_read I hqx
    obtain ⟨its2, rv2, p2⟩ := sq_read I hqy
    have hh : X.A.in1.handled = none := I.ok.hd hc
    have n1 : xs.length = its.length := rv.length
    have n2 : ys.length = its2.length := rv2.length
    refine wpAny_pyNext_zipD2_end D (drawsOf hh t1 i1 a na its.toArray) (drawsOf hh t2 i2 b nb its2.toArray) hz hTI hTO ⟨h1, p⟩ ⟨h2, p2⟩ (by simp; omega) (by simp; omega) (by simp; omega) fun h' tk hk => ⟨rfl, ?_⟩
    exact I.turnedL (t' := tk) (ch := [z, TI, TO, i1, i2]) (fun c o hb q => by obtain ⟨c1, c2, c3, c4⟩ := out hb; exact hk c o c1 c2 c3 c4 q) hf
  · exact fun A i s Q E st h => wpAny_pyIter_zip st.1 h
/-- zip(e, e2), each a list or a tuple -/
def iZx (K : PySem.W.Frag) (ta : TA) : TI := fun σ H R => ta σ H fun vs H1 => ∃ (a b : Addr) (xs ys : List V) (t1 t2 : Bool), vs = [.ref a, .ref b] ∧ SqOf t1 K H1 a xs ∧ SqOf t2 K H1 b ys ∧ R (Itzx K t1 t2 a b) H1
theorem pi_zx {X : Cx} {e e2 : Expr} {ta : TA} {p pos tpos : Pos} {elts : List Expr} {kk : Nat} (hg : Gl X "zip") (hm : X.mg "zip" = none) (ha : PA X [e, e2] ta)
    (hs : starEach [e, e2] X.env = (false, eval e X.env) :: starEach [e2] X.env := by rfl) (hpl : (backTo pos (starEach [e2] X.env)).any (·.1) = false := by rfl) :
    PI X (.Tuple elts kk tpos) (.Call (.Name "zip" p) [e, e2] [] pos) (iZx X.K ta) := by
  refine ⟨fun pins s σ H R I h => ?_⟩
  refine Call_ (ld_blt I hg hm PyProof.Rows.boot_zip (PyProof.Rows.callWith_type1 (thn (ha.run pos pins s σ H _ I h) fun us s1 ⟨vs, H1, I1, r1, q1⟩ => ?_) hs hpl))
  obtain ⟨a, b, xs, ys, t1, t2, rfl, hqx, hqy, q⟩ := q1
  obtain ⟨u1, u2, rfl, ra, rb⟩ := vals2 r1
  cases ra
  cases rb
  obtain ⟨its, rv, p1⟩ := sq_read I1 hqx
  obtain ⟨its2, rv2, p2⟩ := sq_read I1 hqy
  obtain ⟨o1, B1, k1⟩ := beginsOf t1 a its.toArray
  obtain ⟨o2, B2, k2⟩ := beginsOf t2 b its2.toArray
  have la := is_lt p1
  have lb := is_lt p2
  refine zip_begins2 B1 B2 p1 p2 fun h' hz hTI hTO e1 e2 hsz hk => wpAny_pyIter_zip hz ?_
  have I2 : Inv X pins σ H1 { s1 with heap := h' } := I1.kept (t' := s1.toks) hk
  refine ⟨s1.heap.objs.size + 4, [s1.heap.objs.size + 4, s1.heap.objs.size + 2, s1.heap.objs.size + 3, s1.heap.objs.size, s1.heap.objs.size + 1], _, _, H1, rfl, I2,
    turn_zx (t1 := t1) (t2 := t2) (zip_sep2 (fp1 := [a]) (fp2 := [b]) (fun c hc => by rw [List.mem_singleton.mp hc]; exact la) fun c hc => by rw [List.mem_singleton.mp hc]; exact lb) (Nat.ne_of_lt la) (Nat.ne_of_lt (Nat.lt_of_lt_of_le lb (Nat.le_add_right _ 1))),
    ⟨hz, hTI, ⟨_, _, hTO⟩, k1 _ _ e1, k2 _ _ e2⟩, fun c hcm => ?_, q⟩
  have hle : s1.heap.objs.size ≤ c := by
    have e' : c = s1.heap.objs.size + 4 ∨ c = s1.heap.objs.size + 2 ∨ c = s1.heap.objs.size + 3 ∨ c = s1.heap.objs.size ∨ c = s1.heap.objs.size + 1 := by simpa using hcm
    rcases e' with rfl | rfl | rfl | rfl | rfl
    · exact Nat.le_add_right _ _
    · exact Nat.le_add_right _ _
    · exact Nat.le_add_right _ _
    · exact Nat.le_refl _
    · exact Nat.le_add_right _ _
  exact I1.fpOk hle (I1.hok.fresh hle)
theorem walk_zx {K : PySem.W.Frag} {t1 t2 : Bool} {a b : Addr} {xs ys : List V} (hl : xs.length = ys.length) : Walk (Itzx K t1 t2 a b) xs.length (fun H => SqOf t1 K H a xs ∧ SqOf t2 K H b ys) (YPair (fun i => xs[i]?) (fun i => ys[i]?)) := by
  refine ⟨fun i _ hi q => ?_, fun _ q => ⟨xs, ys, q.1, q.2, Nat.le_refl _, by omega, .inl rfl⟩, fun i H v H' _ q y => ?_⟩
  · have h2 : i < ys.length := by omega
    exact ⟨xs, ys, xs[i], ys[i], q.1, q.2, by simp [hi], by simp [h2]⟩
  · obtain ⟨T, x, z, h1, h2, h3, h4, h5⟩ := y
    exact ⟨T, x, z, h1, h2, h3, h4 xs q.1, h5 ys q.2⟩
/-! a list or a tuple, walked -/
def Itsq (K : PySem.W.Frag) (t : Bool) (a : Addr) : It := if t = true then Itt K a else Itl K a
def iSq (K : PySem.W.Frag) (tl : TE) : TI := fun σ H R => tl σ H fun x H1 => ∃ (a : Addr) (xs : List V) (t : Bool), x = .ref a ∧ SqOf t K H1 a xs ∧ R (Itsq K t a) H1
theorem pi_sq {X : Cx} {tg l : Expr} {tl : TE} (hl : PE X l tl) : PI X tg l (iSq X.K tl) := by
  refine ⟨fun pins s σ H R I h => ?_⟩
  refine thn (hl.run pins s σ H _ I h) fun v s1 ⟨x, H1, I1, r1, a, xs, t, e, hq, q⟩ => ?_
  subst e
  cases r1
  cases t
  · obtain ⟨its, rv, p, _⟩ := I1.list (show SqL X.K H1 a xs from hq)
    refine wpAny_pyIter_list p.isList ⟨s1.heap.objs.size, [s1.heap.objs.size], _, _, H1, rfl, I1.kept (t' := s1.toks) fun b o e => Heap.get?_push_of_some _ e, turn_list a _, ⟨_, Heap.get?_push_size _ rfl, rfl, rfl⟩, fun b hb => ?_, q⟩
    rw [List.mem_singleton.mp hb]
    exact I1.fpOk (Nat.le_refl _) (I1.hok.fresh (Nat.le_refl _))
  · obtain ⟨its, rv, p, _⟩ := I1.tuple (show SqT X.K H1 a xs from hq)
    refine wpAny_pyIter_tuple (show s1.heap.IsTuple a its.toArray from p) ⟨s1.heap.objs.size, [s1.heap.objs.size], _, _, H1, rfl, I1.kept (t' := s1.toks) fun b o e => Heap.get?_push_of_some _ e, turn_tuple a _, ⟨_, Heap.get?_push_size _ rfl, rfl, rfl⟩, fun b hb => ?_, q⟩
    rw [List.mem_singleton.mp hb]
    exact I1.fpOk (Nat.le_refl _) (I1.hok.fresh (Nat.le_refl _))
theorem walk_sq {K : PySem.W.Frag} {t : Bool} {a : Addr} {xs : List V} : Walk (Itsq K t a) xs.length (fun H => SqOf t K H a xs) (YAt xs) := by
  cases t
  · exact walk_list
  · exact walk_tup
end ZX
set_option Elab.async false
set_option linter.all false
set_option maxRecDepth 100000
set_option maxHeartbeats 2000000
namespace M2
/-! primes, Fermat -/
def prod (l : List Nat) : Nat := l.foldr (· * ·) 1
theorem prod_perm {l m : List Nat} (h : l.Perm m) : prod l = prod m := by
  induction h with
  | nil => rfl
  | cons x _ ih => show x * prod _ = x * prod _; rw [ih]
  | swap x y l => show y * (x * prod l) = x * (y * prod l); rw [Nat.mul_left_comm]
  | trans _ _ a b => exact a.trans b
theorem perm_of_sub : ∀ {l m : List Nat}, l.Nodup → (∀ x ∈ l, x ∈ m) → l.length = m.length → l.Perm m
  | [], m, _, _, h => by
    have : m = [] := List.eq_nil_of_length_eq_zero h.symm
    subst this
    exact .nil
  | x :: r, m, nd, sub, len => by
    have hx : x ∈ m := sub x List.mem_cons_self
    have nd' := List.nodup_cons.mp nd
    have p := List.perm_cons_erase hx
    refine (List.Perm.cons x (perm_of_sub nd'.2 (fun y hy => ?_) ?_)).trans p.symm
    · have ne : y ≠ x := fun z => nd'.1 (z ▸ hy)
      exact (List.mem_erase_of_ne ne).mpr (sub y (List.mem_cons_of_mem _ hy))
    · have := p.length_eq
      rw [List.length_cons] at this len
      omega
theorem prod_mod (p a : Nat) : ∀ l : List Nat, prod (l.map fun i => a * i % p) % p = (a ^ l.length * prod l) % p
  | [] => by simp [prod]
  | x :: r => by
    show (a * x % p * prod (r.map fun i => a * i % p)) % p = (a ^ (r.length + 1) * (x * prod r)) % p
    rw [Nat.mul_mod, prod_mod p a r, Nat.mod_mod, ← Nat.mul_mod, Nat.pow_succ]
    congr 1
    rw [Nat.mul_mul_mul_comm, Nat.mul_comm a]
/-- a prime: all below are coprime to it -/
def Pr (p : Nat) : Prop := 2 ≤ p ∧ ∀ i, 0 < i → i < p → Nat.Coprime p i
theorem prod_cop {p : Nat} : ∀ {l : List Nat}, (∀ x ∈ l, Nat.Coprime p x) → Nat.Coprime p (prod l)
  | [], _ => Nat.coprime_one_right p
  | x :: r, h => Nat.Coprime.mul_right (h x List.mem_cons_self) (prod_cop fun y hy => h y (List.mem_cons_of_mem _ hy))
theorem cop_mod {p a : Nat} (pr : Pr p) (h : a % p ≠ 0) : Nat.Coprime p a := by
  have h1 : a % p < p := Nat.mod_lt _ (by have := pr.1; omega)
  have := pr.2 (a % p) (by omega) h1
  unfold Nat.Coprime at *
  rw [Nat.gcd_rec] at this ⊢
  rw [Nat.gcd_comm, Nat.gcd_rec] at this ⊢
  simpa using this
theorem fermat {p a : Nat} (pr : Pr p) (h : a % p ≠ 0) : a ^ (p - 1) % p = 1 := by
  have p2 := pr.1
  have ca := cop_mod pr h
  let L := List.range' 1 (p - 1)
  have memL : ∀ x, x ∈ L ↔ 0 < x ∧ x < p := fun x => by
    show x ∈ List.range' 1 (p - 1) ↔ _
    rw [List.mem_range'_1]
    omega
  have lenL : L.length = p - 1 := List.length_range'
  have inj : ∀ x ∈ L, ∀ y ∈ L, a * x % p = a * y % p → x = y := by
    intro x hx y hy e
    have hx := (memL x).mp hx
    have hy := (memL y).mp hy
    have key : ∀ x y : Nat, x ≤ y → y < p → a * x % p = a * y % p → x = y := fun x y hxy hyp e => by
      have d : p ∣ a * (y - x) := by
        rw [Nat.mul_sub]
        exact Nat.dvd_of_mod_eq_zero (Nat.sub_mod_eq_zero_of_mod_eq e.symm)
      have d2 := Nat.Coprime.dvd_of_dvd_mul_left ca d
      rcases Nat.eq_zero_or_pos (y - x) with z | z
      · omega
      · have := Nat.le_of_dvd z d2
        omega
    rcases Nat.le_total x y with z | z
    · exact key x y z hy.2 e
    · exact (key y x z hx.2 e.symm).symm
  have nd : (L.map fun i => a * i % p).Nodup := by
    refine List.pairwise_map.mpr ?_
    have nl : L.Nodup := List.nodup_range' ..
    refine List.Pairwise.imp_of_mem (fun hx hy ne e => ne (inj _ hx _ hy e)) nl
  have sub : ∀ x ∈ L.map (fun i => a * i % p), x ∈ L := fun x hx => by
    obtain ⟨i, hi, rfl⟩ := List.mem_map.mp hx
    have hi := (memL i).mp hi
    refine (memL _).mpr ⟨?_, Nat.mod_lt _ (by omega)⟩
    rcases Nat.eq_zero_or_pos (a * i % p) with z | z
    · have d := Nat.dvd_of_mod_eq_zero z
      have d2 := Nat.Coprime.dvd_of_dvd_mul_left ca d
      have := Nat.le_of_dvd hi.1 d2
      omega
    · exact z
  have pm := perm_of_sub nd sub (by rw [List.length_map])
  have e1 := prod_mod p a L
  rw [prod_perm pm, lenL] at e1
  have cp : Nat.Coprime p (prod L) := prod_cop fun x hx => by
    have hx := (memL x).mp hx
    exact pr.2 x hx.1 hx.2
  have pos : 0 < a ^ (p - 1) := Nat.pow_pos (by
    rcases Nat.eq_zero_or_pos a with z | z
    · subst z
      simp at h
    · exact z)
  have d : p ∣ prod L * (a ^ (p - 1) - 1) := by
    rw [Nat.mul_sub, Nat.mul_one]
    refine Nat.dvd_of_mod_eq_zero (Nat.sub_mod_eq_zero_of_mod_eq ?_)
    rw [Nat.mul_comm]
    exact e1.symm
  have d2 := Nat.Coprime.dvd_of_dvd_mul_left cp d
  obtain ⟨k, hk⟩ := d2
  have : a ^ (p - 1) = 1 + p * k := by omega
  rw [this, Nat.add_mul_mod_self_left, Nat.mod_eq_of_lt (by omega)]
/-- none from a on, 2^k many, divides p -/
def noDiv (p : Nat) : Nat → Nat → Bool
  | 0, a => !(Nat.beq (p % a) 0)
  | k + 1, a => noDiv p k a && noDiv p k (a + 2 ^ k)
theorem noDiv_ok {p : Nat} : ∀ {k a : Nat}, noDiv p k a = true → ∀ i, a ≤ i → i < a + 2 ^ k → p % i ≠ 0
  | 0, a, h, i, h1, h2 => by
    have e : i = a := by simp at h2; omega
    subst e
    intro z
    unfold noDiv at h
    rw [z] at h
    cases h
  | k + 1, a, h, i, h1, h2 => by
    unfold noDiv at h
    rw [Bool.and_eq_true] at h
    by_cases z : i < a + 2 ^ k
    · exact noDiv_ok h.1 i h1 z
    · refine noDiv_ok h.2 i (by omega) ?_
      rw [Nat.pow_succ] at h2
      omega
theorem pr_of {p k : Nat} (h2 : 2 ≤ p) (hk : noDiv p k 2 = true) (hb : p < (2 + 2 ^ k) * (2 + 2 ^ k)) (hs : 2 + 2 ^ k ≤ p) : Pr p := by
  refine ⟨h2, fun i h0 hi => ?_⟩
  have nd : ∀ d, 2 ≤ d → d < p → ¬ d ∣ p := by
    intro d hd hdp hdv
    obtain ⟨e, he⟩ := hdv
    have e2 : 2 ≤ e := by
      rcases Nat.lt_or_ge e 2 with z | z
      · have : e = 0 ∨ e = 1 := by omega
        rcases this with rfl | rfl
        · omega
        · omega
      · exact z
    rcases Nat.lt_or_ge d (2 + 2 ^ k) with z | z
    · exact noDiv_ok hk d hd z (Nat.mod_eq_zero_of_dvd ⟨e, he⟩)
    · rcases Nat.lt_or_ge e (2 + 2 ^ k) with y | y
      · exact noDiv_ok hk e e2 y (Nat.mod_eq_zero_of_dvd ⟨d, by rw [he, Nat.mul_comm]⟩)
      · have := Nat.mul_le_mul z y
        omega
  have g1 : Nat.gcd p i ∣ p := Nat.gcd_dvd_left _ _
  have g2 : Nat.gcd p i ∣ i := Nat.gcd_dvd_right _ _
  have g3 := Nat.le_of_dvd h0 g2
  have g4 : 0 < Nat.gcd p i := Nat.gcd_pos_of_pos_right _ h0
  show Nat.gcd p i = 1
  rcases Nat.lt_or_ge (Nat.gcd p i) 2 with z | z
  · omega
  · exact absurd g1 (nd _ z (by omega))
theorem pr2 : Pr 2 := ⟨by decide, fun i h0 h1 => by have : i = 1 := by omega
                                                    subst this; decide⟩
theorem pr3 : Pr 3 := pr_of (k := 0) (by decide) (by decide) (by decide) (by decide)
theorem pr5 : Pr 5 := pr_of (k := 0) (by decide) (by decide) (by decide) (by decide)
theorem pr7 : Pr 7 := pr_of (k := 0) (by decide) (by decide) (by decide) (by decide)
theorem pr101 : Pr 101 := pr_of (k := 4) (by decide) (by decide +kernel) (by decide) (by decide)
theorem prBig : Pr 1000000007 := pr_of (k := 15) (by decide) (by decide +kernel) (by decide) (by decide)
def primes : List Nat := [2, 3, 5, 7, 101, 1000000007]
theorem pr_mem {p : Nat} (h : p ∈ primes) : Pr p := by
  simp only [primes, List.mem_cons, List.not_mem_nil, or_false] at h
  rcases h with rfl | rfl | rfl | rfl | rfl | rfl
  · exact pr2
  · exact pr3
  · exact pr5
  · exact pr7
  · exact pr101
  · exact prBig
/-- the inverse -/
theorem inv_mul {p a : Nat} (pr : Pr p) (h : a % p ≠ 0) : a * (a ^ (p - 2) % p) % p = 1 := by
  have p2 := pr.1
  have f := fermat pr h
  rw [Nat.mul_mod, Nat.mod_mod, ← Nat.mul_mod, Nat.mul_comm, ← Nat.pow_succ, show (p - 2).succ = p - 1 by omega]
  exact f
end M2
set_option Elab.async false
set_option linter.all false
set_option maxRecDepth 100000
set_option maxHeartbeats 2000000
namespace M2
/-! spans modulo p -/
abbrev Vec := Nat → Int
inductive Sp (p : Nat) (S : List Vec) : Vec → Prop
  | zero {v : Vec} (h : ∀ i, (p : Int) ∣ v i) : Sp p S v
  | add {v w r : Vec} (hr : r ∈ S) (c : Int) (hv : Sp p S v) (h : ∀ i, (p : Int) ∣ w i - (v i + c * r i)) : Sp p S w
section
variable {p : Nat} {S T : List Vec} {v w r : Vec}
theorem dvd_of_sub {a b : Int} (h : (p : Int) ∣ a - b) (hb : (p : Int) ∣ b) : (p : Int) ∣ a := by
  have := Int.dvd_add h hb
  rwa [Int.sub_add_cancel] at this
theorem dvd_swap {a b : Int} (h : (p : Int) ∣ a - b) : (p : Int) ∣ b - a := by
  have := Int.dvd_neg.mpr h
  rwa [Int.neg_sub] at this
theorem dmr {a : Int} (k : Int) (h : (p : Int) ∣ a) : (p : Int) ∣ k * a := Int.dvd_trans h (Int.dvd_mul_left k a)
theorem dml {a : Int} (k : Int) (h : (p : Int) ∣ a) : (p : Int) ∣ a * k := Int.dvd_trans h (Int.dvd_mul_right a k)
theorem dvd_tr {a b c : Int} (h : (p : Int) ∣ a - b) (k : (p : Int) ∣ b - c) : (p : Int) ∣ a - c := by
  have := Int.dvd_add h k
  rwa [show a - b + (b - c) = a - c by omega] at this
theorem Sp.congr (hv : Sp p S v) (h : ∀ i, (p : Int) ∣ w i - v i) : Sp p S w := by
  cases hv with
  | zero z => exact .zero fun i => dvd_of_sub (h i) (z i)
  | add hr c hv z => exact .add hr c hv fun i => dvd_tr (h i) (z i)
theorem Sp.mem (hr : r ∈ S) : Sp p S r := .add (v := fun _ => 0) hr 1 (.zero fun _ => Int.dvd_zero _) fun i => by
  rw [Int.zero_add, Int.one_mul, Int.sub_self]
  exact Int.dvd_zero _
theorem Sp.plus (hv : Sp p S v) (hw : Sp p S w) : Sp p S (fun i => v i + w i) := by
  induction hw with
  | @zero v' z =>
    refine hv.congr fun i => ?_
    rw [show v i + v' i - v i = v' i by omega]
    exact z i
  | @add v' w' r' hr c _ z ih =>
    refine .add hr c ih fun i => ?_
    have := z i
    rwa [show v i + w' i - (v i + v' i + c * r' i) = w' i - (v' i + c * r' i) by omega]
theorem Sp.times (k : Int) (hv : Sp p S v) : Sp p S (fun i => k * v i) := by
  induction hv with
  | zero z => exact .zero fun i => dmr k (z i)
  | add hr c _ z ih =>
    refine .add hr (k * c) ih fun i => ?_
    have := dmr k (z i)
    rwa [Int.mul_sub, Int.mul_add, ← Int.mul_assoc] at this
theorem Sp.trans (h : ∀ r ∈ S, Sp p T r) (hv : Sp p S v) : Sp p T v := by
  induction hv with
  | zero z => exact .zero z
  | add hr c _ z ih => exact (ih.plus ((h _ hr).times c)).congr z
theorem Sp.lin {f : Vec → Int} (hf : ∀ (v w r : Vec) (c : Int), (∀ i, (p : Int) ∣ w i - (v i + c * r i)) → (p : Int) ∣ f w - (f v + c * f r)) (hz : ∀ v : Vec, (∀ i, (p : Int) ∣ v i) → (p : Int) ∣ f v)
    (hS : ∀ r ∈ S, (p : Int) ∣ f r) (hv : Sp p S v) : (p : Int) ∣ f v := by
  induction hv with
  | zero z => exact hz _ z
  | add hr c _ z ih => exact dvd_of_sub (hf _ _ _ _ z) (Int.dvd_add ih (dmr _ (hS _ hr)))
/-! reduction by a basis -/
abbrev Bas := List (Nat × Vec)
def rest : Bas → Vec → Vec
  | [], v => v
  | (k, l) :: B, v => rest B fun i => v i - v k * l i
theorem rest_lin : ∀ {B : Bas} {v w r : Vec} {c : Int}, (∀ i, (p : Int) ∣ w i - (v i + c * r i)) → ∀ i, (p : Int) ∣ rest B w i - (rest B v i + c * rest B r i)
  | [], _, _, _, _, h => h
  | (k, l) :: B, v, w, r, c, h => rest_lin (B := B) fun i => by
    have h1 := h i
    have h2 := dml (l i) (h k)
    have h3 := Int.dvd_sub h1 h2
    rwa [show w i - (v i + c * r i) - (w k - (v k + c * r k)) * l i = w i - w k * l i - (v i - v k * l i + c * (r i - r k * l i)) from by
      rw [Int.sub_mul, Int.add_mul, Int.mul_sub, Int.mul_assoc]
      omega] at h3
theorem rest_zero : ∀ {B : Bas} {v : Vec}, (∀ i, (p : Int) ∣ v i) → ∀ i, (p : Int) ∣ rest B v i
  | [], _, h => h
  | (k, l) :: B, v, h => rest_zero (B := B) fun i => Int.dvd_sub (h i) (dml _ (h k))
theorem rest_congr {B : Bas} (h : ∀ i, (p : Int) ∣ w i - v i) (i : Nat) : (p : Int) ∣ rest B w i - rest B v i := by
  have e := rest_lin (B := B) (v := v) (w := w) (r := fun _ => 0) (c := 0) (fun i => by rw [Int.mul_zero, Int.add_zero]; exact h i) i
  rwa [Int.zero_mul, Int.add_zero] at e
structure Tri (p : Nat) (B : Bas) : Prop where
  one : ∀ a ∈ B, (p : Int) ∣ a.2 a.1 - 1
  low : B.Pairwise fun a b => (p : Int) ∣ b.2 a.1
theorem Tri.tail {a : Nat × Vec} {B : Bas} (h : Tri p (a :: B)) : Tri p B := ⟨fun b hb => h.one b (List.mem_cons_of_mem _ hb), (List.pairwise_cons.mp h.low).2⟩
theorem rest_keep : ∀ {B : Bas} {v : Vec} {k : Nat}, (∀ b ∈ B, (p : Int) ∣ b.2 k) → (p : Int) ∣ rest B v k - v k
  | [], v, k, _ => by show (p : Int) ∣ v k - v k; rw [Int.sub_self]; exact Int.dvd_zero _
  | (j, l) :: B, v, k, h => by
    have e := rest_keep (B := B) (v := fun i => v i - v j * l i) (k := k) fun b hb => h b (List.mem_cons_of_mem _ hb)
    refine dvd_tr e ?_
    have h1 : (p : Int) ∣ v j * l k := dmr _ (h (j, l) List.mem_cons_self)
    rw [show v k - v j * l k - v k = -(v j * l k) by omega]
    exact Int.dvd_neg.mpr h1
theorem rest_at : ∀ {B : Bas}, Tri p B → ∀ {v : Vec} (a : Nat × Vec), a ∈ B → (p : Int) ∣ rest B v a.1
  | (j, l) :: B, t, v, a, ha => by
    rcases List.mem_cons.mp ha with rfl | ha
    · refine dvd_of_sub (rest_keep (B := B) fun b hb => (List.pairwise_cons.mp t.low).1 b hb) ?_
      have h1 := dmr (v j) (t.one (j, l) List.mem_cons_self)
      have h2 := Int.dvd_neg.mpr h1
      rwa [show -(v j * (l j - 1)) = v j - v j * l j by rw [Int.mul_sub]; omega] at h2
    · exact rest_at t.tail a ha
theorem rest_self : ∀ {B : Bas}, Tri p B → ∀ a ∈ B, ∀ i, (p : Int) ∣ rest B a.2 i
  | (j, l) :: B, t, a, ha => by
    rcases List.mem_cons.mp ha with rfl | ha
    · refine rest_zero (B := B) fun i => ?_
      have h1 := dml (l i) (t.one (j, l) List.mem_cons_self)
      have h2 := Int.dvd_neg.mpr h1
      rwa [show -((l j - 1) * l i) = l i - l j * l i by rw [Int.sub_mul]; omega] at h2
    · intro i
      have z := (List.pairwise_cons.mp t.low).1 a ha
      refine dvd_of_sub (rest_congr (B := B) (v := a.2) (fun i => ?_) i) (rest_self t.tail a ha i)
      rw [show a.2 i - a.2 j * l i - a.2 i = -(a.2 j * l i) by omega]
      exact Int.dvd_neg.mpr (dml _ z)
theorem rest_span {B : Bas} (t : Tri p B) (hv : Sp p (B.map (·.2)) v) (i : Nat) : (p : Int) ∣ rest B v i :=
  hv.lin (f := fun v => rest B v i) (fun v w r c h => rest_lin h i) (fun v h => rest_zero h i) fun r hr => by
    obtain ⟨a, ha, rfl⟩ := List.mem_map.mp hr
    exact rest_self t a ha i
theorem rest_diff : ∀ {B : Bas} {v : Vec}, Sp p (B.map (·.2)) fun i => v i - rest B v i
  | [], v => .zero fun i => by show (p : Int) ∣ v i - v i; rw [Int.sub_self]; exact Int.dvd_zero _
  | (j, l) :: B, v => by
    have ih := rest_diff (B := B) (v := fun i => v i - v j * l i)
    have up : Sp p (((j, l) :: B).map (·.2)) fun i => (v i - v j * l i) - rest B (fun i => v i - v j * l i) i := ih.trans fun r hr => .mem (List.mem_cons_of_mem _ hr)
    refine .add (r := l) List.mem_cons_self (v j) up fun i => ?_
    show (p : Int) ∣ v i - rest B (fun i => v i - v j * l i) i - (v i - v j * l i - rest B (fun i => v i - v j * l i) i + v j * l i)
    rw [show ∀ a b c : Int, a - b - (a - c - b + c) = 0 from fun a b c => by omega]
    exact Int.dvd_zero _
theorem rest_none : ∀ {B : Bas} {v : Vec}, (∀ b ∈ B, (p : Int) ∣ v b.1) → ∀ i, (p : Int) ∣ rest B v i - v i
  | [], v, _ => fun i => by show (p : Int) ∣ v i - v i; rw [Int.sub_self]; exact Int.dvd_zero _
  | (j, l) :: B, v, h => fun i => by
    have z := h (j, l) List.mem_cons_self
    have sm : ∀ i, (p : Int) ∣ (v i - v j * l i) - v i := fun i => by
      rw [show v i - v j * l i - v i = -(v j * l i) by omega]
      exact Int.dvd_neg.mpr (dml _ z)
    refine dvd_tr (rest_none (B := B) (v := fun i => v i - v j * l i) (fun b hb => dvd_of_sub (sm b.1) (h b (List.mem_cons_of_mem _ hb))) i) (sm i)
/-! leads -/
def Lead (p : Nat) (v : Vec) (j : Nat) : Prop := ¬ (p : Int) ∣ v j ∧ ∀ i, i < j → (p : Int) ∣ v i
def Led (p : Nat) (B : Bas) : Prop := ∀ a ∈ B, ∀ i, i < a.1 → (p : Int) ∣ a.2 i
theorem rest_lead : ∀ {B : Bas}, Led p B → ∀ {v : Vec} {j : Nat}, (∀ i, i < j → (p : Int) ∣ v i) → j ∉ B.map (·.1) → (p : Int) ∣ rest B v j - v j
  | [], _, v, j, _, _ => by show (p : Int) ∣ v j - v j; rw [Int.sub_self]; exact Int.dvd_zero _
  | (k, l) :: B, ld, v, j, h, nj => by
    have nk : j ≠ k := fun z => nj (by rw [z]; exact List.mem_cons_self)
    have sm : ∀ i, i ≤ j → (p : Int) ∣ (v i - v k * l i) - v i := fun i hi => by
      rw [show v i - v k * l i - v i = -(v k * l i) by omega]
      refine Int.dvd_neg.mpr ?_
      rcases Nat.lt_or_ge k j with z | z
      · exact dml _ (h k z)
      · exact dmr _ (ld (k, l) List.mem_cons_self i (by show i < k; omega))
    refine dvd_tr (rest_lead (B := B) (fun a ha => ld a (List.mem_cons_of_mem _ ha)) (v := fun i => v i - v k * l i) (fun i hi => dvd_of_sub (sm i (by omega)) (h i hi)) fun z => nj (List.mem_cons_of_mem _ z)) (sm j (Nat.le_refl _))
theorem lead_mem {B : Bas} (t : Tri p B) (ld : Led p B) (hv : Sp p (B.map (·.2)) v) {j : Nat} (h : Lead p v j) : j ∈ B.map (·.1) := by
  rcases Classical.em (j ∈ B.map (·.1)) with z | z
  · exact z
  · exact absurd (dvd_of_sub (dvd_swap (rest_lead ld h.2 z)) (rest_span t hv j)) h.1
theorem mem_lead {B : Bas} (p2 : 2 ≤ p) (t : Tri p B) (ld : Led p B) (a : Nat × Vec) (ha : a ∈ B) : Lead p a.2 a.1 := ⟨fun z => by
    have h := Int.dvd_sub z (t.one a ha)
    rw [show a.2 a.1 - (a.2 a.1 - 1) = 1 by omega] at h
    have := Int.le_of_dvd (by decide) h
    omega, ld a ha⟩
/-- the leads of a span -/
theorem leads_iff {B : Bas} (p2 : 2 ≤ p) (t : Tri p B) (ld : Led p B) (e : ∀ v, Sp p (B.map (·.2)) v ↔ Sp p S v) (j : Nat) : j ∈ B.map (·.1) ↔ ∃ v, Sp p S v ∧ Lead p v j := by
  constructor
  · intro h
    obtain ⟨a, ha, rfl⟩ := List.mem_map.mp h
    exact ⟨a.2, (e _).mp (.mem (List.mem_map.mpr ⟨a, ha, rfl⟩)), mem_lead p2 t ld a ha⟩
  · rintro ⟨v, hv, hl⟩
    exact lead_mem t ld ((e _).mpr hv) hl
theorem tri_nodup (p2 : 2 ≤ p) : ∀ {B : Bas}, Tri p B → (B.map (·.1)).Nodup
  | [], _ => List.nodup_nil
  | a :: B, t => by
    rw [List.map_cons, List.nodup_cons]
    refine ⟨fun h => ?_, tri_nodup p2 t.tail⟩
    obtain ⟨b, hb, e⟩ := List.mem_map.mp h
    have z := (List.pairwise_cons.mp t.low).1 b hb
    rw [← e] at z
    have h2 := Int.dvd_sub z (t.one b (List.mem_cons_of_mem _ hb))
    rw [show b.2 b.1 - (b.2 b.1 - 1) = 1 by omega] at h2
    have := Int.le_of_dvd (by decide) h2
    omega
theorem same_rank {B D : Bas} (p2 : 2 ≤ p) (t : Tri p B) (ld : Led p B) (e : ∀ v, Sp p (B.map (·.2)) v ↔ Sp p S v) (t' : Tri p D) (ld' : Led p D) (e' : ∀ v, Sp p (D.map (·.2)) v ↔ Sp p S v) : B.length = D.length := by
  have pm := (List.perm_ext_iff_of_nodup (tri_nodup p2 t) (tri_nodup p2 t')).mpr fun j => (leads_iff p2 t ld e j).trans (leads_iff p2 t' ld' e' j).symm
  have := pm.length_eq
  rwa [List.length_map, List.length_map] at this
theorem asc_nodup {l : List Nat} (h : l.Pairwise (· < ·)) : l.Nodup := h.imp fun h => Nat.ne_of_lt h
theorem asc_eq {l m : List Nat} (h : l.Pairwise (· < ·)) (k : m.Pairwise (· < ·)) (e : ∀ j, j ∈ l ↔ j ∈ m) : l = m :=
  List.Perm.eq_of_pairwise (le := (· < ·)) (fun a b _ _ h k => absurd h (Nat.lt_asymm k)) h k ((List.perm_ext_iff_of_nodup (asc_nodup h) (asc_nodup k)).mpr e)
/-- two vectors of a span, alike at all places of its full basis -/
theorem same_vec {D : Bas} (t : Tri p D) (e : ∀ v, Sp p (D.map (·.2)) v ↔ Sp p S v) (hv : Sp p S v) (hw : Sp p S w) (h : ∀ b ∈ D, (p : Int) ∣ v b.1 - w b.1) (i : Nat) : (p : Int) ∣ v i - w i := by
  have hd : Sp p S fun i => v i - w i := (hv.plus (hw.times (-1))).congr fun i => by
    rw [show v i - w i - (v i + -1 * w i) = 0 by omega]
    exact Int.dvd_zero _
  have z := rest_span t ((e _).mpr hd) i
  exact dvd_of_sub (dvd_swap (rest_none (B := D) (v := fun i => v i - w i) h i)) z
/-- projections -/
theorem Sp.proj {n : Nat} (h : ∀ r ∈ S, ∃ r' ∈ T, ∀ i, i < n → r' i = r i) (hv : Sp p S v) : ∃ v', Sp p T v' ∧ ∀ i, i < n → (p : Int) ∣ v' i - v i := by
  induction hv with
  | zero z => exact ⟨fun _ => 0, .zero fun _ => Int.dvd_zero _, fun i _ => by rw [Int.zero_sub]; exact Int.dvd_neg.mpr (z i)⟩
  | @add v w r hr c _ z ih =>
    obtain ⟨v', hv', e⟩ := ih
    obtain ⟨r', hr', e2⟩ := h _ hr
    refine ⟨fun i => v' i + c * r' i, .add hr' c hv' fun i => by rw [Int.sub_self]; exact Int.dvd_zero _, fun i hi => ?_⟩
    show (p : Int) ∣ v' i + c * r' i - w i
    rw [e2 i hi]
    have h1 := e i hi
    have h2 := dvd_swap (z i)
    have := Int.dvd_add h1 h2
    rwa [show v' i - v i + (v i + c * r i - w i) = v' i + c * r i - w i by omega] at this
end
end M2
set_option Elab.async false
set_option linter.all false
set_option maxRecDepth 100000
set_option maxHeartbeats 2000000
namespace M2
/-! the reduction, column by column, over lists -/
def ev (r : List Int) : Vec := fun i => r.getD i 0
theorem ev_at {r : List Int} {i : Nat} (h : i < r.length) : ev r i = r[i] := by
  unfold ev
  rw [List.getD_eq_getElem?_getD, List.getElem?_eq_getElem h]
  rfl
theorem ev_out {r : List Int} {i : Nat} (h : r.length ≤ i) : ev r i = 0 := by
  unfold ev
  rw [List.getD_eq_getElem?_getD, List.getElem?_eq_none h]
  rfl
theorem ev_map {g : Int → Int} (g0 : g 0 = 0) (r : List Int) (i : Nat) : ev (r.map g) i = g (ev r i) := by
  unfold ev
  rw [List.getD_eq_getElem?_getD, List.getD_eq_getElem?_getD, List.getElem?_map]
  cases r[i]? with
  | none => exact g0.symm
  | some x => rfl
theorem ev_zip {g : Int → Int → Int} (g0 : g 0 0 = 0) {r s : List Int} (h : r.length = s.length) (i : Nat) : ev (List.zipWith g r s) i = g (ev r i) (ev s i) := by
  rcases Nat.lt_or_ge i r.length with z | z
  · have h1 : i < (List.zipWith g r s).length := by rw [List.length_zipWith]; omega
    rw [ev_at h1, ev_at z, ev_at (show i < s.length by omega), List.getElem_zipWith]
  · have h1 : (List.zipWith g r s).length ≤ i := by rw [List.length_zipWith]; omega
    rw [ev_out h1, ev_out z, ev_out (show s.length ≤ i by omega), g0]
theorem ev_ext {r s : List Int} (h : r.length = s.length) (e : ∀ i, ev r i = ev s i) : r = s :=
  List.ext_getElem h fun i h1 h2 => by rw [← ev_at h1, ← ev_at h2, e i]
def Rng (p n : Nat) (r : List Int) : Prop := r.length = n ∧ ∀ x ∈ r, 0 ≤ x ∧ x < (p : Int)
theorem Rng.at {p n : Nat} (hp : 0 < p) {r : List Int} (h : Rng p n r) (i : Nat) : 0 ≤ ev r i ∧ ev r i < (p : Int) := by
  rcases Nat.lt_or_ge i r.length with z | z
  · rw [ev_at z]
    exact h.2 _ (List.getElem_mem z)
  · rw [ev_out z]
    omega
theorem Rng.out {p n : Nat} {r : List Int} (h : Rng p n r) {i : Nat} (hi : n ≤ i) : ev r i = 0 := ev_out (by rw [h.1]; exact hi)
theorem Rng.eq {p n : Nat} (hp : 0 < p) {r s : List Int} (h : Rng p n r) (k : Rng p n s) (e : ∀ i, (p : Int) ∣ ev r i - ev s i) : r = s := by
  refine ev_ext (h.1.trans k.1.symm) fun i => ?_
  have h1 := h.at hp i
  have h2 := k.at hp i
  have d := e i
  rcases Int.lt_trichotomy (ev r i) (ev s i) with z | z | z
  · have := Int.le_of_dvd (by omega) (dvd_swap d)
    omega
  · exact z
  · have := Int.le_of_dvd (by omega) d
    omega
def inv (p : Nat) (x : Int) : Int := ((x.toNat ^ (p - 2) % p : Nat) : Int)
theorem inv_one {p : Nat} (pr : Pr p) {x : Int} (h0 : 0 < x) (h1 : x < (p : Int)) : x * inv p x % (p : Int) = 1 := by
  obtain ⟨a, rfl⟩ := Int.eq_ofNat_of_zero_le (Int.le_of_lt h0)
  have e := inv_mul (a := a) pr (by rw [Nat.mod_eq_of_lt (by omega)]; omega)
  unfold inv
  rw [Int.toNat_natCast, ← Int.natCast_mul, ← Int.natCast_emod, e]
  rfl
def scaledL (p c : Nat) (r : List Int) : List Int := r.map fun x => x * inv p (ev r c) % (p : Int)
def clearedL (p c : Nat) (piv r : List Int) : List Int := if ev r c = 0 then r else List.zipWith (fun x y => (x - ev r c * y) % (p : Int)) r piv
section
variable {p n c : Nat}
theorem mod_rng (hp : 0 < p) (x : Int) : 0 ≤ x % (p : Int) ∧ x % (p : Int) < (p : Int) := ⟨Int.emod_nonneg _ (by omega), Int.emod_lt_of_pos _ (by omega)⟩
theorem scaled_rng (hp : 0 < p) {r : List Int} (h : r.length = n) : Rng p n (scaledL p c r) := by
  refine ⟨by unfold scaledL; rw [List.length_map]; exact h, fun x hx => ?_⟩
  obtain ⟨y, _, rfl⟩ := List.mem_map.mp hx
  exact mod_rng hp _
theorem scaled_ev (r : List Int) (i : Nat) : ev (scaledL p c r) i = ev r i * inv p (ev r c) % (p : Int) := ev_map (by simp) r i
theorem cleared_rng (hp : 0 < p) {piv r : List Int} (h : Rng p n r) (k : Rng p n piv) : Rng p n (clearedL p c piv r) := by
  unfold clearedL
  split
  · exact h
  · refine ⟨by rw [List.length_zipWith, h.1, k.1]; omega, fun x hx => ?_⟩
    obtain ⟨i, hi, rfl⟩ := List.mem_iff_getElem.mp hx
    rw [List.getElem_zipWith]
    exact mod_rng hp _
theorem cleared_ev (hp : 0 < p) {piv r : List Int} (h : Rng p n r) (k : Rng p n piv) (i : Nat) : ev (clearedL p c piv r) i = (ev r i - ev r c * ev piv i) % (p : Int) := by
  unfold clearedL
  split
  · rename_i z
    rw [z, Int.zero_mul, Int.sub_zero, Int.emod_eq_of_lt (h.at hp i).1 (h.at hp i).2]
  · exact ev_zip (by simp) (h.1.trans k.1.symm) i
abbrev Done := List (Nat × List Int)
def at? (c : Nat) (L : List (List Int)) : Option Nat := L.findIdx? fun r => ev r c != 0
def stepL (p c : Nat) (st : List (List Int) × Done) : List (List Int) × Done :=
  match at? c st.1 with
  | none => st
  | some k => ((st.1.eraseIdx k).map (clearedL p c (scaledL p c (st.1.getD k []))), (st.2.map fun d => (d.1, clearedL p c (scaledL p c (st.1.getD k [])) d.2)) ++ [(c, scaledL p c (st.1.getD k []))])
def stAt (p : Nat) (R : List (List Int)) : Nat → List (List Int) × Done
  | 0 => (R.map fun r => r.map fun x => x % (p : Int), [])
  | c + 1 => stepL p c (stAt p R c)
structure St (p n c : Nat) (L : List (List Int)) (D : Done) (S : List Vec) : Prop where
  rl : ∀ r ∈ L, Rng p n r
  rd : ∀ d ∈ D, Rng p n d.2
  zl : ∀ r ∈ L, ∀ i, i < c → ev r i = 0
  pv : ∀ d ∈ D, d.1 < c ∧ ev d.2 d.1 = 1 ∧ ∀ i, i < d.1 → ev d.2 i = 0
  fl : ∀ a ∈ D, ∀ b ∈ D, a.1 ≠ b.1 → ev b.2 a.1 = 0
  asc : (D.map (·.1)).Pairwise (· < ·)
  sp : ∀ v, Sp p (L.map ev ++ D.map fun d => ev d.2) v ↔ Sp p S v
theorem emod_dvd (x : Int) : (p : Int) ∣ x % (p : Int) - x := by
  have := Int.dvd_self_sub_emod (x := x) (m := (p : Int))
  exact dvd_swap this
theorem st0 (hp : 0 < p) {R : List (List Int)} (h : ∀ r ∈ R, r.length = n) : St p n 0 (stAt p R 0).1 (stAt p R 0).2 (R.map ev) := by
  have e : ∀ r : List Int, ∀ i, (p : Int) ∣ ev (r.map fun x => x % (p : Int)) i - ev r i := fun r i => by
    rw [ev_map (by simp)]
    exact emod_dvd _
  refine ⟨fun r hr => ?_, fun d hd => (List.not_mem_nil hd).elim, fun r _ i hi => absurd hi (Nat.not_lt_zero _), fun d hd => (List.not_mem_nil hd).elim, fun d hd => (List.not_mem_nil hd).elim, .nil, fun v => ⟨fun hv => ?_, fun hv => ?_⟩⟩
  · obtain ⟨s, hs, rfl⟩ := List.mem_map.mp hr
    refine ⟨by rw [List.length_map]; exact h s hs, fun x hx => ?_⟩
    obtain ⟨y, _, rfl⟩ := List.mem_map.mp hx
    exact mod_rng hp _
  · refine hv.trans fun r hr => ?_
    have hr : r ∈ ((R.map fun r => r.map fun x => x % (p : Int)).map ev ++ []) := hr
    rw [List.append_nil] at hr
    obtain ⟨s, hs, rfl⟩ := List.mem_map.mp hr
    obtain ⟨t, ht, rfl⟩ := List.mem_map.mp hs
    exact (Sp.mem (List.mem_map.mpr ⟨t, ht, rfl⟩)).congr (e t)
  · refine hv.trans fun r hr => ?_
    obtain ⟨t, ht, rfl⟩ := List.mem_map.mp hr
    refine (Sp.mem (r := ev (t.map fun x => x % (p : Int))) ?_).congr fun i => dvd_swap (e t i)
    show _ ∈ ((R.map fun r => r.map fun x => x % (p : Int)).map ev ++ [])
    rw [List.append_nil]
    exact List.mem_map.mpr ⟨_, List.mem_map.mpr ⟨t, ht, rfl⟩, rfl⟩
theorem at_none {L : List (List Int)} (h : at? c L = none) : ∀ r ∈ L, ev r c = 0 := fun r hr => by
  have := (List.findIdx?_eq_none_iff.mp h) r hr
  simpa using this
theorem at_some {L : List (List Int)} {k : Nat} (h : at? c L = some k) : ∃ hk : k < L.length, ev L[k] c ≠ 0 := by
  obtain ⟨hk, h1, _⟩ := List.findIdx?_eq_some_iff_getElem.mp h
  exact ⟨hk, by simpa using h1⟩
theorem step_ok (pr : Pr p) {L : List (List Int)} {D : Done} {S : List Vec} (h : St p n c L D S) : St p n (c + 1) (stepL p c (L, D)).1 (stepL p c (L, D)).2 S := by
  have hp : 0 < p := by have := pr.1; omega
  unfold stepL
  cases hat : at? c L with
  | none =>
    have z := at_none hat
    refine ⟨h.rl, h.rd, fun r hr i hi => ?_, fun d hd => ⟨Nat.lt_succ_of_lt (h.pv d hd).1, (h.pv d hd).2⟩, h.fl, h.asc, h.sp⟩
    rcases Nat.lt_or_ge i c with q | q
    · exact h.zl r hr i q
    · have : i = c := by omega
      rw [this]
      exact z r hr
  | some k =>
    obtain ⟨hk, hx⟩ := at_some hat
    have eg : L.getD k [] = L[k] := by rw [List.getD_eq_getElem?_getD, List.getElem?_eq_getElem hk]; rfl
    show St p n (c + 1) ((L.eraseIdx k).map (clearedL p c (scaledL p c (L.getD k [])))) ((D.map fun d => (d.1, clearedL p c (scaledL p c (L.getD k [])) d.2)) ++ [(c, scaledL p c (L.getD k []))]) S
    rw [eg]
    have m0 : L[k] ∈ L := List.getElem_mem hk
    have r0 := h.rl _ m0
    generalize hq : L[k] = q at *
    have rp : Rng p n (scaledL p c q) := scaled_rng hp r0.1
    have x0 := r0.at hp c
    have xi : ev q c * inv p (ev q c) % (p : Int) = 1 := inv_one pr (by omega) x0.2
    have p1 : ev (scaledL p c q) c = 1 := by rw [scaled_ev]; exact xi
    have pz : ∀ i, i < c → ev (scaledL p c q) i = 0 := fun i hi => by
      rw [scaled_ev, h.zl q m0 i hi]
      simp
    generalize hpiv : scaledL p c q = piv at *
    have me : ∀ r ∈ L.eraseIdx k, r ∈ L := fun r hr => List.mem_of_mem_eraseIdx hr
    have keep : ∀ {r : List Int}, Rng p n r → ∀ i, i < c → ev (clearedL p c piv r) i = ev r i := fun {r} hr i hi => by
      rw [cleared_ev hp hr rp, pz i hi, Int.mul_zero, Int.sub_zero, Int.emod_eq_of_lt (hr.at hp i).1 (hr.at hp i).2]
    have here : ∀ {r : List Int}, Rng p n r → ev (clearedL p c piv r) c = 0 := fun {r} hr => by
      rw [cleared_ev hp hr rp, p1, Int.mul_one, Int.sub_self]
      simp
    have cong : ∀ {r : List Int}, Rng p n r → ∀ i, (p : Int) ∣ ev (clearedL p c piv r) i - (ev r i - ev r c * ev piv i) := fun {r} hr i => by
      rw [cleared_ev hp hr rp]
      exact emod_dvd _
    have scong : ∀ i, (p : Int) ∣ ev piv i - ev q i * inv p (ev q c) := fun i => by
      rw [← hpiv, scaled_ev]
      exact emod_dvd _
    refine ⟨fun r hr => ?_, fun d hd => ?_, fun r hr i hi => ?_, fun d hd => ?_, fun a ha b hb ne => ?_, ?_, fun v => ?_⟩
    · obtain ⟨s, hs, rfl⟩ := List.mem_map.mp hr
      exact cleared_rng hp (h.rl s (me s hs)) rp
    · rcases List.mem_append.mp hd with hd | hd
      · obtain ⟨s, hs, rfl⟩ := List.mem_map.mp hd
        exact cleared_rng hp (h.rd s hs) rp
      · rw [List.mem_singleton.mp hd]
        exact rp
    · obtain ⟨s, hs, rfl⟩ := List.mem_map.mp hr
      have rs := h.rl s (me s hs)
      rcases Nat.lt_or_ge i c with z | z
      · rw [keep rs i z]
        exact h.zl s (me s hs) i z
      · have : i = c := by omega
        rw [this]
        exact here rs
    · rcases List.mem_append.mp hd with hd | hd
      · obtain ⟨s, hs, rfl⟩ := List.mem_map.mp hd
        obtain ⟨h1, h2, h3⟩ := h.pv s hs
        refine ⟨Nat.lt_succ_of_lt h1, ?_, fun i hi => ?_⟩
        · rw [keep (h.rd s hs) s.1 h1]
          exact h2
        · rw [keep (h.rd s hs) i (Nat.lt_trans hi h1)]
          exact h3 i hi
      · rw [List.mem_singleton.mp hd]
        exact ⟨Nat.lt_succ_self _, p1, pz⟩
    · rcases List.mem_append.mp ha with ha | ha <;> rcases List.mem_append.mp hb with hb | hb
      · obtain ⟨s, hs, rfl⟩ := List.mem_map.mp ha
        obtain ⟨t, ht, rfl⟩ := List.mem_map.mp hb
        show ev (clearedL p c piv t.2) s.1 = 0
        rw [keep (h.rd t ht) s.1 (h.pv s hs).1]
        exact h.fl s hs t ht ne
      · obtain ⟨s, hs, rfl⟩ := List.mem_map.mp ha
        rw [List.mem_singleton.mp hb]
        exact pz s.1 (h.pv s hs).1
      · obtain ⟨t, ht, rfl⟩ := List.mem_map.mp hb
        rw [List.mem_singleton.mp ha]
        exact here (h.rd t ht)
      · rw [List.mem_singleton.mp ha, List.mem_singleton.mp hb] at ne
        exact absurd rfl ne
    · rw [List.map_append, List.map_map, List.pairwise_append]
      refine ⟨h.asc, List.pairwise_singleton _ _, fun a ha b hb => ?_⟩
      obtain ⟨s, hs, rfl⟩ := List.mem_map.mp ha
      have : b = c := by simpa using hb
      rw [this]
      exact (h.pv s hs).1
    · rw [← h.sp v]
      have inPiv : Sp p ((L.eraseIdx k).map (clearedL p c piv) |>.map ev |>.append ((((D.map fun d => (d.1, clearedL p c piv d.2)) ++ [(c, piv)]).map fun d => ev d.2))) (ev piv) :=
        Sp.mem (List.mem_append.mpr (.inr (List.mem_map.mpr ⟨(c, piv), List.mem_append.mpr (.inr List.mem_cons_self), rfl⟩)))
      have back : ∀ {r : List Int}, Rng p n r → Sp p (((L.eraseIdx k).map (clearedL p c piv)).map ev ++ ((D.map fun d => (d.1, clearedL p c piv d.2)) ++ [(c, piv)]).map fun d => ev d.2) (ev (clearedL p c piv r)) → Sp p (((L.eraseIdx k).map (clearedL p c piv)).map ev ++ ((D.map fun d => (d.1, clearedL p c piv d.2)) ++ [(c, piv)]).map fun d => ev d.2) (ev r) := fun {r} hr hs => by
        refine (hs.plus (Sp.times (ev r c) inPiv)).congr fun i => ?_
        have := dvd_swap (cong hr i)
        rwa [show ev r i - ev r c * ev piv i - ev (clearedL p c piv r) i = ev r i - (ev (clearedL p c piv r) i + ev r c * ev piv i) by omega] at this
      constructor
      · intro hv
        refine hv.trans fun r hr => ?_
        have old0 : Sp p (L.map ev ++ D.map fun d => ev d.2) (ev q) := Sp.mem (List.mem_append.mpr (.inl (List.mem_map.mpr ⟨q, m0, rfl⟩)))
        have oldP : Sp p (L.map ev ++ D.map fun d => ev d.2) (ev piv) := (old0.times (inv p (ev q c))).congr fun i => by
          rw [Int.mul_comm]
          exact scong i
        have clr : ∀ {s : List Int}, Rng p n s → Sp p (L.map ev ++ D.map fun d => ev d.2) (ev s) → Sp p (L.map ev ++ D.map fun d => ev d.2) (ev (clearedL p c piv s)) := fun {s} hs ss =>
          (ss.plus (oldP.times (-(ev s c)))).congr fun i => by
            rw [Int.neg_mul]
            exact cong hs i
        rcases List.mem_append.mp hr with hr | hr
        · obtain ⟨s, hs, rfl⟩ := List.mem_map.mp hr
          obtain ⟨t, ht, rfl⟩ := List.mem_map.mp hs
          exact clr (h.rl t (me t ht)) (Sp.mem (List.mem_append.mpr (.inl (List.mem_map.mpr ⟨t, me t ht, rfl⟩))))
        · obtain ⟨s, hs, rfl⟩ := List.mem_map.mp hr
          rcases List.mem_append.mp hs with hs | hs
          · obtain ⟨t, ht, rfl⟩ := List.mem_map.mp hs
            exact clr (h.rd t ht) (Sp.mem (List.mem_append.mpr (.inr (List.mem_map.mpr ⟨t, ht, rfl⟩))))
          · rw [List.mem_singleton.mp hs]
            exact oldP
      · intro hv
        refine hv.trans fun r hr => ?_
        rcases List.mem_append.mp hr with hr | hr
        · obtain ⟨s, hs, rfl⟩ := List.mem_map.mp hr
          rcases Classical.em (s = q) with e | e
          · subst e
            refine (Sp.times (ev s c) inPiv).congr fun i => ?_
            -- x * (q * inv) against q
            have h1 := dmr (ev s c) (scong i)
            have h2 : (p : Int) ∣ ev s c * inv p (ev s c) - 1 := by
              have := emod_dvd (p := p) (ev s c * inv p (ev s c))
              rw [xi] at this
              exact dvd_swap this
            have h3 := dml (ev s i) h2
            rw [Int.mul_sub] at h1
            rw [Int.sub_mul, Int.one_mul] at h3
            have h4 := Int.dvd_add h1 h3
            rw [show ev s c * (ev s i * inv p (ev s c)) = ev s c * inv p (ev s c) * ev s i by rw [Int.mul_comm (ev s i), Int.mul_assoc]] at h4
            rw [show ∀ a b d : Int, a - b + (b - d) = a - d from fun a b d => by omega] at h4
            exact dvd_swap h4
          · refine back (h.rl s hs) (Sp.mem (List.mem_append.mpr (.inl ?_)))
            refine List.mem_map.mpr ⟨_, List.mem_map.mpr ⟨s, ?_, rfl⟩, rfl⟩
            obtain ⟨j, hj, ej⟩ := List.mem_iff_getElem.mp hs
            refine List.mem_eraseIdx_iff_getElem.mpr ⟨j, hj, ?_, ej⟩
            intro z
            subst z
            exact e (ej.symm.trans hq)
        · obtain ⟨s, hs, rfl⟩ := List.mem_map.mp hr
          exact back (h.rd s hs) (Sp.mem (List.mem_append.mpr (.inr (List.mem_map.mpr ⟨_, List.mem_append.mpr (.inl (List.mem_map.mpr ⟨s, hs, rfl⟩)), rfl⟩))))
theorem st_at (pr : Pr p) {R : List (List Int)} (h : ∀ r ∈ R, r.length = n) : ∀ c, St p n c (stAt p R c).1 (stAt p R c).2 (R.map ev)
  | 0 => st0 (by have := pr.1; omega) h
  | c + 1 => step_ok pr (st_at pr h c)
def bas (D : Done) : Bas := D.map fun d => (d.1, ev d.2)
/-- what echelon leaves -/
structure Ech (p n : Nat) (D : Done) (S : List Vec) : Prop where
  rd : ∀ d ∈ D, Rng p n d.2
  pv : ∀ d ∈ D, d.1 < n ∧ ev d.2 d.1 = 1 ∧ ∀ i, i < d.1 → ev d.2 i = 0
  fl : ∀ a ∈ D, ∀ b ∈ D, a.1 ≠ b.1 → ev b.2 a.1 = 0
  asc : (D.map (·.1)).Pairwise (· < ·)
  sp : ∀ v, Sp p ((bas D).map (·.2)) v ↔ Sp p S v
theorem bas_snd (D : Done) : (bas D).map (·.2) = D.map fun d => ev d.2 := by unfold bas; rw [List.map_map]; rfl
theorem bas_fst (D : Done) : (bas D).map (·.1) = D.map (·.1) := by unfold bas; rw [List.map_map]; rfl
theorem ech (pr : Pr p) {R : List (List Int)} (h : ∀ r ∈ R, r.length = n) : Ech p n (stAt p R n).2 (R.map ev) := by
  have s := st_at pr h n
  refine ⟨s.rd, s.pv, s.fl, s.asc, fun v => ?_⟩
  rw [← s.sp v, bas_snd]
  constructor
  · exact fun hv => hv.trans fun r hr => .mem (List.mem_append.mpr (.inr hr))
  · refine fun hv => hv.trans fun r hr => ?_
    rcases List.mem_append.mp hr with hr | hr
    · obtain ⟨t, ht, rfl⟩ := List.mem_map.mp hr
      refine .zero fun i => ?_
      rcases Nat.lt_or_ge i n with z | z
      · rw [s.zl t ht i z]
        exact Int.dvd_zero _
      · rw [(s.rl t ht).out z]
        exact Int.dvd_zero _
    · exact .mem hr
variable {D D' : Done} {S : List Vec}
theorem Ech.tri (h : Ech p n D S) : Tri p (bas D) := by
  constructor
  · intro a ha
    obtain ⟨d, hd, rfl⟩ := List.mem_map.mp ha
    show (p : Int) ∣ ev d.2 d.1 - 1
    rw [(h.pv d hd).2.1]
    exact Int.dvd_zero _
  · unfold bas
    rw [List.pairwise_map]
    have a := h.asc
    rw [List.pairwise_map] at a
    refine a.imp_of_mem fun {x y} hx hy lt => ?_
    show (p : Int) ∣ ev y.2 x.1
    rw [h.fl x hx y hy (by omega)]
    exact Int.dvd_zero _
theorem Ech.led (h : Ech p n D S) : Led p (bas D) := fun a ha i hi => by
  obtain ⟨d, hd, rfl⟩ := List.mem_map.mp ha
  show (p : Int) ∣ ev d.2 i
  rw [(h.pv d hd).2.2 i hi]
  exact Int.dvd_zero _
/-- the form is the only one -/
theorem Ech.unique (p2 : 2 ≤ p) (h : Ech p n D S) (k : Ech p n D' S) : D.map (·.2) = D'.map (·.2) := by
  have hp : 0 < p := by omega
  have e1 : D.map (·.1) = D'.map (·.1) := asc_eq h.asc k.asc fun j => by
    rw [← bas_fst, ← bas_fst]
    exact (leads_iff p2 h.tri h.led h.sp j).trans (leads_iff p2 k.tri k.led k.sp j).symm
  have len : D.length = D'.length := by
    have := congrArg List.length e1
    rwa [List.length_map, List.length_map] at this
  refine List.ext_getElem (by rw [List.length_map, List.length_map]; exact len) fun i h1 h2 => ?_
  rw [List.length_map] at h1 h2
  rw [List.getElem_map, List.getElem_map]
  have m1 := List.getElem_mem h1
  have m2 := List.getElem_mem h2
  have ef : D[i].1 = D'[i].1 := by
    have := List.getElem_of_eq e1 (show i < (D.map (·.1)).length by rw [List.length_map]; exact h1)
    rwa [List.getElem_map, List.getElem_map] at this
  refine (h.rd _ m1).eq hp (k.rd _ m2) fun j => ?_
  have s1 : Sp p S (ev D[i].2) := (h.sp _).mp (.mem (by rw [bas_snd]; exact List.mem_map.mpr ⟨_, m1, rfl⟩))
  have s2 : Sp p S (ev D'[i].2) := (k.sp _).mp (.mem (by rw [bas_snd]; exact List.mem_map.mpr ⟨_, m2, rfl⟩))
  refine same_vec h.tri h.sp s1 s2 (fun b hb => ?_) j
  obtain ⟨d, hd, rfl⟩ := List.mem_map.mp hb
  show (p : Int) ∣ ev D[i].2 d.1 - ev D'[i].2 d.1
  have hd1 : d.1 ∈ D'.map (·.1) := e1 ▸ List.mem_map.mpr ⟨d, hd, rfl⟩
  obtain ⟨d', hd', ed⟩ := List.mem_map.mp hd1
  rcases Classical.em (d.1 = D[i].1) with z | z
  · rw [z, (h.pv _ m1).2.1, ef, (k.pv _ m2).2.1]
    exact Int.dvd_zero _
  · rw [h.fl d hd _ m1 z, ← ed, k.fl d' hd' _ m2 (by omega)]
    exact Int.dvd_zero _
end
end M2
set_option Elab.async false
set_option linter.all false
set_option maxRecDepth 100000
set_option maxHeartbeats 2000000
namespace Z
open PySem L2 PyProof.Rows ZX
/-! heaps that grow; tables may grow too -/
def Ext (H H' : Hp) : Prop := ∀ b o, H b = some o → (∀ ps, o ≠ .tbl ps) → H' b = some o
structure Gr (T : List Addr) (H H' : Hp) : Prop where
  ext : Ext H H'
  tab : ∀ P, GxR.TabG H P → GxR.TabG H' P
  stay : ∀ b, H' b = none → H b = none
def Tabs (T : List Addr) (H : Hp) : Prop := ∀ P ∈ T, GxR.TabG H P
theorem Ext.refl (H : Hp) : Ext H H := fun _ _ e _ => e
theorem Ext.trans {H H1 H2 : Hp} (a : Ext H H1) (b : Ext H1 H2) : Ext H H2 := fun c o e n => b c o (a c o e n) n
theorem Gr.refl (T : List Addr) (H : Hp) : Gr T H H := ⟨.refl H, fun _ h => h, fun _ h => h⟩
theorem Gr.trans {T : List Addr} {H H1 H2 : Hp} (a : Gr T H H1) (b : Gr T H1 H2) : Gr T H H2 := ⟨a.ext.trans b.ext, fun P h => b.tab P (a.tab P h), fun q h => a.stay q (b.stay q h)⟩
theorem Gr.same {T : List Addr} {H H' : Hp} (s : Same H H') : Gr T H H' := ⟨fun b o e _ => s b o e, fun P ⟨ps, e, t⟩ => ⟨ps, s P _ e, t⟩, fun b h => s.free h⟩
theorem Gr.tabbed {T : List Addr} {H H' : Hp} {P : Addr} (h : GxR.TabG H P) (t : GxR.Tabbed P H H') : Gr T H H' := by
  obtain ⟨ps, e, _⟩ := h
  refine ⟨fun b o q n => ?_, fun Q h => ?_, fun b h => ?_⟩
  · rw [t.2 b (fun z => by rw [z, e] at q; exact n ps (Option.some.inj q).symm)]
    exact q
  · by_cases z : Q = P
    · rw [z]
      exact t.1
    · obtain ⟨qs, e2, t2⟩ := h
      exact ⟨qs, by rw [t.2 Q z]; exact e2, t2⟩
  · by_cases z : b = P
    · obtain ⟨⟨qs, e2, _⟩, _⟩ := t
      rw [z, e2] at h
      cases h
    · rw [← t.2 b z]
      exact h
theorem Gr.tabs {T : List Addr} {H H' : Hp} (g : Gr T H H') (t : Tabs T H) : Tabs T H' := fun P hP => g.tab P (t P hP)
/-- a new object -/
theorem same_new {q : Addr} {H : Hp} {o : HO} (h : H q = none) : Same H (upd H q o) := fun b u e => by
  rw [upd_ne (ne_of_none e h)]
  exact e
theorem Gr.new {T : List Addr} {q : Addr} {H : Hp} {o : HO} (h : H q = none) : Gr T H (upd H q o) := .same (same_new h)
/-- an object that stood not at first -/
theorem Gr.upd {T : List Addr} {H H' : Hp} {q : Addr} {o : HO} (g : Gr T H H') (h : H q = none) : Gr T H (upd H' q o) := by
  refine ⟨fun b u e n => ?_, fun P t => ?_, fun b e => ?_⟩
  · rw [upd_ne (ne_of_none e h)]
    exact g.ext b u e n
  · obtain ⟨ps, e, _⟩ := t
    obtain ⟨ps', e', t'⟩ := g.tab P ⟨ps, e, by assumption⟩
    exact ⟨ps', by rw [upd_ne (ne_of_none e h)]; exact e', t'⟩
  · by_cases z : b = q
    · rw [z]
      exact h
    · rw [upd_ne z] at e
      exact g.stay b e
def mask (D : Addr) (H : Hp) : Hp := fun b => if b = D then none else H b
theorem mask_ne {D b : Addr} {H : Hp} (h : b ≠ D) : mask D H b = H b := if_neg h
theorem mask_upd (D : Addr) (H : Hp) (o : HO) : mask D (upd H D o) = mask D H := by
  funext b
  unfold mask
  split
  · rfl
  · exact upd_ne (by assumption)
theorem mask_ext (D : Addr) (H : Hp) : Ext (mask D H) H := fun b o e _ => by
  unfold mask at e
  split at e
  · cases e
  · exact e
theorem Ext.mask {D : Addr} {H H' : Hp} (x : Ext H H') : Ext (mask D H) (mask D H') := fun b o e n => by
  by_cases h : b = D
  · unfold Z.mask at e
    rw [if_pos h] at e
    cases e
  · rw [mask_ne h] at e ⊢
    exact x b o e n
theorem of_mask {D : Addr} {H H' : Hp} (x : Ext H H') (h : H D = none) : Ext H (Z.mask D H') := fun b o e n => by
  rw [mask_ne (ne_of_none e h)]
  exact x b o e n
theorem Ext.sq {t : Bool} {K : PySem.W.Frag} {H H' : Hp} {a : Addr} {xs : List V} (x : Ext H H') (h : SqOf t K H a xs) : SqOf t K H' a xs := by
  cases t
  · rcases (show SqL K H a xs from h) with (h | ⟨o, h⟩) | h
    · exact .inl (.inl (x _ _ h fun _ z => by cases z))
    · exact .inl (.inr ⟨o, x _ _ h fun _ z => by cases z⟩)
    · exact .inr h
  · rcases (show SqT K H a xs from h) with (h | ⟨o, h⟩) | h
    · exact .inl (.inl (x _ _ h fun _ z => by cases z))
    · exact .inl (.inr ⟨o, x _ _ h fun _ z => by cases z⟩)
    · exact .inr h
theorem sqL {K : PySem.W.Frag} {H : Hp} {a : Addr} {xs : List V} (h : H a = some (.lst xs)) : SqOf false K H a xs := show SqL K H a xs from SqL.of h
theorem sqT {K : PySem.W.Frag} {H : Hp} {a : Addr} {xs : List V} (h : H a = some (.tup xs)) : SqOf true K H a xs := show SqT K H a xs from SqT.of h
/-! two rows side by side -/
inductive All2 {α β : Type} (P : α → β → Prop) : List α → List β → Prop
  | nil : All2 P [] []
  | cons {a : α} {b : β} {as : List α} {bs : List β} (h : P a b) (t : All2 P as bs) : All2 P (a :: as) (b :: bs)
section
variable {α β γ : Type} {P Q : α → β → Prop} {as as' : List α} {bs bs' : List β}
theorem All2.length (h : All2 P as bs) : as.length = bs.length := by
  induction h with
  | nil => rfl
  | cons _ _ ih => rw [List.length_cons, List.length_cons, ih]
theorem All2.mono (m : ∀ a b, P a b → Q a b) (h : All2 P as bs) : All2 Q as bs := by
  induction h with
  | nil => exact .nil
  | cons h _ ih => exact .cons (m _ _ h) ih
theorem All2.app (h : All2 P as bs) (k : All2 P as' bs') : All2 P (as ++ as') (bs ++ bs') := by
  induction h with
  | nil => exact k
  | cons h _ ih => exact .cons h ih
theorem All2.snoc {a : α} {b : β} (h : All2 P as bs) (k : P a b) : All2 P (as ++ [a]) (bs ++ [b]) := h.app (.cons k .nil)
theorem All2.get (h : All2 P as bs) : ∀ {i : Nat} {a : α}, as[i]? = some a → ∃ b, bs[i]? = some b ∧ P a b := by
  induction h with
  | nil => intro i a e; simp at e
  | cons h t ih =>
    intro i a e
    cases i with
    | zero =>
      simp at e
      subst e
      exact ⟨_, by simp, h⟩
    | succ i =>
      simp at e
      obtain ⟨b, e2, p⟩ := ih e
      exact ⟨b, by simpa using e2, p⟩
theorem All2.get' (h : All2 P as bs) : ∀ {i : Nat} {b : β}, bs[i]? = some b → ∃ a, as[i]? = some a ∧ P a b := by
  induction h with
  | nil => intro i a e; simp at e
  | cons h t ih =>
    intro i a e
    cases i with
    | zero =>
      simp at e
      subst e
      exact ⟨_, by simp, h⟩
    | succ i =>
      simp at e
      obtain ⟨b, e2, p⟩ := ih e
      exact ⟨b, by simpa using e2, p⟩
theorem All2.erase (h : All2 P as bs) : ∀ k : Nat, All2 P (as.eraseIdx k) (bs.eraseIdx k) := by
  induction h with
  | nil => intro k; exact .nil
  | cons h t ih =>
    intro k
    cases k with
    | zero => exact t
    | succ k => exact .cons h (ih k)
theorem All2.mapr {f : β → γ} {R : α → γ → Prop} (h : All2 P as bs) (m : ∀ a b, P a b → R a (f b)) : All2 R as (bs.map f) := by
  induction h with
  | nil => exact .nil
  | cons h _ ih => exact .cons (m _ _ h) ih
theorem All2.ofr {f : γ → β} {cs : List γ} (h : All2 P as (cs.map f)) : All2 (fun a c => P a (f c)) as cs := by
  induction cs generalizing as with
  | nil => cases h; exact .nil
  | cons c cs ih => cases h with
    | cons h t => exact .cons h (ih t)
end
theorem take_snoc {β : Type} {F : List β} {i : Nat} {b : β} (h : F[i]? = some b) : F.take (i + 1) = F.take i ++ [b] := by
  rw [List.take_add_one, h]
  rfl
/-- a list or a tuple that stands in the heap -/
def SqH (t : Bool) (H : Hp) (a : Addr) (xs : List V) : Prop := H a = some (if t = true then .tup xs else .lst xs)
theorem Ext.sqh {t : Bool} {H H' : Hp} {a : Addr} {xs : List V} (x : Ext H H') (h : SqH t H a xs) : SqH t H' a xs := x _ _ h (fun ps z => by cases t <;> cases z)
theorem SqH.sq {t : Bool} {K : PySem.W.Frag} {H : Hp} {a : Addr} {xs : List V} (h : SqH t H a xs) : SqOf t K H a xs := by
  cases t
  · exact sqL h
  · exact sqT h
/-- a row of whole numbers, a list or a tuple -/
def RowV (H : Hp) (v : V) (r : List Int) : Prop := ∃ (a : Addr) (t : Bool), v = .ref a ∧ SqH t H a (r.map V.int)
def RowL (H : Hp) (v : V) (r : List Int) : Prop := ∃ a : Addr, v = .ref a ∧ H a = some (.lst (r.map V.int))
/-- a tuple that was made here: its object is known to have no dict -/
def TupF (H : Hp) (a : Addr) (xs : List V) : Prop := ∃ o : Obj, H a = some (.frz o (.tup xs)) ∧ o.cls = .type "tuple" ∧ o.dict = none
theorem TupF.ext {H H' : Hp} {a : Addr} {xs : List V} (x : Ext H H') (h : TupF H a xs) : TupF H' a xs := by
  obtain ⟨o, e, q⟩ := h
  exact ⟨o, x _ _ e (fun _ z => by cases z), q⟩
theorem TupF.sq {K : PySem.W.Frag} {H : Hp} {a : Addr} {xs : List V} (h : TupF H a xs) : SqT K H a xs := by
  obtain ⟨o, e, _⟩ := h
  exact .inl (.inr ⟨o, e⟩)
def RowT (H : Hp) (v : V) (r : List Int) : Prop := ∃ a : Addr, v = .ref a ∧ TupF H a (r.map V.int)
theorem RowL.ext {H H' : Hp} {v : V} {r : List Int} (x : Ext H H') (h : RowL H v r) : RowL H' v r := by
  obtain ⟨a, e, q⟩ := h
  exact ⟨a, e, x _ _ q fun _ z => by cases z⟩
theorem RowT.ext {H H' : Hp} {v : V} {r : List Int} (x : Ext H H') (h : RowT H v r) : RowT H' v r := by
  obtain ⟨a, e, q⟩ := h
  exact ⟨a, e, q.ext x⟩
theorem RowV.ext {H H' : Hp} {v : V} {r : List Int} (x : Ext H H') (h : RowV H v r) : RowV H' v r := by
  obtain ⟨a, t, e, q⟩ := h
  exact ⟨a, t, e, x.sqh q⟩
theorem RowL.v {H : Hp} {v : V} {r : List Int} (h : RowL H v r) : RowV H v r := by
  obtain ⟨a, e, q⟩ := h
  exact ⟨a, false, e, q⟩
/-- rows of them -/
def MatV (H : Hp) (v : V) (R : List (List Int)) : Prop := ∃ (a : Addr) (t : Bool) (vs : List V), v = .ref a ∧ SqH t H a vs ∧ All2 (RowV H) vs R
def MatL (H : Hp) (v : V) (R : List (List Int)) : Prop := ∃ (a : Addr) (vs : List V), v = .ref a ∧ H a = some (.lst vs) ∧ All2 (RowL H) vs R
def MatT (H : Hp) (v : V) (R : List (List Int)) : Prop := ∃ (a : Addr) (vs : List V), v = .ref a ∧ H a = some (.tup vs) ∧ All2 (RowT H) vs R
theorem MatV.ext {H H' : Hp} {v : V} {R : List (List Int)} (x : Ext H H') (h : MatV H v R) : MatV H' v R := by
  obtain ⟨a, t, vs, e, q, m⟩ := h
  exact ⟨a, t, vs, e, x.sqh q, m.mono fun _ _ => RowV.ext x⟩
theorem MatL.ext {H H' : Hp} {v : V} {R : List (List Int)} (x : Ext H H') (h : MatL H v R) : MatL H' v R := by
  obtain ⟨a, vs, e, q, m⟩ := h
  exact ⟨a, vs, e, x _ _ q (fun _ z => by cases z), m.mono fun _ _ => RowL.ext x⟩
theorem MatT.ext {H H' : Hp} {v : V} {R : List (List Int)} (x : Ext H H') (h : MatT H v R) : MatT H' v R := by
  obtain ⟨a, vs, e, q, m⟩ := h
  exact ⟨a, vs, e, x _ _ q (fun _ z => by cases z), m.mono fun _ _ => RowT.ext x⟩
theorem MatL.v {H : Hp} {v : V} {R : List (List Int)} (h : MatL H v R) : MatV H v R := by
  obtain ⟨a, vs, e, q, m⟩ := h
  exact ⟨a, false, vs, e, q, m.mono fun _ _ => RowL.v⟩
def IntV (H : Hp) (v : V) (z : Int) : Prop := v = .int z
theorem all_int {H : Hp} : ∀ {ys : List V} {zs : List Int}, All2 (IntV H) ys zs → ys = zs.map V.int
  | _, _, .nil => rfl
  | _, _, .cons (a := y) h t => by
    have h : y = _ := h
    rw [h, all_int t]
    rfl
theorem row_at {r : List Int} {i : Nat} {v : V} (h : (r.map V.int)[i]? = some v) : ∃ z, r[i]? = some z ∧ v = .int z := by
  rw [List.getElem?_map] at h
  cases e : r[i]? with
  | none => rw [e] at h; cases h
  | some z => rw [e] at h; exact ⟨z, rfl, (Option.some.inj h).symm⟩
/-! a list comprehension that maps -/
theorem lc_map {J : It} {n : Nat} {G : Hp → Prop} {Y : Nat → Hp → V → Hp → Prop} {T : List Addr} {g : TG} {te : TE} {vs : List Nat} {σ : L2.St} {H1 : Hp} {D : Addr} {β : Type} {Qd : Hp → Prop} (F : List β) (P : Hp → V → β → Prop) (w : Walk J n G Y) (hn : n = F.length) (hz : n < sizeLine) (hD : H1 D = none) (hG : G H1) (st : ∀ H H', Ext H H' → G H → G H')
    (hP : ∀ H H' v b, Ext H H' → P H v b → P H' v b)
    (step : ∀ (i : Nat) (x : V) (b : β) (H H' : Hp) (Qc : VK) (Nx : Hp → Prop), i < n → Y i H x H' → F[i]? = some b → Gr T H1 H → (∃ acc, H D = some (.lst acc)) → (∀ y H4, Gr T H H4 → P (mask D H4) y b → Qc y H4) →
      g x (wipe σ vs) H' fun σ2 H2 => wipe σ2 vs = wipe σ vs ∧ tYes σ2 H2 fun c H3 => if c = true then te σ2 H3 Qc else Nx H3)
    (fin : ∀ H ys, H D = some (.lst ys) → All2 (P H) ys F → Gr T H1 H → Qd H) :
    ∃ W : Nat → Nat → Hp → Prop, (∃ m, W 0 m (upd H1 D (.lst []))) ∧ ∀ i m H, W i m H →
      (J.stop i H ∧ Qd H) ∨ (J.go i H ∧ ∃ Nx : Hp → Prop, (∀ H', Nx H' → ∃ m', m' < m ∧ W (i + 1) m' H') ∧ ∀ x H', J.yld i H x H' → g x (wipe σ vs) H' fun σ2 H2 => wipe σ2 vs = wipe σ vs ∧ tYes σ2 H2 fun b H3 =>
        if b = true then te σ2 H3 fun y H4 => ∃ acc, H4 D = some (.lst acc) ∧ acc.length < sizeLine ∧ Nx (upd H4 D (.lst (acc ++ [y]))) else Nx H3) := by
  subst hn
  refine lc_it w (fun i H => ∃ acc, H D = some (.lst acc) ∧ All2 (P (mask D H)) acc (F.take i) ∧ Gr T H1 H) ⟨[], upd_same, .nil, (Gr.new hD)⟩ (fun i H _ ⟨acc, _, _, g⟩ => st _ _ g.ext hG) (fun i x H H' hi hp hy => ?_) (fun H ⟨acc, h1, h2, h3⟩ => ?_)
  · obtain ⟨acc, h1, h2, h3⟩ := hp
    have hF := List.getElem?_eq_getElem hi
    refine step i x F[i] H H' _ _ hi hy hF h3 ⟨acc, h1⟩ ?_
    intro y H4 g4 p4
    refine ⟨acc, g4.ext _ _ h1 (fun _ z => by cases z), ?_, acc ++ [y], upd_same, ?_, (h3.trans g4).upd hD⟩
    · have := h2.length
      rw [List.length_take] at this
      omega
    · rw [mask_upd, take_snoc hF]
      exact (h2.mono fun _ _ => hP _ _ _ _ g4.ext.mask).snoc p4
  · rw [List.take_length] at h2
    exact fin H acc h1 (h2.mono fun _ _ => hP _ _ _ _ (mask_ext D H)) h3
theorem Ext.sqof {t : Bool} {K : PySem.W.Frag} {a : Addr} {xs : List V} : ∀ H H', Ext H H' → SqOf t K H a xs → SqOf t K H' a xs := fun _ _ x h => x.sq h
/-! subscripts, lengths, truth of what stands in the heap -/
section
variable {X : Cx}
theorem ixH : IxR X (fun x y H Q => ∃ (t : Bool) (a : Addr) (xs : List V) (i : Nat) (v : V), x = .ref a ∧ y = .int (i : Int) ∧ SqH t H a xs ∧ xs[i]? = some v ∧ Q v H) := by
  intro value slice pins s σ H x y v u Q I rx ry h
  refine ix_seq (X := X) value slice pins s σ H x y v u Q I rx ry ?_
  obtain ⟨t, a, xs, i, z, rfl, rfl, hS, hz, q⟩ := h
  cases t
  · exact .inl ⟨a, xs, i, z, rfl, rfl, SqL.of hS, atI_nat hz, q⟩
  · exact .inr (.inl ⟨a, xs, i, z, rfl, rfl, SqT.of hS, atI_nat hz, q⟩)
theorem lenH : CallR X (.builtin "len") (fun vs H Q => ∃ (t : Bool) (a : Addr) (xs : List V), vs = [.ref a] ∧ SqH t H a xs ∧ Q (.int (xs.length : Int)) H) := by
  intro pins s σ H vs us Q I r h
  refine call_len (X := X) pins s σ H vs us Q I r ?_
  obtain ⟨t, a, xs, rfl, hS, q⟩ := h
  refine ⟨_, xs.length, rfl, ?_, q⟩
  cases t
  · exact .inl ⟨xs, SqL.of hS, rfl⟩
  · exact .inr ⟨xs, SqT.of hS, rfl⟩
end
section
variable {X : Cx}
def rTupF (K : PySem.W.Frag) : List V → Hp → VK → Prop := fun xs H Q => ∃ (p : Addr) (ys : List V), xs = [.ref p] ∧ SqL K H p ys ∧ ∀ (l : Addr) (u : HO), H l = none → TupF (upd H l u) l ys → Q (.ref l) (upd H l u)
/-- tuple(xs) of a list: a new object, known as a whole -/
theorem call_tupF (K : PySem.W.Frag) (hK : X.K = K := by rfl) : CallR X (.type "tuple") (rTupF K) := by
  subst hK
  intro pins s σ H xs us Q I r h
  obtain ⟨p, ys, rfl, hq, q⟩ := h
  obtain ⟨u, rfl, rx⟩ := vals1 r
  cases rx
  obtain ⟨its, rv, pl, hz⟩ := I.list hq
  have hlen := rv.length
  refine call_tuple_list pl.isList (fun h' kp => ?_) (by simp only [List.size_toArray]; omega)
  have I1 : Inv X pins σ H { s with heap := h' } := I.kept (t' := s.toks) kp
  let ob : Obj := { cls := .type "tuple", data := .seq its.toArray }
  have new : ObjOk X.prog X.w (upd H h'.objs.size (.frz ob (.tup ys))) (h'.push ob) h'.objs.size (.frz ob (.tup ys)) := ⟨Heap.get?_push_size _ rfl, hz, its, rv, IsTup.new _ _⟩
  refine ⟨.ref h'.objs.size, _, I1.laid (t' := s.toks) (fun b o e => Heap.get?_push_of_some _ e) (Nat.le_refl _) new, rfl, q _ _ (I1.hok.fresh (Nat.le_refl _)) ⟨ob, upd_same, rfl, rfl⟩⟩
variable {o e : Expr} {es : List Expr} {to : TE} {t : TA} {name : Str} {apos cpos : Pos} {id : String} {r : V → List V → Hp → VK → Prop}
/-- a method of a tuple that was made here -/
def tBMF (r : V → List V → Hp → VK → Prop) (to : TE) (t : TA) : TE := fun σ H Q => to σ H fun x H1 => (∃ a xs, x = .ref a ∧ TupF H1 a xs) ∧ t σ H1 fun ys H2 => r x ys H2 Q
theorem pe_bmF (slot : Slot "tuple" name id) (hty : typeOf (.builtin id) = pure (.type "method_descriptor")) (hm : MtR X id r) (ho : PE X o to) (ha : PA X (e :: es) t) (hbase : attributeBase o name X.env (eval o X.env) = eval o X.env := by rfl)
    (hfew : ((backTo cpos (starEach (e :: es) X.env)).all (fun x => !x.1) && (backToKw cpos (keywordEach [] X.env)).all (fun x => x.1.isSome) && decide ((e :: es).length + ([] : List Keyword).length + (if ([] : List Keyword).isEmpty then 0 else 1) < 30)) = true := by rfl)
    (hline : (apos.endLine == cpos.line) = true := by rfl) (hs : starEach (e :: es) X.env = (false, eval e X.env) :: starEach es X.env := by rfl) (hplain : (backTo cpos (starEach es X.env)).any (·.1) = false := by rfl) : PE X (.Call (.Attribute o name apos) (e :: es) [] cpos) (tBMF r to t) := by
  refine ⟨fun pins s σ H Q I h => ?_⟩
  refine wpAny_Call_method_late hbase hfew hline rfl (thn (ho.run pins s σ H _ I h) fun v s1 ⟨x, H1, I1, r1, ⟨a, xs, ex, ob, eo, c1, c2⟩, q1⟩ => ?_)
  subst ex
  cases r1
  have g := (I1.hok a _ eo).1
  have hA := ha.run cpos pins s1 σ H1 _ I1 q1
  refine ⟨"tuple", id, PySem.F.plainAttrs_tuple, slot, hty, ⟨ob, g, c1⟩, fun b eb => by cases eb; exact ⟨ob, g, c2⟩, ?_⟩
  rw [hs] at hA ⊢
  have hp : ((false, eval e X.env) :: backTo cpos (starEach es X.env)).any (·.1) = false := by rw [List.any_cons, hplain]; rfl
  exact Calls.callWith_builtin hp (Calls.evalArgs_plain (thn hA fun us s2 ⟨vs, H2, I2, r2, q2⟩ => hm pins s2 σ H2 (.ref a) vs (.ref a) us Q I2 rfl r2 q2))
end
theorem truH {t : Bool} {K : PySem.W.Frag} {H : Hp} {a : Addr} {xs : List V} (h : SqH t H a xs) : TruV K (.ref a) H (!xs.isEmpty) := by
  cases t
  · exact .inl ⟨xs, SqL.of h, rfl⟩
  · exact .inr (.inl ⟨xs, SqT.of h, rfl⟩)
/-! defs whose body holds a generator expression -/
section
variable {P : Program} {w : World} {K : PySem.W.Frag} {mg : Str → Option Value} {base : Heap}
theorem okT {x qual : Str} {st : Stmt} {f c : Addr} {fd : FuncData} {N ps : List Str} {k : Nat} {sp : Sp} (F : Fun K x qual st f fd) (hc : fd.code = .ref c) (S : FnScope N ps (defScope st)) (len : ∀ vs H Q E, sp vs H Q E → vs.length = ps.length)
    (hbody : ∀ (A : Around) (outer : List Env) (s : Shared) (H : Hp) (vs : List V) (Q : VK) (E : XK), Room k (A.deeper (envOfC qual (defScope st) s.heap.objs.size f (.ref c))) → sp vs H Q E →
      ∃ t, PSs (cxOf CX0 P w K mg base N qual (defScope st) f (.ref c) A outer s H E).nox (defBody st) t ∧ t { nx := fun _ H' => Q .non H', rt := Q } (start N vs) H) : FnOk P w K mg base CX0 (k + 1) f fd ps sp := by
  obtain ⟨oc, od, kV, doc, pm, an, cdv, ct, osl, rfl, lk, hcd⟩ := F.ex
  have e : cdv = .ref c := hc
  subst e
  refine fn_of lk hcd S len fun A outer s H vs Q E hr hsp => ?_
  obtain ⟨t, h, q⟩ := hbody A outer s H vs Q E hr hsp
  exact ⟨t, h.nox, q⟩
end
/-- a def, ready to be called -/
structure Fx (P : Program) (w : World) (K : PySem.W.Frag) (mg : Str → Option Value) (base : Heap) (x : Str) (k : Nat) (ps : List Str) (sp : Sp) : Prop where
  ex : ∃ f fd, FnOk P w K mg base CX0 k f fd ps sp ∧ mg x = some (.ref f) ∧ PySem.W.keepIn K (.ref f) = true ∧ Binds K fd ps []
def E0 : XK := fun _ _ _ => False
theorem pe_fx {X : Cx} {x : Str} {k : Nat} {ps : List Str} {sp : Sp} {e : Expr} {es : List Expr} {t : TA} {p pos : Pos} (G : Fx X.prog X.w X.K X.mg X.base x k ps sp) (hr : Room k X.A) (ha : PA X (e :: es) t) (hg : Gl X x := by rfl)
    (hdb : (x == ("__debug__" : Str)) = false := by decide) (he : starEach (e :: es) X.env = (false, eval e X.env) :: starEach es X.env := by rfl) (hpl : (backTo pos (starEach es X.env)).any (·.1) = false := by rfl) :
    PE X (.Call (.Name x p) (e :: es) [] pos) (tCall sp [] E0 t) := by
  obtain ⟨f, fd, h1, h2, h3, h4⟩ := G.ex
  exact pe_call h1 hr hg h2 h3 h4 .nil pass0 ha hdb he hpl
end Z
set_option Elab.async false
set_option linter.all false
set_option maxRecDepth 100000
set_option maxHeartbeats 4000000
namespace Z
open PySem L2 PyProof.Rows ZX
/-! numbers modulo a prime: power, passes, is_prime -/
def topS (i : Nat) : Stmt := PySem.Challenge.pw_anymend_k02_whole_rows_modulo_primes.main.body.getD i (.Pass ⟨0, 0, 0, 0⟩)
abbrev s_is_whole : Stmt := topS 4
abbrev s_is_list : Stmt := topS 5
abbrev s_passes : Stmt := topS 10
abbrev s_power : Stmt := topS 11
abbrev s_inverse : Stmt := topS 12
theorem sc_is_whole : FnScope ["value"] ["value"] (defScope s_is_whole) := ⟨rfl, rfl, rfl, by decide +kernel, rfl, by decide +kernel, by decide +kernel⟩
theorem sc_is_list : FnScope ["value"] ["value"] (defScope s_is_list) := ⟨rfl, rfl, rfl, by decide +kernel, rfl, by decide +kernel, by decide +kernel⟩
theorem sc_passes : FnScope ["number", "witness", "odd", "halvings", "reached", "_"] ["number", "witness"] (defScope s_passes) := ⟨rfl, rfl, rfl, by decide +kernel, rfl, by decide +kernel, by decide +kernel⟩
theorem sc_power : FnScope ["base", "exponent", "modulus", "result", "square", "ahead"] ["base", "exponent", "modulus"] (defScope s_power) := ⟨rfl, rfl, rfl, by decide +kernel, rfl, by decide +kernel, by decide +kernel⟩
theorem sc_inverse : FnScope ["number", "prime"] ["number", "prime"] (defScope s_inverse) := ⟨rfl, rfl, rfl, by decide +kernel, rfl, by decide +kernel, by decide +kernel⟩
theorem ip_fdiv {X : Cx} : PIp X .FloorDiv (fun x y H Q => ∃ i j : Int, x = .int i ∧ y = .int j ∧ 0 < j ∧ j < 1073741824 ∧ Q (.int (i / j)) H) := by
  rintro pins s σ H x y v u Q I r1 r2 ⟨i, j, rfl, rfl, h1, h2, q⟩
  obtain ⟨t, rfl⟩ := r1
  obtain ⟨t', rfl⟩ := r2
  refine ifloordiv_int (by omega) ?_ (.inl (PyProof.noPylong_small (by omega)))
  rw [Int.fdiv_eq_ediv_of_nonneg i (by omega)]
  exact ⟨.int _, H, I.tok _, ⟨_, rfl⟩, q⟩
def spWhole (K : PySem.W.Frag) : Sp := fun vs H Q _ => ∃ (v : V) (T : String) (b1 b2 : Bool), vs = [v] ∧ TyX K H v (.type T) ∧ kitB T "int" = some b1 ∧ kitB T "bool" = some b2 ∧ Q (.bl (b1 && !b2)) H
def spList : Sp := fun vs H Q _ => ∃ (a : Addr) (t : Bool) (xs : List V), vs = [.ref a] ∧ SqH t H a xs ∧ ∀ H', Same H H' → Q (.bl true) H'
def spPow : Sp := fun vs H Q _ => ∃ b e m : Nat, vs = [.int (b : Int), .int (e : Int), .int (m : Int)] ∧ 1 < m ∧ m < 2 ^ 31 ∧ Q (.int ((b ^ e % m : Nat) : Int)) H
def spInv : Sp := fun vs H Q _ => ∃ b p : Nat, vs = [.int (b : Int), .int (p : Int)] ∧ 1 < p ∧ p < 2 ^ 31 ∧ Q (.int ((b ^ (p - 2) % p : Nat) : Int)) H
def spPass : Sp := fun vs H Q _ => ∃ n w : Nat, vs = [.int (n : Int), .int (w : Int)] ∧ M2.Pr n ∧ 2 < n ∧ n < 2 ^ 31 ∧ w % n ≠ 0 ∧ Q (.bl true) H
theorem wholeI {K : PySem.W.Frag} {H : Hp} {z : Int} {Q : VK} {E : XK} (q : Q (.bl true) H) : spWhole K [.int z] H Q E :=
  ⟨_, "int", true, false, rfl, .base (.int z), by decide +kernel, by decide +kernel, q⟩
theorem kAny {K : PySem.W.Frag} {T : String} {b1 b2 : Bool} (h1 : kitB T "list" = some b1) (h2 : kitB T "tuple" = some b2) : PySem.W.kitAny K (.type T) [.type "list", .type "tuple"] = some (b1 || b2) := by
  have k1 := kit_ty (K := K) h1
  have k2 := kit_ty (K := K) h2
  simp [PySem.W.kitAny, k1, k2]
  cases b1 <;> cases b2 <;> simp
section
variable {P : Program} {w : World} {K : PySem.W.Frag} {mg : Str → Option Value} {base : Heap}
theorem ok_is_whole {f : Addr} {fd : FuncData} (F : Fun K "is_whole" "is_whole" s_is_whole f fd) (bI : mg "isinstance" = none) (bi : mg "int" = none) (bb : mg "bool" = none) : FnOk P w K mg base CX0 1 f fd ["value"] (spWhole K) := by
  refine F.ok sc_is_whole (fun vs H Q E h => ?_) (fun cdv A outer s H vs Q E hr h => ?_)
  · obtain ⟨v, T, b1, b2, rfl, _⟩ := h
    rfl
  · obtain ⟨v, T, b1, b2, rfl, ty, k1, k2, k⟩ := h
    refine ⟨_, (pss_one (ps_ret (pe_and (pe_callB call_isi (by rfl) bI (by decide +kernel) (pa_cons (pv 0) (pa_cons (pe_bltn (v := .ty "int") (by rfl) bi PySem.Pv.boot_int rfl) pa_nil))) (pe_one (pe_not (pe_callB call_isi (by rfl) bI (by decide +kernel) (pa_cons (pv 0) (pa_cons (pe_bltn (v := .ty "bool") (by rfl) bb PySem.Pv.boot_bool rfl) pa_nil)))))))), ?_⟩
    refine ⟨_, rfl, v, .ty "int", _, _, b1, rfl, .ty _, ty, kit_ty k1, b1, rfl, ?_⟩
    cases b1 with
    | false => exact iteF k
    | true =>
      refine iteT ?_
      refine ⟨_, rfl, v, .ty "bool", _, _, b2, rfl, .ty _, ty, kit_ty k2, b2, rfl, ?_⟩
      exact k
theorem ok_is_list {f : Addr} {fd : FuncData} (F : Fun K "is_list" "is_list" s_is_list f fd) (bI : mg "isinstance" = none) (bl : mg "list" = none) (bt : mg "tuple" = none) : FnOk P w K mg base CX0 1 f fd ["value"] spList := by
  refine F.ok sc_is_list (fun vs H Q E h => ?_) (fun cdv A outer s H vs Q E hr h => ?_)
  · obtain ⟨a, t, xs, rfl, _⟩ := h
    rfl
  · obtain ⟨a, t, xs, rfl, hS, k⟩ := h
    refine ⟨_, (pss_one (ps_ret (pe_callB call_isiT (by rfl) bI (by decide +kernel) (pa_cons (pv 0) (pa_cons (pe_tup (pa_cons (pe_bltn (v := .ty "list") (by rfl) bl PySem.Pv.boot_list rfl) (pa_cons (pe_bltn (v := .ty "tuple") (by rfl) bt PySem.Pv.boot_tuple rfl) pa_nil))) pa_nil))))), ?_⟩
    refine ⟨_, rfl, (by show 2 ≤ sizeLine; rw [sizeLine_eq]; decide), fun q hq => ?_⟩
    have g := same_new (o := .tup [.ty "list", .ty "tuple"]) hq
    cases t
    · exact ⟨_, _, _, .type "list", _, true, rfl, upd_same, .cons (.ty _) (.cons (.ty _) .nil), .base (.lst (g _ _ hS)), kAny (T := "list") (b1 := true) (b2 := false) (by decide +kernel) (by decide +kernel), k _ g⟩
    · exact ⟨_, _, _, .type "tuple", _, true, rfl, upd_same, .cons (.ty _) (.cons (.ty _) .nil), .base (.tup (g _ _ hS)), kAny (T := "tuple") (b1 := false) (b2 := true) (by decide +kernel) (by decide +kernel), k _ g⟩
theorem cast_mod (a b : Nat) : ((a : Int) % (b : Int)) = ((a % b : Nat) : Int) := (Int.natCast_emod a b).symm
theorem cast_mm (a b m : Nat) : ((a : Int) * (b : Int) % (m : Int)) = ((a * b % m : Nat) : Int) := by rw [← Int.natCast_mul, cast_mod]
theorem int_of {a b : Int} (h : decide (V.int a = V.int b) = true) : a = b := by
  have := of_decide_eq_true h
  injection this
theorem int_nof {a b : Int} (h : ¬ decide (V.int a = V.int b) = true) : a ≠ b := fun e => h (by rw [e]; simp)
theorem pow_step (r s k m : Nat) (h : k % 2 = 1) : (r * s % m) * (s * s % m) ^ (k / 2) % m = r * s ^ k % m := by
  have e : k = 2 * (k / 2) + 1 := by omega
  have e2 : r * s ^ k = (r * s) * (s * s) ^ (k / 2) := by
    rw [← Nat.pow_two s, ← Nat.pow_mul, Nat.mul_assoc, ← Nat.pow_succ']
    congr 2
  rw [e2, Nat.mul_mod, Nat.mod_mod, ← Nat.pow_mod, ← Nat.mul_mod]
theorem pow_step0 (r s k m : Nat) (h : k % 2 = 0) : r * (s * s % m) ^ (k / 2) % m = r * s ^ k % m := by
  have e : k = 2 * (k / 2) := by omega
  have e2 : r * s ^ k = r * (s * s) ^ (k / 2) := by
    rw [← Nat.pow_two s, ← Nat.pow_mul]
    congr 2
  rw [e2, Nat.mul_mod, ← Nat.pow_mod, ← Nat.mul_mod]
theorem ok_power {f : Addr} {fd : FuncData} (F : Fun K "power" "power" s_power f fd) : FnOk P w K mg base CX0 1 f fd ["base", "exponent", "modulus"] spPow := by
  refine F.ok sc_power (fun vs H Q E h => ?_) (fun cdv A outer s H vs Q E hr h => ?_)
  · obtain ⟨b, e, m, rfl, _⟩ := h
    rfl
  · obtain ⟨b, e, m, rfl, m1, m2, k⟩ := h
    refine ⟨_, (pss_cons (ps_set (i := 3) sc_power.nd rfl (Or.inl rfl) pe_int)
      (pss_cons (ps_set (i := 4) sc_power.nd rfl (Or.inl rfl) (pe_op op_mod (pv 0) (pv 2)))
      (pss_cons (ps_set (i := 5) sc_power.nd rfl (Or.inl rfl) (pv 1))
      (pss_cons (ps_while PassesOwn.never (pt_cmpR op_gt (pv 5) pe_int (nomark _))
        (C8.pss_cut (ps_if (pt_cmpR op_eq (pe_op op_mod (pv 5) pe_int) pe_int (nomark _))
            (pss_one (ps_set (i := 3) sc_power.nd rfl (Or.inl rfl) (pe_op op_mod (pe_op op_mul (pv 3) (pv 4)) (pv 2))))
            pss_nil)
          (pss_cons (ps_set (i := 4) sc_power.nd rfl (Or.inl rfl) (pe_op op_mod (pe_op op_mul (pv 4) (pv 4)) (pv 2)))
          (pss_one (ps_aug (i := 5) sc_power.nd rfl (Or.inl rfl) pe_int ip_fdiv)))))
      (pss_one (ps_ret (pv 3))))))), ?_⟩
    refine ⟨_, rfl, _, rfl, _, _, rfl, rfl, (by omega), _, rfl, ?_⟩
    refine ⟨fun n σ' H' => ∃ r s : Nat, σ' = [some (.int (b : Int)), some (.int (e : Int)), some (.int (m : Int)), some (.int (r : Int)), some (.int (s : Int)), some (.int (n : Int))] ∧ H' = H ∧ r < m ∧ s < m ∧ r * s ^ n % m = b ^ e % m, ⟨e, 1, b % m, ?_, rfl, m1, Nat.mod_lt _ (by omega), ?_⟩, ?_⟩
    · rw [← cast_mod]
      rfl
    · rw [Nat.one_mul, ← Nat.pow_mod]
    · rintro n σ' H' ⟨r, s, rfl, rfl, r1, s1, inv⟩
      refine ⟨_, rfl, _, _, rfl, rfl, _, rfl, ?_⟩
      refine ite2 (fun hn => ?_) (fun hn => ?_)
      · have hn : (0 : Int) < (n : Int) := of_decide_eq_true hn
        refine ⟨fun σ' H1 => ∃ m', m' < n ∧ ∃ r s : Nat, σ' = [some (.int (b : Int)), some (.int (e : Int)), some (.int (m : Int)), some (.int (r : Int)), some (.int (s : Int)), some (.int (m' : Int))] ∧ H1 = H' ∧ r < m ∧ s < m ∧ r * s ^ m' % m = b ^ e % m, fun _ _ h => h, ?_⟩
        refine ⟨fun σ' H1 => ∃ r' : Nat, σ' = [some (.int (b : Int)), some (.int (e : Int)), some (.int (m : Int)), some (.int (r' : Int)), some (.int (s : Int)), some (.int (n : Int))] ∧ H1 = H' ∧ r' < m ∧ r' * (s * s % m) ^ (n / 2) % m = b ^ e % m, ?_, ?_⟩
        · refine ⟨_, rfl, _, _, rfl, rfl, (by show (0 : Int) < 2; decide), rfl, _, rfl, ?_⟩
          refine ite2 (fun ho => ?_) (fun ho => ?_)
          · have ho := int_of ho
            refine ⟨_, rfl, _, rfl, _, _, rfl, rfl, .inl ⟨by omega, by omega⟩, _, rfl, _, _, rfl, rfl, (by omega), ?_⟩
            refine ⟨r * s % m, ?_, rfl, Nat.mod_lt _ (by omega), ?_⟩
            · rw [← cast_mm]
              rfl
            · rw [pow_step r s n m (by omega)]
              exact inv
          · have ho := int_nof ho
            refine ⟨r, rfl, rfl, r1, ?_⟩
            rw [pow_step0 r s n m (by omega)]
            exact inv
        · rintro σ' H1 ⟨r', rfl, rfl, r1', inv'⟩
          refine ⟨_, rfl, _, rfl, _, _, rfl, rfl, .inl ⟨by omega, by omega⟩, _, rfl, _, _, rfl, rfl, (by omega), ?_⟩
          refine ⟨_, rfl, _, _, rfl, rfl, by decide, by decide, ?_⟩
          refine ⟨n / 2, by omega, r', s * s % m, ?_, rfl, r1', Nat.mod_lt _ (by omega), inv'⟩
          rw [← cast_mm, show ((n / 2 : Nat) : Int) = (n : Int) / 2 by omega]
          rfl
      · have hn : ¬ (0 : Int) < (n : Int) := fun z => hn (decide_eq_true z)
        have : n = 0 := by omega
        subst this
        refine ⟨_, rfl, ?_⟩
        rw [Nat.pow_zero, Nat.mul_one, Nat.mod_eq_of_lt r1] at inv
        rw [inv]
        exact k
theorem ok_inverse {f : Addr} {fd : FuncData} (F : Fun K "inverse" "inverse" s_inverse f fd) (W : Fx P w K mg base "power" 1 ["base", "exponent", "modulus"] spPow) : FnOk P w K mg base CX0 2 f fd ["number", "prime"] spInv := by
  refine F.ok sc_inverse (fun vs H Q E h => ?_) (fun cdv A outer s H vs Q E hr h => ?_)
  · obtain ⟨b, p, rfl, _⟩ := h
    rfl
  · obtain ⟨b, p, rfl, p1, p2, k⟩ := h
    refine ⟨_, (pss_one (ps_ret (pe_fx W hr (pa_cons (pv 0) (pa_cons (pe_op op_sub (pv 1) pe_int) (pa_cons (pv 1) pa_nil)))))), ?_⟩
    refine ⟨_, rfl, _, rfl, _, _, rfl, rfl, _, rfl, b, p - 2, p, ?_, p1, p2, k⟩
    rw [show ((p - 2 : Nat) : Int) = (p : Int) - 2 by omega]
    rfl
end
end Z
set_option Elab.async false
set_option linter.all false
set_option maxRecDepth 100000
set_option maxHeartbeats 4000000
namespace GX
open PySem PySem.Spec PyProof.Rows L2
theorem turns_it {J : It} {n : Nat} {G : Hp → Prop} {Y : Nat → Hp → V → Hp → Prop} {g : TG} {tt : TT} {te : TE} {σg : L2.St} {vs : List Nat} {Step : STP} {End : EN} {H : Hp} (w : Walk J n G Y) (Pv : Nat → List V → Hp → Prop) (h0 : Pv 0 [] H) (hG : ∀ i ys H, i ≤ n → Pv i ys H → G H)
    (hs : ∀ i x ys H H', i < n → Pv i ys H → Y i H x H' → g x σg H' fun σ2 H2 => wipe σ2 vs = σg ∧ tt σ2 H2 fun b H3 => if b = true then te σ2 H3 fun y H4 => Step ys y H4 (Pv (i + 1) (ys ++ [y])) else Pv (i + 1) ys H3) (hd : ∀ ys H, Pv n ys H → End ys H) :
    ∃ W : Nat → Nat → List V → Hp → Prop, (∃ m, W 0 m [] H) ∧ Turns J g tt te σg vs Step End W := by
  refine ⟨fun i m ys H => m = n - i ∧ i ≤ n ∧ Pv i ys H, ⟨n, rfl, Nat.zero_le _, h0⟩, ?_⟩
  rintro i m ys H ⟨rfl, hi, p⟩
  have q := hG i ys H hi p
  rcases Nat.lt_or_ge i n with hlt | hge
  · exact .inr ⟨w.goes i H hlt q, Pv (i + 1), fun ys' H' p' => ⟨n - (i + 1), by omega, rfl, hlt, p'⟩, fun x H' y => hs i x ys H H' hlt p (w.yields i H x H' hlt q y)⟩
  · have e : i = n := by omega
    subst e
    exact .inl ⟨w.stops H q, hd ys H p⟩
end GX
namespace M2
theorem mr {n w odd : Nat} (pr : Pr n) : ∀ h : Nat, w ^ (odd * 2 ^ h) % n = 1 → w ^ odd % n = 1 ∨ ∃ i, i < h ∧ w ^ (odd * 2 ^ i) % n = n - 1
  | 0, e => by
    rw [Nat.pow_zero, Nat.mul_one] at e
    exact .inl e
  | h + 1, e => by
    have p2 := pr.1
    generalize hy : w ^ (odd * 2 ^ h) % n = y
    have yl : y < n := by rw [← hy]; exact Nat.mod_lt _ (by omega)
    have yy : y * y % n = 1 := by
      rw [← hy, ← Nat.mul_mod, ← Nat.pow_add]
      rw [Nat.pow_succ, ← Nat.mul_assoc, Nat.mul_two] at e
      exact e
    have y0 : 0 < y := by
      rcases Nat.eq_zero_or_pos y with z | z
      · rw [z] at yy
        simp at yy
      · exact z
    rcases Nat.lt_or_ge 1 y with y1 | y1
    · have d : n ∣ (y - 1) * (y + 1) := by
        have e1 : (y - 1) * (y + 1) = y * y - 1 := by
          obtain ⟨k, rfl⟩ : ∃ k, y = k + 1 := ⟨y - 1, by omega⟩
          rw [Nat.add_sub_cancel, Nat.add_mul, Nat.one_mul, Nat.mul_add]
          omega
        rw [e1]
        refine Nat.dvd_of_mod_eq_zero (Nat.sub_mod_eq_zero_of_mod_eq ?_)
        rw [yy, Nat.mod_eq_of_lt (by omega)]
      have c := pr.2 (y - 1) (by omega) (by omega)
      have d2 := Nat.Coprime.dvd_of_dvd_mul_left c d
      have := Nat.le_of_dvd (by omega) d2
      exact .inr ⟨h, Nat.lt_succ_self _, by rw [hy]; omega⟩
    · have : y = 1 := by omega
      rcases mr pr h (by rw [hy]; exact this) with q | ⟨i, hi, q⟩
      · exact .inl q
      · exact .inr ⟨i, by omega, q⟩
theorem pr_dvd {n w : Nat} (pr : Pr n) (w2 : 2 ≤ w) (h : n % w = 0) : n = w := by
  have d := Nat.dvd_of_mod_eq_zero h
  have le := Nat.le_of_dvd (by have := pr.1; omega) d
  rcases Nat.lt_or_ge w n with z | z
  · have c := pr.2 w (by omega) z
    have : w ∣ Nat.gcd n w := Nat.dvd_gcd d (Nat.dvd_refl w)
    rw [c] at this
    have := Nat.le_of_dvd (by decide) this
    omega
  · omega
end M2
namespace Z
open PySem L2 PyProof.Rows ZX GX
abbrev s_is_prime : Stmt := topS 9
theorem sc_is_prime : FnScope ["number", "witness"] ["number"] (defScope s_is_prime) := ⟨rfl, rfl, rfl, by decide +kernel, rfl, by decide +kernel, by decide +kernel⟩
def WL : List Nat := [2, 3, 5, 7, 11, 13, 17, 19, 23, 29, 31, 37, 41]
def WV : List V := WL.map fun n : Nat => V.int (n : Int)
def spPrime (T : List Addr) : Sp := fun vs H Q _ => ∃ p : Nat, vs = [.int (p : Int)] ∧ M2.Pr p ∧ p < 2 ^ 31 ∧ Tabs T H ∧ ∀ H', Gr T H H' → Q (.bl true) H'
theorem wl_pr : ∀ q ∈ WL, M2.Pr q := by
  intro q hq
  have b : ∀ q ∈ WL, (decide (2 ≤ q) && (List.range q).all fun i => decide (i = 0) || decide (Nat.gcd q i = 1)) = true := by decide +kernel
  have h := b q hq
  simp only [Bool.and_eq_true, decide_eq_true_eq, List.all_eq_true, List.mem_range, Bool.or_eq_true] at h
  exact ⟨h.1, fun i h0 hi => (h.2 i hi).resolve_left (by omega)⟩
theorem wv_at {i : Nat} {x : V} (h : WV[i]? = some x) : ∃ q, q ∈ WL ∧ WL[i]? = some q ∧ x = .int (q : Int) := by
  unfold WV at h
  rw [List.getElem?_map] at h
  cases e : WL[i]? with
  | none => rw [e] at h; cases h
  | some q => rw [e] at h; exact ⟨q, List.mem_of_getElem? e, rfl, (Option.some.inj h).symm⟩
theorem wl_len : WV.length = 13 := rfl
section
variable {P : Program} {w : World} {K : PySem.W.Frag} {mg : Str → Option Value} {base : Heap}
theorem ok_passes {f : Addr} {fd : FuncData} (F : Fun K "passes" "passes" s_passes f fd) (br : mg "range" = none) (W : Fx P w K mg base "power" 1 ["base", "exponent", "modulus"] spPow) : FnOk P w K mg base CX0 2 f fd ["number", "witness"] spPass := by
  refine F.ok sc_passes (fun vs H Q E h => ?_) (fun cdv A outer s H vs Q E hr h => ?_)
  · obtain ⟨n, wn, rfl, _⟩ := h
    rfl
  · obtain ⟨n, wn, rfl, pr, n2, n3, hw, k⟩ := h
    refine ⟨_, (pss_cons (ps_set (i := 2) sc_passes.nd rfl (Or.inl rfl) (pe_op op_sub (pv 0) pe_int))
      (pss_cons (ps_set (i := 3) sc_passes.nd rfl (Or.inl rfl) pe_int)
      (C8.pss_cut (ps_while PassesOwn.never (pt_cmpR op_eq (pe_op op_mod (pv 2) pe_int) pe_int (nomark _))
        (pss_cons (ps_aug (i := 2) sc_passes.nd rfl (Or.inl rfl) pe_int ip_fdiv) (pss_one (ps_aug (i := 3) sc_passes.nd rfl (Or.inl rfl) pe_int ip_add))))
      (pss_cons (ps_set (i := 4) sc_passes.nd rfl (Or.inl rfl) (pe_fx W hr (pa_cons (pv 1) (pa_cons (pv 2) (pa_cons (pv 0) pa_nil)))))
      (pss_cons (ps_if (pt_cmpR op_eq (pv 4) pe_int (nomark _)) (pss_one (ps_ret pe_bl)) pss_nil)
      (pss_cons (ps_for PassesOwn.never rfl (pi_range1 (by rfl) br (pa_cons (pv 3) pa_nil)) (pg_name (i := 5) sc_passes.nd rfl (Or.inl rfl))
        (pss_cons (ps_if (pt_cmpR op_eq (pv 4) (pe_op op_sub (pv 0) pe_int) (nomark _)) (pss_one (ps_ret pe_bl)) pss_nil)
          (pss_one (ps_set (i := 4) sc_passes.nd rfl (Or.inl rfl) (pe_op op_mod (pe_op op_mul (pv 4) (pv 4)) (pv 0))))))
      (pss_one (ps_ret pe_bl)))))))), ?_⟩
    refine ⟨_, rfl, _, _, rfl, rfl, ?_⟩
    refine ⟨fun σ' H' => ∃ d j : Nat, σ' = [some (.int (n : Int)), some (.int (wn : Int)), some (.int (d : Int)), some (.int (j : Int)), none, none] ∧ H' = H ∧ 0 < d ∧ j < 31 ∧ n - 1 = d * 2 ^ j, ?_, ?_⟩
    · refine ⟨fun m σ' H' => ∃ j : Nat, σ' = [some (.int (n : Int)), some (.int (wn : Int)), some (.int (m : Int)), some (.int (j : Int)), none, none] ∧ H' = H ∧ 0 < m ∧ n - 1 = m * 2 ^ j, ⟨n - 1, 0, ?_, rfl, by omega, by simp⟩, ?_⟩
      · rw [show ((n - 1 : Nat) : Int) = (n : Int) - 1 by omega]
        rfl
      · rintro m σ' H' ⟨j, rfl, rfl, m0, e⟩
        refine ⟨_, rfl, _, _, rfl, rfl, (by show (0 : Int) < 2; decide), rfl, _, rfl, ?_⟩
        refine ite2 (fun ho => ?_) (fun ho => ?_)
        · have ho := int_of ho
          refine ⟨fun σ' H1 => ∃ m', m' < m ∧ ∃ j : Nat, σ' = [some (.int (n : Int)), some (.int (wn : Int)), some (.int (m' : Int)), some (.int (j : Int)), none, none] ∧ H1 = H' ∧ 0 < m' ∧ n - 1 = m' * 2 ^ j, fun _ _ h => h, ?_⟩
          refine ⟨_, rfl, _, _, rfl, rfl, by decide, by decide, ?_⟩
          refine ⟨_, rfl, _, _, rfl, rfl, ?_⟩
          refine ⟨m / 2, by omega, j + 1, ?_, rfl, by omega, ?_⟩
          · rw [show ((m / 2 : Nat) : Int) = (m : Int) / 2 by omega]
            rfl
          · rw [e, Nat.pow_succ, Nat.mul_comm (2 ^ j) 2, ← Nat.mul_assoc]
            congr 1
            omega
        · refine ⟨m, j, rfl, rfl, m0, ?_, e⟩
          rcases Nat.lt_or_ge j 31 with z | z
          · exact z
          · have h1 : (2 : Nat) ^ 31 ≤ 2 ^ j := Nat.pow_le_pow_right (by decide) z
            have h2 : 1 * 2 ^ j ≤ m * 2 ^ j := Nat.mul_le_mul_right _ m0
            omega
    · rintro σ' H' ⟨d, j, rfl, rfl, d0, j1, e⟩
      refine ⟨_, rfl, _, rfl, _, rfl, wn, d, n, rfl, by omega, n3, ?_⟩
      have fm : wn ^ (d * 2 ^ j) % n = 1 := by
        rw [← e]
        exact M2.fermat pr hw
      have key := M2.mr pr j fm
      refine ⟨_, rfl, rfl, _, rfl, ?_⟩
      refine ite2 (fun h1 => k) (fun h1 => ?_)
      have h1 := int_nof h1
      have key2 : ∃ i, i < j ∧ wn ^ (d * 2 ^ i) % n = n - 1 := key.resolve_left (fun z => h1 (by rw [z]; rfl))
      refine ⟨_, rfl, _, rfl, by omega, by omega, ?_⟩
      rw [Int.toNat_natCast]
      refine for_range (lo := 0) (n := j) (fun i σ' H1 => ∃ v5 : Option V, σ' = [some (.int (n : Int)), some (.int (wn : Int)), some (.int (d : Int)), some (.int (j : Int)), some (.int ((wn ^ (d * 2 ^ i) % n : Nat) : Int)), v5] ∧ H1 = H' ∧ ∀ i', i' < i → wn ^ (d * 2 ^ i') % n ≠ n - 1) ⟨none, by rw [Nat.pow_zero, Nat.mul_one]; rfl, rfl, fun i' z => absurd z (Nat.not_lt_zero _)⟩ ?_ ?_
      · rintro i σ' H1 hi ⟨v5, rfl, rfl, no⟩
        refine ⟨_, rfl, _, rfl, _, _, rfl, rfl, rfl, _, rfl, ?_⟩
        refine ite2 (fun h2 => k) (fun h2 => ?_)
        have h2 := int_nof h2
        have lt : wn ^ (d * 2 ^ i) % n < n := Nat.mod_lt _ (by omega)
        refine ⟨_, rfl, _, rfl, _, _, rfl, rfl, .inl ⟨by omega, by omega⟩, _, rfl, _, _, rfl, rfl, (by omega), ?_⟩
        refine ⟨some (.int (0 + (i : Int))), ?_, rfl, fun i' hi' => ?_⟩
        · rw [show d * 2 ^ (i + 1) = d * 2 ^ i + d * 2 ^ i by rw [Nat.pow_succ, ← Nat.mul_assoc, Nat.mul_two], Nat.pow_add, Nat.mul_mod, ← cast_mm]
          rfl
        · rcases Nat.lt_or_ge i' i with z | z
          · exact no i' z
          · have : i' = i := by omega
            subst this
            omega
      · rintro σ' H1 ⟨v5, rfl, rfl, no⟩
        obtain ⟨i, hi, q⟩ := key2
        exact absurd q (no i hi)
theorem ok_is_prime {f c PT aW : Addr} {fd : FuncData} {T : List Addr} (F : Fun K "is_prime" "is_prime" s_is_prime f fd) (hc : fd.code = .ref c) (TB : GxR.TabB base mg c PT) (hPT : PT ∈ T) (ba : mg "all" = none) (gW : mg "WITNESSES" = some (.ref aW)) (hW : ∀ H, SqT K H aW WV)
    (W1 : Fx P w K mg base "is_whole" 1 ["value"] (spWhole K)) (W2 : Fx P w K mg base "passes" 2 ["number", "witness"] spPass) : FnOk P w K mg base CX0 4 f fd ["number"] (spPrime T) := by
  refine okT F hc sc_is_prime (fun vs H Q E h => ?_) (fun A outer s H vs Q E hr h => ?_)
  · obtain ⟨p, rfl, _⟩ := h
    rfl
  · obtain ⟨p, rfl, pr, p3, tb, k⟩ := h
    have p2 := pr.1
    refine ⟨_, (pss_cons (ps_if (PW.pt (pw_or (pt_not (pt_val (pe_fx W1 (hr.mono (by decide)) (pa_cons (pv 0) pa_nil)))) (pw_or1 (pt_cmpR op_lt (pv 0) pe_int (nomark _))))) (pss_one (ps_ret pe_bl)) pss_nil)
      (pss_cons (ps_for PassesOwn.never rfl (pi_sq (pe_glob (v := .ref aW) (by rfl) gW rfl)) (pg_name (i := 1) sc_is_prime.nd rfl (Or.inl rfl))
        (pss_one (ps_if (pt_cmpR op_eq (pe_op op_mod (pv 0) (pv 1)) pe_int (nomark _)) (pss_one (ps_ret (pe_cmpR op_eq (pv 0) (pv 1) (nomark _)))) pss_nil)))
      (pss_one (ps_ret (pe_allG (k := 2) (Ng := ["witness", "number"]) (src := [none, some 0]) (vs := [0]) (tt := tYes) hr (by rfl) ba (by decide +kernel) TB rfl (gscp_by (sc := defScope s_is_prime) (N := ["number", "witness"]) (by decide +kernel)) (pi_sq (pe_glob (v := .ref aW) (by rfl) gW rfl))
        (fun _ _ _ _ _ _ _ _ => pg_name (i := 0) (show List.Nodup (["witness", "number"] : List Str) from by decide +kernel) rfl (Or.inl rfl)) (fun _ _ _ _ _ _ _ _ => pts_nil) (fun _ _ _ _ _ _ _ hr2 => pe_fx W2 hr2 (pa_cons (pv 1) (pa_cons (pv 0) pa_nil))) (fun _ => rfl)))))), ?_⟩
    refine ⟨_, rfl, .int (p : Int), "int", true, false, rfl, .base (.int _), by decide +kernel, by decide +kernel, true, rfl, iteF ?_⟩
    refine ⟨_, rfl, _, _, rfl, rfl, _, rfl, ?_⟩
    refine ite2 (fun h1 => ?_) (fun _ => ?_)
    · have h1 : (p : Int) < 2 := of_decide_eq_true h1
      omega
    refine ⟨aW, WV, true, rfl, hW _, for_it walk_sq (fun i σ' H' => H' = H ∧ (∃ v1 : Option V, σ' = [some (.int (p : Int)), v1]) ∧ ∀ q ∈ WL.take i, p % q ≠ 0) ⟨rfl, ⟨none, rfl⟩, fun q hq => absurd hq (by simp)⟩ (fun i σ' H' _ ⟨e, _⟩ => by subst e; exact hW _) ?_ ?_⟩
    · rintro i x σ' H1 H2 hi ⟨rfl, ⟨v1, rfl⟩, no⟩ ⟨rfl, hx⟩
      obtain ⟨q, hq, hqi, rfl⟩ := wv_at hx
      have q2 := (wl_pr q hq).1
      refine ⟨_, rfl, _, rfl, _, _, rfl, rfl, (by omega), rfl, _, rfl, ?_⟩
      refine ite2 (fun h1 => ?_) (fun h1 => ?_)
      · have h1 := int_of h1
        have h1 : p % q = 0 := by
          rw [cast_mod] at h1
          omega
        have e := M2.pr_dvd pr q2 h1
        refine ⟨_, rfl, _, rfl, rfl, ?_⟩
        rw [e, decide_eq_true rfl]
        exact k _ (.refl T _)
      · have h1 := int_nof h1
        refine ⟨rfl, ⟨_, rfl⟩, fun r hr => ?_⟩
        rw [take_snoc hqi] at hr
        rcases List.mem_append.mp hr with hr | hr
        · exact no r hr
        · rw [List.mem_singleton.mp hr]
          intro z
          refine h1 ?_
          rw [cast_mod, z]
          rfl
    · rintro σ' H1 ⟨rfl, ⟨v1, rfl⟩, no⟩
      have no : ∀ q ∈ WL, p % q ≠ 0 := no
      have p5 : 2 < p := by
        have := no 2 (by decide)
        omega
      refine ⟨aW, WV, true, rfl, hW _, tb PT hPT, fun H2 tb2 => turns_it walk_sq (fun i ys H3 => Gr T H1 H3) (Gr.tabbed (tb PT hPT) tb2) (fun i ys H3 _ _ => hW _) ?_ (fun ys H3 g => k _ g)⟩
      rintro i x ys H3 H4 hi g ⟨rfl, hx⟩
      obtain ⟨q, hq, _, rfl⟩ := wv_at hx
      have q2 := wl_pr q hq
      refine ⟨rfl, ?_⟩
      dsimp only [tYes]
      refine iteT ?_
      refine ⟨_, rfl, _, rfl, p, q, rfl, pr, p5, p3, fun z => ?_, true, rfl, iteT g⟩
      have e := M2.pr_dvd q2 p2 z
      exact no q hq (by rw [e]; exact Nat.mod_self p)
end
end Z
set_option Elab.async false
set_option linter.all false
set_option maxRecDepth 100000
set_option maxHeartbeats 4000000
namespace Z
open PySem L2 PyProof.Rows ZX GX
/-! what is passed is looked at: check_prime, are_rows, check_rows -/
abbrev s_check_prime : Stmt := topS 13
abbrev s_are_rows : Stmt := topS 14
abbrev s_are_integers : Stmt := topS 15
abbrev s_check_rows : Stmt := topS 16
abbrev s_width_of : Stmt := topS 20
abbrev s_row_with : Stmt := topS 22
abbrev s_scaled : Stmt := topS 23
abbrev s_cleared : Stmt := topS 24
theorem sc_check_prime : FnScope ["prime"] ["prime"] (defScope s_check_prime) := ⟨rfl, rfl, rfl, by decide +kernel, rfl, by decide +kernel, by decide +kernel⟩
theorem sc_are_rows : FnScope ["rows", "row"] ["rows"] (defScope s_are_rows) := ⟨rfl, rfl, rfl, by decide +kernel, rfl, by decide +kernel, by decide +kernel⟩
theorem sc_are_integers : FnScope ["row"] ["row"] (defScope s_are_integers) := ⟨rfl, rfl, rfl, by decide +kernel, rfl, by decide +kernel, by decide +kernel⟩
theorem sc_check_rows : FnScope ["rows", "prime"] ["rows", "prime"] (defScope s_check_rows) := ⟨rfl, rfl, rfl, by decide +kernel, rfl, by decide +kernel, by decide +kernel⟩
theorem sc_width_of : FnScope ["rows"] ["rows"] (defScope s_width_of) := ⟨rfl, rfl, rfl, by decide +kernel, rfl, by decide +kernel, by decide +kernel⟩
theorem sc_row_with : FnScope ["rows", "column", "at", "row"] ["rows", "column"] (defScope s_row_with) := ⟨rfl, rfl, rfl, by decide +kernel, rfl, by decide +kernel, by decide +kernel⟩
theorem sc_scaled : FnScope ["row", "column", "prime", "factor", "number"] ["row", "column", "prime"] (defScope s_scaled) := ⟨rfl, rfl, rfl, by decide +kernel, rfl, by decide +kernel, by decide +kernel⟩
theorem sc_cleared : FnScope ["row", "pivot", "column", "prime", "factor", "number", "other"] ["row", "pivot", "column", "prime"] (defScope s_cleared) := ⟨rfl, rfl, rfl, by decide +kernel, rfl, by decide +kernel, by decide +kernel⟩
def spCkP (T : List Addr) : Sp := fun vs H Q _ => ∃ p : Nat, vs = [.int (p : Int)] ∧ M2.Pr p ∧ p ≤ 1000000007 ∧ Tabs T H ∧ ∀ H', Gr T H H' → Q .non H'
def spInts (T : List Addr) : Sp := fun vs H Q _ => ∃ (v : V) (r : List Int), vs = [v] ∧ RowV H v r ∧ Tabs T H ∧ ∀ H', Gr T H H' → Q (.bl true) H'
def spRows (T : List Addr) : Sp := fun vs H Q _ => ∃ (v : V) (R : List (List Int)) (n : Nat), vs = [v] ∧ MatV H v R ∧ (∀ r ∈ R, r.length = n) ∧ Tabs T H ∧ ∀ H', Gr T H H' → Q (.bl true) H'
def spCkR (T : List Addr) : Sp := fun vs H Q _ => ∃ (v : V) (R : List (List Int)) (n p : Nat), vs = [v, .int (p : Int)] ∧ MatV H v R ∧ (∀ r ∈ R, r.length = n) ∧ M2.Pr p ∧ p ≤ 1000000007 ∧ Tabs T H ∧ ∀ H', Gr T H H' → Q .non H'
def widR (R : List (List Int)) : Nat := match R with
  | [] => 0
  | r :: _ => r.length
def spWid : Sp := fun vs H Q _ => ∃ (v : V) (R : List (List Int)), vs = [v] ∧ MatV H v R ∧ Q (.int (widR R : Int)) H
section
variable {P : Program} {w : World} {K : PySem.W.Frag} {mg : Str → Option Value} {base : Heap} {T : List Addr}
theorem ok_check_prime {f : Addr} {fd : FuncData} {t : Tok} (F : Fun K "check_prime" "check_prime" s_check_prime f fd) (gL : mg "LARGEST_PRIME" = some (.int 1000000007 t)) (W1 : Fx P w K mg base "is_whole" 1 ["value"] (spWhole K)) (W4 : Fx P w K mg base "is_prime" 4 ["number"] (spPrime T)) :
    FnOk P w K mg base CX0 5 f fd ["prime"] (spCkP T) := by
  refine F.ok sc_check_prime (fun vs H Q E h => ?_) (fun cdv A outer s H vs Q E hr h => ?_)
  · obtain ⟨p, rfl, _⟩ := h
    rfl
  · obtain ⟨p, rfl, pr, p3, tb, k⟩ := h
    refine ⟨_, (pss_one (ps_if (PW.pt (pw_or (pt_not (pt_val (pe_fx W1 (hr.mono (by decide)) (pa_cons (pv 0) pa_nil)))) (pw_or (pt_cmpR op_gt (pv 0) (pe_glob (v := .int 1000000007) (by rfl) gL ⟨t, rfl⟩) (nomark _)) (pw_or1 (pt_not (pt_val (pe_fx W4 hr (pa_cons (pv 0) pa_nil)))))))) (pss_one ps_never) pss_nil)), ?_⟩
    refine ⟨_, rfl, .int (p : Int), "int", true, false, rfl, .base (.int _), by decide +kernel, by decide +kernel, true, rfl, iteF ?_⟩
    refine ⟨_, rfl, _, _, rfl, rfl, _, rfl, ?_⟩
    refine ite2 (fun h1 => ?_) (fun _ => ?_)
    · have h1 : (p : Int) > 1000000007 := of_decide_eq_true h1
      omega
    refine ⟨_, rfl, p, rfl, pr, by omega, tb, fun H' g => ⟨true, rfl, iteF ?_⟩⟩
    exact k H' g
theorem ok_are_integers {f c PT : Addr} {fd : FuncData} (F : Fun K "are_integers" "are_integers" s_are_integers f fd) (hc : fd.code = .ref c) (TB : GxR.TabB base mg c PT) (hPT : PT ∈ T) (ba : mg "all" = none)
    (W0 : Fx P w K mg base "is_list" 1 ["value"] spList) (W1 : Fx P w K mg base "is_whole" 1 ["value"] (spWhole K)) : FnOk P w K mg base CX0 3 f fd ["row"] (spInts T) := by
  refine okT F hc sc_are_integers (fun vs H Q E h => ?_) (fun A outer s H vs Q E hr h => ?_)
  · obtain ⟨v, r, rfl, _⟩ := h
    rfl
  · obtain ⟨v, r, rfl, ⟨a, t, rfl, hS⟩, tb, k⟩ := h
    refine ⟨_, (pss_one (ps_ret (pe_and (pe_fx W0 (hr.mono (by decide)) (pa_cons (pv 0) pa_nil)) (pe_one (pe_allG (k := 1) (Ng := ["number"]) (src := [none]) (vs := [0]) (tt := tYes) hr (by rfl) ba (by decide +kernel) TB rfl (gscp_by (sc := defScope s_are_integers) (N := ["row"]) (by decide +kernel)) (pi_sq (pv 0))
        (fun _ _ _ _ _ _ _ _ => pg_name (i := 0) (show List.Nodup (["number"] : List Str) from by decide +kernel) rfl (Or.inl rfl)) (fun _ _ _ _ _ _ _ _ => pts_nil) (fun _ _ _ _ _ _ _ hr2 => pe_fx W1 hr2 (pa_cons (pv 0) pa_nil)) (fun _ => rfl)))))), ?_⟩
    refine ⟨_, rfl, a, t, _, rfl, hS, fun H1 s1 => ⟨true, rfl, iteT ?_⟩⟩
    have g1 : Gr T H H1 := .same s1
    have tb1 := g1.tabs tb
    refine ⟨_, rfl, a, _, t, rfl, (g1.ext.sqh hS).sq, tb1 PT hPT, fun H2 tb2 => turns_it walk_sq (fun i ys H3 => Gr T H1 H3) (Gr.tabbed (tb1 PT hPT) tb2) (fun i ys H3 _ g => g.ext.sq (g1.ext.sqh hS).sq) ?_ (fun ys H3 g => k _ (g1.trans g))⟩
    rintro i x ys H3 H4 hi g ⟨rfl, hx⟩
    obtain ⟨z, _, rfl⟩ := row_at hx
    refine ⟨rfl, ?_⟩
    dsimp only [tYes]
    refine iteT ?_
    exact ⟨_, rfl, .int z, "int", true, false, rfl, .base (.int _), by decide +kernel, by decide +kernel, true, rfl, iteT g⟩
theorem ok_are_rows {f : Addr} {fd : FuncData} (F : Fun K "are_rows" "are_rows" s_are_rows f fd) (bn : mg "len" = none) (W0 : Fx P w K mg base "is_list" 1 ["value"] spList) (W3 : Fx P w K mg base "are_integers" 3 ["row"] (spInts T)) :
    FnOk P w K mg base CX0 4 f fd ["rows"] (spRows T) := by
  refine F.ok sc_are_rows (fun vs H Q E h => ?_) (fun cdv A outer s H vs Q E hr h => ?_)
  · obtain ⟨v, R, n, rfl, _⟩ := h
    rfl
  · obtain ⟨v, R, n, rfl, ⟨a, t, vs, rfl, hS, hA⟩, hn, tb, k⟩ := h
    refine ⟨_, (pss_cons (ps_if (pt_not (pt_val (pe_fx W0 (hr.mono (by decide)) (pa_cons (pv 0) pa_nil)))) (pss_one (ps_ret pe_bl)) pss_nil)
      (pss_cons (ps_for PassesOwn.never rfl (pi_sq (pv 0)) (pg_name (i := 1) sc_are_rows.nd rfl (Or.inl rfl))
        (pss_one (ps_if (PW.pt (pw_or (pt_not (pt_val (pe_fx W3 hr (pa_cons (pv 1) pa_nil)))) (pw_or1 (pt_cmpR op_ne (pe_callB lenH (by rfl) bn (by decide +kernel) (pa_cons (pv 1) pa_nil)) (pe_callB lenH (by rfl) bn (by decide +kernel) (pa_cons (pe_ix ixH (pv 0) pe_int (fun _ _ => rfl)) pa_nil)) (nomark _)))))
          (pss_one (ps_ret pe_bl)) pss_nil)))
      (pss_one (ps_ret pe_bl)))), ?_⟩
    refine ⟨_, rfl, a, t, _, rfl, hS, fun H1 s1 => ⟨true, rfl, iteF ?_⟩⟩
    have g1 : Gr T H H1 := .same s1
    refine ⟨_, rfl, a, vs, t, rfl, (g1.ext.sqh hS).sq, for_it walk_sq (fun i σ' H2 => Gr T H H2 ∧ ∃ v1 : Option V, σ' = [some (.ref a), v1]) ⟨g1, none, rfl⟩ (fun i σ' H2 _ ⟨g, _⟩ => (g.ext.sqh hS).sq) ?_ (fun σ' H2 ⟨g, v1, e⟩ => k _ g)⟩
    rintro i x σ' H2 H3 hi ⟨g, v1, rfl⟩ ⟨rfl, hx⟩
    obtain ⟨r, hr1, b, t2, rfl, hrow⟩ := hA.get hx
    have lr := hn r (List.mem_of_getElem? hr1)
    refine ⟨_, rfl, .ref b, r, rfl, ⟨b, t2, rfl, g.ext.sqh hrow⟩, g.tabs tb, fun H4 g4 => ⟨true, rfl, iteF ?_⟩⟩
    have g5 := g.trans g4
    have h0 : 0 < vs.length := by omega
    obtain ⟨r0, hr0, b0, t0, e0, hrow0⟩ := hA.get (List.getElem?_eq_getElem h0)
    have l0 := hn r0 (List.mem_of_getElem? hr0)
    refine ⟨_, rfl, t2, b, _, rfl, g5.ext.sqh hrow, _, rfl, t, a, vs, 0, _, rfl, rfl, g5.ext.sqh hS, List.getElem?_eq_getElem h0, t0, b0, _, by rw [e0], g5.ext.sqh hrow0, ?_⟩
    refine ⟨rfl, _, rfl, ?_⟩
    rw [List.length_map, List.length_map, lr, l0, decide_eq_true rfl]
    exact iteF ⟨g5, _, rfl⟩
theorem ok_check_rows {f : Addr} {fd : FuncData} (F : Fun K "check_rows" "check_rows" s_check_rows f fd) (W5 : Fx P w K mg base "check_prime" 5 ["prime"] (spCkP T)) (W4 : Fx P w K mg base "are_rows" 4 ["rows"] (spRows T)) :
    FnOk P w K mg base CX0 6 f fd ["rows", "prime"] (spCkR T) := by
  refine F.ok sc_check_rows (fun vs H Q E h => ?_) (fun cdv A outer s H vs Q E hr h => ?_)
  · obtain ⟨v, R, n, p, rfl, _⟩ := h
    rfl
  · obtain ⟨v, R, n, p, rfl, hM, hn, pr, p3, tb, k⟩ := h
    refine ⟨_, (pss_cons (ps_expr (pe_fx W5 hr (pa_cons (pv 1) pa_nil)))
      (pss_one (ps_if (pt_not (pt_val (pe_fx W4 (hr.mono (by decide)) (pa_cons (pv 0) pa_nil)))) (pss_one ps_never) pss_nil))), ?_⟩
    refine ⟨_, rfl, p, rfl, pr, p3, tb, fun H1 g1 => ?_⟩
    refine ⟨_, rfl, v, R, n, rfl, hM.ext g1.ext, hn, g1.tabs tb, fun H2 g2 => ⟨true, rfl, iteF ?_⟩⟩
    exact k _ (g1.trans g2)
theorem ok_width_of {f : Addr} {fd : FuncData} (F : Fun K "width_of" "width_of" s_width_of f fd) (bn : mg "len" = none) : FnOk P w K mg base CX0 1 f fd ["rows"] spWid := by
  refine F.ok sc_width_of (fun vs H Q E h => ?_) (fun cdv A outer s H vs Q E hr h => ?_)
  · obtain ⟨v, R, rfl, _⟩ := h
    rfl
  · obtain ⟨v, R, rfl, ⟨a, t, vs, rfl, hS, hA⟩, k⟩ := h
    refine ⟨_, (pss_one (ps_ret (pe_ifExp (pt_truth (pv 0) (by intro _; rfl)) (pe_callB lenH (by rfl) bn (by decide +kernel) (pa_cons (pe_ix ixH (pv 0) pe_int (fun _ _ => rfl)) pa_nil)) pe_int))), ?_⟩
    refine ⟨_, rfl, _, truH hS, ?_⟩
    cases hA with
    | nil => exact iteF k
    | @cons v r vs R hv t2 =>
      obtain ⟨b, t0, rfl, hrow⟩ := hv
      refine iteT ⟨_, rfl, t, a, _, 0, .ref b, rfl, rfl, hS, rfl, t0, b, _, rfl, hrow, ?_⟩
      rw [List.length_map]
      exact k
end
end Z
set_option Elab.async false
set_option linter.all false
set_option maxRecDepth 100000
set_option maxHeartbeats 4000000
namespace Z
open PySem L2 PyProof.Rows ZX GX
/-! rows: row_with, scaled, cleared -/
theorem ev_get {r : List Int} {c : Nat} (h : c < r.length) : (r.map V.int)[c]? = some (.int (M2.ev r c)) := by
  rw [List.getElem?_map, List.getElem?_eq_getElem h, M2.ev_at h]
  rfl
theorem same_upd {H H' : Hp} {q : Addr} {o : HO} (s : Same H H') (h : H' q = none) : Same H (upd H' q o) := s.trans (same_new h)
def spRw : Sp := fun vs H Q _ => ∃ (v : V) (L : List (List Int)) (c : Nat), vs = [v, .int (c : Int)] ∧ MatL H v L ∧ (∀ r ∈ L, c < r.length) ∧ ∀ H', Same H H' → Q (match M2.at? c L with
  | some k => .int (k : Int)
  | none => .non) H'
def spScl (T : List Addr) : Sp := fun vs H Q _ => ∃ (v : V) (r : List Int) (c p : Nat), vs = [v, .int (c : Int), .int (p : Int)] ∧ RowL H v r ∧ M2.Rng p r.length r ∧ c < r.length ∧ r.length < 1000 ∧ 1 < p ∧ p < 2 ^ 31 ∧
  ∀ H' a, Gr T H H' → H a = none → H' a = some (.lst ((M2.scaledL p c r).map V.int)) → Q (.ref a) H'
def spClr (T : List Addr) : Sp := fun vs H Q _ => ∃ (v pv : V) (r pr : List Int) (c p : Nat), vs = [v, pv, .int (c : Int), .int (p : Int)] ∧ RowL H v r ∧ RowL H pv pr ∧ r.length = pr.length ∧ M2.Rng p r.length r ∧ c < r.length ∧ r.length < 1000 ∧ 1 < p ∧ p < 2 ^ 31 ∧
  ∀ H' u, Gr T H H' → (u = v ∨ ∃ a, u = .ref a ∧ H a = none) → RowL H' u (M2.clearedL p c pr r) → Q u H'
section
variable {P : Program} {w : World} {K : PySem.W.Frag} {mg : Str → Option Value} {base : Heap} {T : List Addr}
theorem ok_row_with {f : Addr} {fd : FuncData} (F : Fun K "row_with" "row_with" s_row_with f fd) (be : mg "enumerate" = none) : FnOk P w K mg base CX0 1 f fd ["rows", "column"] spRw := by
  refine F.ok sc_row_with (fun vs H Q E h => ?_) (fun cdv A outer s H vs Q E hr h => ?_)
  · obtain ⟨v, L, c, rfl, _⟩ := h
    rfl
  · obtain ⟨v, L, c, rfl, ⟨a, vs, rfl, hS, hA⟩, hc, k⟩ := h
    refine ⟨_, (pss_cons (ps_for PassesOwn.never rfl (pi_enum (by rfl) be (pa_cons (pv 0) pa_nil)) (pg_tup rfl (pgs_cons (pg_name (i := 2) sc_row_with.nd rfl (Or.inl rfl)) (pgs_cons (pg_name (i := 3) sc_row_with.nd rfl (Or.inl rfl)) pgs_nil)))
        (pss_one (ps_if (pt_cmpR op_ne (pe_ix ixH (pv 3) (pv 1) (fun _ _ => rfl)) pe_int (nomark _)) (pss_one (ps_ret (pv 2))) pss_nil)))
      (pss_one (ps_ret pe_non))), ?_⟩
    refine ⟨_, rfl, a, vs, rfl, SqL.of hS, for_it walk_enum (fun i σ' H2 => Same H H2 ∧ (∃ v2 v3 : Option V, σ' = [some (.ref a), some (.int (c : Int)), v2, v3]) ∧ ∀ j, ∀ r, j < i → L[j]? = some r → M2.ev r c = 0) ⟨.refl H, ⟨none, none, rfl⟩, fun j r z => absurd z (Nat.not_lt_zero _)⟩ (fun i σ' H2 _ ⟨g, _⟩ => SqL.of (g _ _ hS)) ?_ ?_⟩
    · rintro i x σ' H2 H3 hi ⟨g, ⟨v2, v3, rfl⟩, no⟩ ⟨Tp, x1, x2, rfl, hT, rfl, e1, e2⟩
      cases e1
      obtain ⟨r, hr1, b, rfl, hrow⟩ := hA.get e2
      have lc := hc r (List.mem_of_getElem? hr1)
      have g3 : Same H (upd H2 Tp (.tup [.int (i : Int), .ref b])) := same_upd g hT
      refine ⟨Tp, _, rfl, SqT.of upd_same, rfl, _, _, rfl, _, _, rfl, rfl, ?_⟩
      refine ⟨_, rfl, _, rfl, false, b, _, c, _, rfl, rfl, g3 _ _ hrow, ev_get lc, rfl, _, rfl, ?_⟩
      refine ite2 (fun h1 => ?_) (fun h1 => ?_)
      · refine ⟨_, rfl, ?_⟩
        have h1 : M2.ev r c ≠ 0 := fun z => by
          rw [z] at h1
          simp at h1
        have hi2 : i < L.length := by rw [← hA.length]; exact hi
        have hf : M2.at? c L = some i := by
          refine List.findIdx?_eq_some_iff_getElem.mpr ⟨hi2, ?_, fun j hj => ?_⟩
          · have : L[i] = r := by
              rw [List.getElem?_eq_getElem hi2] at hr1
              exact Option.some.inj hr1
            rw [this]
            simpa using h1
          · have := no j L[j] hj (List.getElem?_eq_getElem (by omega))
            simpa using this
        have := k _ g3
        rw [hf] at this
        exact this
      · refine ⟨g3, ⟨_, _, rfl⟩, fun j r' hj e => ?_⟩
        rcases Nat.lt_or_ge j i with z | z
        · exact no j r' z e
        · have : j = i := by omega
          subst this
          rw [hr1] at e
          cases e
          refine Classical.byContradiction fun z => h1 ?_
          have : V.int (M2.ev r c) ≠ V.int 0 := fun q => z (by injection q)
          simpa using this
    · rintro σ' H2 ⟨g, ⟨v2, v3, rfl⟩, no⟩
      have hf : M2.at? c L = none := by
        refine List.findIdx?_eq_none_iff.mpr fun r hr1 => ?_
        obtain ⟨j, hj, e⟩ := List.mem_iff_getElem.mp hr1
        have := no j r (by rw [hA.length]; exact hj) (by rw [List.getElem?_eq_getElem hj, e])
        simpa using this
      have := k _ g
      rw [hf] at this
      exact this
theorem ok_scaled {f : Addr} {fd : FuncData} (F : Fun K "scaled" "scaled" s_scaled f fd) (W : Fx P w K mg base "inverse" 2 ["number", "prime"] spInv) : FnOk P w K mg base CX0 3 f fd ["row", "column", "prime"] (spScl T) := by
  refine F.ok sc_scaled (fun vs H Q E h => ?_) (fun cdv A outer s H vs Q E hr h => ?_)
  · obtain ⟨v, r, c, p, rfl, _⟩ := h
    rfl
  · obtain ⟨v, r, c, p, rfl, ⟨a, rfl, hS⟩, hR, hc, hz, p1, p2, k⟩ := h
    refine ⟨_, (pss_cons (ps_set (i := 3) sc_scaled.nd rfl (Or.inr rfl) (pe_fx W hr (pa_cons (pe_ix ixH (pv 0) (pv 1) (fun _ _ => rfl)) (pa_cons (pv 2) pa_nil))))
      (pss_one (ps_ret (pe_lc (own := [("number", 4)]) (g := gName 4) (tt := tYes) rfl sc_scaled.nd (pi_sq (pv 0)) (blkOk_by (own := [("number", 4)]) (N := ["row", "column", "prime", "factor", "number"]) (sc := defScope s_scaled) (by decide +kernel))
        (fun _ _ _ _ _ => pg_name (i := 4) sc_scaled.nd rfl (Or.inl rfl)) (fun _ _ _ _ _ => pts_nil) (fun _ _ _ _ _ => pe_op op_mod (pe_op op_mul (pv 4) (pv 3)) (pv 2)))))), ?_⟩
    have hp : 0 < p := by omega
    have x0 := hR.at hp c
    obtain ⟨b, hb⟩ : ∃ b : Nat, M2.ev r c = (b : Int) := ⟨(M2.ev r c).toNat, by omega⟩
    refine ⟨_, rfl, _, rfl, false, a, _, c, _, rfl, rfl, hS, ev_get hc, _, rfl, b, p, by rw [hb]; rfl, p1, p2, ?_⟩
    have hi : M2.inv p (M2.ev r c) = ((b ^ (p - 2) % p : Nat) : Int) := by
      rw [hb]
      rfl
    have il : b ^ (p - 2) % p < p := Nat.mod_lt _ hp
    refine ⟨_, rfl, a, _, false, rfl, sqL hS, fun D hD => lc_map (T := T) (M2.scaledL p c r) IntV walk_sq (by unfold M2.scaledL; rw [List.length_map, List.length_map]) (by rw [List.length_map]; exact small1000 (by omega)) hD (sqL hS) Ext.sqof (fun _ _ _ _ _ h => h) ?_ ?_⟩
    · rintro i x y H2 H3 Qc Nx hi2 ⟨rfl, hx⟩ hF g hacc kc
      obtain ⟨z, hz1, rfl⟩ := row_at hx
      refine ⟨rfl, ?_⟩
      dsimp only [tYes]
      refine iteT ?_
      have zr := hR.2 z (List.mem_of_getElem? hz1)
      refine ⟨_, rfl, _, rfl, _, _, rfl, rfl, .inl ⟨by omega, by omega⟩, _, rfl, _, _, rfl, rfl, (by omega), kc _ _ (.refl T _) ?_⟩
      unfold M2.scaledL at hF
      rw [List.getElem?_map, hz1] at hF
      have := Option.some.inj hF
      show V.int _ = V.int _
      rw [← this, hi]
    · intro H2 ys hD2 hA g
      refine k H2 D g hD ?_
      rw [← all_int hA]
      exact hD2
theorem ok_cleared {f : Addr} {fd : FuncData} (F : Fun K "cleared" "cleared" s_cleared f fd) (bz : mg "zip" = none) : FnOk P w K mg base CX0 1 f fd ["row", "pivot", "column", "prime"] (spClr T) := by
  refine F.ok sc_cleared (fun vs H Q E h => ?_) (fun cdv A outer s H vs Q E hr h => ?_)
  · obtain ⟨v, pv, r, pr, c, p, rfl, _⟩ := h
    rfl
  · obtain ⟨v, pw, r, pr, c, p, rfl, ⟨a, rfl, hS⟩, ⟨b, rfl, hB⟩, hl, hR, hc, hz, p1, p2, k⟩ := h
    refine ⟨_, (pss_cons (ps_set (i := 4) sc_cleared.nd rfl (Or.inr rfl) (pe_ix ixH (pv 0) (pv 2) (fun _ _ => rfl)))
      (pss_cons (ps_if (pt_cmpR op_eq (pv 4) pe_int (nomark _)) (pss_one (ps_ret (pv 0))) pss_nil)
      (pss_one (ps_ret (pe_lc (own := [("number", 5), ("other", 6)]) (g := gTup K 2 (gCons (gName 5) (gCons (gName 6) gNil))) (tt := tYes) rfl sc_cleared.nd (pi_zx (by rfl) bz (pa_cons (pv 0) (pa_cons (pv 1) pa_nil))) (blkOk_by (own := [("number", 5), ("other", 6)]) (N := ["row", "pivot", "column", "prime", "factor", "number", "other"]) (sc := defScope s_cleared) (by decide +kernel))
        (fun _ _ _ _ _ => pg_tup rfl (pgs_cons (pg_name (i := 5) sc_cleared.nd rfl (Or.inl rfl)) (pgs_cons (pg_name (i := 6) sc_cleared.nd rfl (Or.inl rfl)) pgs_nil))) (fun _ _ _ _ _ => pts_nil) (fun _ _ _ _ _ => pe_op op_mod (pe_op op_sub (pv 5) (pe_op op_mul (pv 4) (pv 6))) (pv 3))))))), ?_⟩
    have hp : 0 < p := by omega
    have x0 := hR.at hp c
    refine ⟨_, rfl, _, rfl, false, a, _, c, _, rfl, rfl, hS, ev_get hc, ?_⟩
    refine ⟨_, rfl, rfl, _, rfl, ?_⟩
    refine ite2 (fun h1 => ?_) (fun h1 => ?_)
    · have h1 := int_of h1
      refine ⟨_, rfl, k H _ (.refl T H) (.inl rfl) ⟨a, rfl, ?_⟩⟩
      unfold M2.clearedL
      rw [if_pos h1]
      exact hS
    · have h1 := int_nof h1
      have ec : M2.clearedL p c pr r = List.zipWith (fun x y => (x - M2.ev r c * y) % (p : Int)) r pr := by
        unfold M2.clearedL
        rw [if_neg h1]
      refine ⟨_, rfl, _, rfl, a, b, _, _, false, false, rfl, sqL hS, sqL hB, fun D hD => lc_map (T := T) (M2.clearedL p c pr r) IntV (walk_zx (by rw [List.length_map, List.length_map, hl])) (by rw [ec, List.length_map, List.length_zipWith]; omega) (by rw [List.length_map]; exact small1000 (by omega)) hD ⟨sqL hS, sqL hB⟩
        (fun H H' x h => ⟨x.sq h.1, x.sq h.2⟩) (fun _ _ _ _ _ h => h) ?_ ?_⟩
      · rintro i x y H2 H3 Qc Nx hi2 ⟨Tp, x1, x2, rfl, hT, rfl, e1, e2⟩ hF g hacc kc
        obtain ⟨z1, hz1, rfl⟩ := row_at e1
        obtain ⟨z2, hz2, rfl⟩ := row_at e2
        refine ⟨Tp, _, rfl, SqT.of upd_same, rfl, _, _, rfl, _, _, rfl, rfl, ?_⟩
        refine ⟨rfl, ?_⟩
        dsimp only [tYes]
        refine iteT ?_
        refine ⟨_, rfl, _, rfl, _, rfl, _, _, rfl, rfl, .inl ⟨by omega, by omega⟩, _, _, rfl, rfl, _, rfl, _, _, rfl, rfl, (by omega), kc _ _ (Gr.new hT) ?_⟩
        rw [ec, List.getElem?_zipWith, hz1, hz2] at hF
        have := Option.some.inj hF
        show V.int _ = V.int _
        rw [← this]
      · intro H2 ys hD2 hA g
        refine k H2 _ g (.inr ⟨D, rfl, hD⟩) ⟨D, rfl, ?_⟩
        rw [← all_int hA]
        exact hD2
end
end Z
set_option Elab.async false
set_option linter.all false
set_option maxRecDepth 100000
set_option maxHeartbeats 4000000
namespace Z
open PySem L2 PyProof.Rows ZX GX
/-! the reduction -/
abbrev s_reduced : Stmt := topS 21
theorem sc_reduced : FnScope ["rows", "prime", "left", "done", "column", "at", "pivot", "row", "number"] ["rows", "prime"] (defScope s_reduced) := ⟨rfl, rfl, rfl, by decide +kernel, rfl, by decide +kernel, by decide +kernel⟩
def valOf : Stmt → Expr
  | .Assign _ e _ => e
  | .Return (some e) _ => e
  | _ => .Constant .none 0 ⟨0, 0, 0, 0⟩
def lcSc : Expr → Scope
  | .ListComp _ _ sc _ => sc
  | _ => default
def lcElt : Expr → Expr
  | .ListComp e _ _ _ => e
  | e => e
def bodyAt (st : Stmt) (i : Nat) : Stmt := (defBody st).getD i (.Pass ⟨0, 0, 0, 0⟩)
theorem pi_sqK {X : Cx} (K : PySem.W.Frag) {tg l : Expr} {tl : TE} (hl : PE X l tl) (hK : X.K = K := by rfl) : PI X tg l (iSq K tl) := by
  subst hK
  exact pi_sq hl
def spRed (T : List Addr) : Sp := fun vs H Q _ => ∃ (v : V) (R : List (List Int)) (n p : Nat), vs = [v, .int (p : Int)] ∧ MatV H v R ∧ (∀ r ∈ R, r.length = n) ∧ R.length ≤ 500 ∧ n ≤ 500 ∧ M2.Pr p ∧ p < 2 ^ 31 ∧ Tabs T H ∧
  ∀ H' u, Gr T H H' → MatT H' u ((M2.stAt p R n).2.map (·.2)) → Q u H'
theorem RowL.mask {H : Hp} {v : V} {r : List Int} {D : Addr} (h : RowL H v r) (ne : v ≠ .ref D) : RowL (mask D H) v r := by
  obtain ⟨a, rfl, e⟩ := h
  refine ⟨a, rfl, ?_⟩
  rw [mask_ne (fun z => ne (by rw [z]))]
  exact e
/-- a row of numbers is no list of rows -/
theorem row_ne {H : Hp} {v : V} {r : List Int} {la : Addr} {ls : List V} (h : RowL H v r) (hl : H la = some (.lst ls)) (hr : ∀ x ∈ ls, ∃ b, x = .ref b) (h0 : 0 < r.length) : v ≠ .ref la := by
  obtain ⟨a, rfl, e⟩ := h
  intro z
  injection z with z
  rw [z, hl] at e
  injection e with e
  injection e with e
  cases r with
  | nil => simp at h0
  | cons x r =>
    rw [List.map_cons] at e
    obtain ⟨b, q⟩ := hr (.int x) (by rw [e]; exact List.mem_cons_self)
    cases q
theorem RowL.upd {H : Hp} {v : V} {r : List Int} {la : Addr} {o : HO} (h : RowL H v r) (ne : v ≠ .ref la) : RowL (upd H la o) v r := by
  obtain ⟨a, rfl, e⟩ := h
  refine ⟨a, rfl, ?_⟩
  rw [upd_ne (fun z => ne (by rw [z]))]
  exact e
theorem all_refs {H : Hp} {ls : List V} {L : List (List Int)} (h : All2 (RowL H) ls L) : ∀ x ∈ ls, ∃ b, x = .ref b := fun x hx => by
  obtain ⟨i, hi, e⟩ := List.mem_iff_getElem.mp hx
  obtain ⟨r, _, b, q, _⟩ := h.get (List.getElem?_eq_getElem hi)
  rw [e] at q
  exact ⟨b, q⟩
theorem All2.imp_mem {α β : Type} {P Q : α → β → Prop} {as : List α} {bs : List β} (h : All2 P as bs) (m : ∀ a b, b ∈ bs → P a b → Q a b) : All2 Q as bs := by
  induction h with
  | nil => exact .nil
  | cons h t ih => exact .cons (m _ _ List.mem_cons_self h) (ih fun a b hb => m a b (List.mem_cons_of_mem _ hb))
theorem stAt_nil (p : Nat) : ∀ c : Nat, M2.stAt p [] c = ([], [])
  | 0 => rfl
  | c + 1 => by
    show M2.stepL p c (M2.stAt p [] c) = _
    rw [stAt_nil p c]
    rfl
theorem seqIx {k n : Nat} (h : k < n) : seqIndex? (k : Int) n = some k := by
  unfold seqIndex?
  have h1 : ¬ ((k : Int) < 0) := by omega
  simp only [h1, if_false]
  first
    | (rw [if_pos (by omega)]; simp)
    | (simp; omega)
theorem asc_len : ∀ {l : List Nat} {lo n : Nat}, l.Pairwise (· < ·) → (∀ x ∈ l, lo ≤ x ∧ x < n) → l.length ≤ n - lo
  | [], _, _, _, _ => Nat.zero_le _
  | a :: r, lo, n, h, k => by
    obtain ⟨h1, h2⟩ := List.pairwise_cons.mp h
    have ha := k a List.mem_cons_self
    have := asc_len (l := r) (lo := a + 1) (n := n) h2 fun x hx => ⟨h1 x hx, (k x (List.mem_cons_of_mem _ hx)).2⟩
    rw [List.length_cons]
    omega
theorem done_len {p n c : Nat} {L : List (List Int)} {D : M2.Done} {S : List M2.Vec} (st : M2.St p n c L D S) : D.length ≤ c := by
  have := asc_len (lo := 0) (n := c) st.asc fun x hx => by
    obtain ⟨d, hd, rfl⟩ := List.mem_map.mp hx
    exact ⟨Nat.zero_le _, (st.pv d hd).1⟩
  rw [List.length_map] at this
  omega
theorem left_len (p : Nat) (R : List (List Int)) : ∀ c : Nat, (M2.stAt p R c).1.length ≤ R.length
  | 0 => by
    show (R.map _).length ≤ _
    rw [List.length_map]
    exact Nat.le_refl _
  | c + 1 => by
    show (M2.stepL p c (M2.stAt p R c)).1.length ≤ _
    unfold M2.stepL
    split
    · exact left_len p R c
    · show (List.map _ (List.eraseIdx _ _)).length ≤ _
      rw [List.length_map]
      exact Nat.le_trans (List.length_eraseIdx_le _ _) (left_len p R c)
section
variable {P : Program} {w : World} {K : PySem.W.Frag} {mg : Str → Option Value} {base : Heap} {T : List Addr}
theorem ok_reduced {f c PT : Addr} {fd : FuncData} (F : Fun K "reduced" "reduced" s_reduced f fd) (hc : fd.code = .ref c) (TB : GxR.TabB base mg c PT) (hPT : PT ∈ T) (br : mg "range" = none) (bt : mg "tuple" = none)
    (WW : Fx P w K mg base "width_of" 1 ["rows"] spWid) (WR : Fx P w K mg base "row_with" 1 ["rows", "column"] spRw) (WS : Fx P w K mg base "scaled" 3 ["row", "column", "prime"] (spScl T)) (WC : Fx P w K mg base "cleared" 1 ["row", "pivot", "column", "prime"] (spClr T)) :
    FnOk P w K mg base CX0 4 f fd ["rows", "prime"] (spRed T) := by
  refine okT F hc sc_reduced (fun vs H Q E h => ?_) (fun A outer s H vs Q E hr h => ?_)
  · obtain ⟨v, R, n, p, rfl, _⟩ := h
    rfl
  · obtain ⟨v, R, n, p, rfl, hM, hn, hR5, hn5, pr, p3, tb, k⟩ := h
    refine ⟨_, (pss_cons (ps_setLc (i := 2) (own := [("row", 7)]) (g := gName 7) (tt := tYes) rfl sc_reduced.nd rfl rfl (sw_true rfl rfl rfl (by decide +kernel)) (pi_sq (pv 0)) (blkOk_by (own := [("row", 7)]) (N := ["rows", "prime", "left", "done", "column", "at", "pivot", "row", "number"]) (sc := defScope s_reduced) (by decide +kernel))
          (fun _ _ _ _ _ => pg_name (i := 7) sc_reduced.nd rfl (Or.inl rfl)) (fun _ _ _ _ _ => pts_nil)
          (fun _ _ _ _ _ => pe_lc (own := [("number", 8)]) (g := gName 8) (tt := tYes) rfl sc_reduced.nd (pi_sqK K (pv 7)) (blkOk_by (own := [("number", 8)]) (N := ["rows", "prime", "left", "done", "column", "at", "pivot", "row", "number"]) (sc := relS (lcSc (valOf (bodyAt s_reduced 0))) (defScope s_reduced)) (by decide +kernel))
            (fun _ _ _ _ _ => pg_name (i := 8) sc_reduced.nd rfl (Or.inl rfl)) (fun _ _ _ _ _ => pts_nil) (fun _ _ _ _ _ => pe_op op_mod (pv 8) (pv 1))))
      (pss_cons (ps_set (i := 3) sc_reduced.nd rfl (Or.inl rfl) (pe_lst pa_nil))
      (pss_cons (ps_for PassesOwn.never rfl (pi_range1 (by rfl) br (pa_cons (pe_fx WW (hr.mono (by decide)) (pa_cons (pv 0) pa_nil)) pa_nil)) (pg_name (i := 4) sc_reduced.nd rfl (Or.inr rfl))
        (pss_cons (ps_set (i := 5) sc_reduced.nd rfl (Or.inl rfl) (pe_fx WR (hr.mono (by decide)) (pa_cons (pv 2) (pa_cons (pv 4) pa_nil))))
        (pss_cons (ps_if (pt_cmpR op_isN (pv 5) pe_non (nomark _)) (pss_one ps_continue) pss_nil)
        (pss_cons (ps_set (i := 6) sc_reduced.nd rfl (Or.inr rfl) (pe_fx WS hr (pa_cons (pe_bm PySem.F.plainAttrs_list PySem.F.slot_list_pop PySem.F.type_list_pop mt_popAt (pv 2) (pa_cons (pv 5) pa_nil)) (pa_cons (pv 4) (pa_cons (pv 1) pa_nil)))))
        (pss_cons (ps_setLc (i := 2) (own := [("row", 7)]) (g := gName 7) (tt := tYes) rfl sc_reduced.nd rfl rfl (sw_true rfl rfl rfl (by decide +kernel)) (pi_sq (pv 2)) (blkOk_by (own := [("row", 7)]) (N := ["rows", "prime", "left", "done", "column", "at", "pivot", "row", "number"]) (sc := defScope s_reduced) (by decide +kernel))
          (fun _ _ _ _ _ => pg_name (i := 7) sc_reduced.nd rfl (Or.inl rfl)) (fun _ _ _ _ _ => pts_nil) (fun _ _ _ _ _ => pe_fx WC (hr.mono (by decide)) (pa_cons (pv 7) (pa_cons (pv 6) (pa_cons (pv 4) (pa_cons (pv 1) pa_nil))))))
        (pss_cons (ps_setLc (i := 3) (own := [("row", 7)]) (g := gName 7) (tt := tYes) rfl sc_reduced.nd rfl rfl (sw_true rfl rfl rfl (by decide +kernel)) (pi_sq (pv 3)) (blkOk_by (own := [("row", 7)]) (N := ["rows", "prime", "left", "done", "column", "at", "pivot", "row", "number"]) (sc := defScope s_reduced) (by decide +kernel))
          (fun _ _ _ _ _ => pg_name (i := 7) sc_reduced.nd rfl (Or.inl rfl)) (fun _ _ _ _ _ => pts_nil) (fun _ _ _ _ _ => pe_fx WC (hr.mono (by decide)) (pa_cons (pv 7) (pa_cons (pv 6) (pa_cons (pv 4) (pa_cons (pv 1) pa_nil))))))
        (pss_one (ps_expr (pe_bm PySem.F.plainAttrs_list PySem.F.slot_list_append PySem.F.type_list_append mt_append (pv 3) (pa_cons (pv 6) pa_nil))))))))))
      (pss_one (ps_ret (pe_tupG (k := 0) (Ng := ["row"]) (src := [none]) (vs := [0]) (tt := tYes) (hr.mono (by decide)) (by rfl) bt TB rfl (gscp_by (sc := defScope s_reduced) (N := ["rows", "prime", "left", "done", "column", "at", "pivot", "row", "number"]) (by decide +kernel)) (pi_sq (pv 3))
        (fun _ _ _ _ _ _ _ _ => pg_name (i := 0) (show List.Nodup (["row"] : List Str) from by decide +kernel) rfl (Or.inl rfl)) (fun _ _ _ _ _ _ _ _ => pts_nil) (fun _ _ _ _ _ _ _ _ => pe_callTy (call_tupF K) (by rfl) bt PySem.Pv.boot_tuple (pa_cons (pv 0) pa_nil)) (fun _ => rfl))))))), ?_⟩
    obtain ⟨a, t, vs, rfl, hS, hA⟩ := hM
    have p2 := pr.1
    have hp : 0 < p := by omega
    have lvs : vs.length = R.length := hA.length
    have lsz : ∀ {m : Nat}, m ≤ 500 → m < sizeLine := fun h => small1000 (by omega)
    -- the rows modulo the prime
    refine ⟨_, rfl, a, vs, t, rfl, hS.sq, fun D hD => lc_map (T := T) (R.map fun r => r.map fun x => x % (p : Int)) RowL walk_sq (by rw [List.length_map]; exact lvs) (lsz (by omega)) hD hS.sq Ext.sqof (fun _ _ _ _ x h => h.ext x) ?_ ?_⟩
    · rintro i x r' H2 H3 Qc Nx hi2 ⟨rfl, hx⟩ hF g ⟨acc, hacc⟩ kc
      obtain ⟨r, hr1, b, t2, rfl, hrow⟩ := hA.get hx
      refine ⟨rfl, ?_⟩
      dsimp only [tYes]
      refine iteT ?_
      have er : r' = r.map fun x => x % (p : Int) := by
        rw [List.getElem?_map, hr1] at hF
        exact (Option.some.inj hF).symm
      have lr := hn r (List.mem_of_getElem? hr1)
      have hrow' := g.ext.sqh hrow
      refine ⟨_, rfl, b, _, t2, rfl, hrow'.sq, fun D2 hD2 => lc_map (T := T) r' IntV walk_sq (by rw [er, List.length_map, List.length_map]) (by rw [List.length_map]; exact lsz (by omega)) hD2 hrow'.sq Ext.sqof (fun _ _ _ _ _ h => h) ?_ ?_⟩
      · rintro j y z H4 H5 Qd Ny hj ⟨rfl, hy⟩ hG g4 hacc2 kd
        obtain ⟨z0, hz0, rfl⟩ := row_at hy
        refine ⟨rfl, ?_⟩
        dsimp only [tYes]
        refine iteT ?_
        refine ⟨_, rfl, _, rfl, _, _, rfl, rfl, (by omega), kd _ _ (.refl T _) ?_⟩
        rw [er, List.getElem?_map, hz0] at hG
        show V.int _ = V.int _
        rw [← Option.some.inj hG]
      · intro H4 ys hD4 hA4 g4
        refine kc _ _ g4 (RowL.mask ⟨D2, rfl, ?_⟩ ?_)
        · rw [← all_int hA4]
          exact hD4
        · intro z
          injection z with z
          rw [z, hacc] at hD2
          cases hD2
    intro H1 ls0 hL0 hA0 g0
    refine ⟨(by show 0 ≤ sizeLine; exact Nat.zero_le _), fun da0 hda0 => ?_⟩
    have hd0 : H da0 = none := g0.stay _ hda0
    have g1 : Gr T H (upd H1 da0 (.lst [])) := g0.trans (Gr.new hda0)
    have x1 : Ext H1 (upd H1 da0 (.lst [])) := (Gr.new (T := T) hda0).ext
    -- the columns
    refine ⟨_, rfl, .ref a, R, rfl, ⟨a, t, vs, rfl, g1.ext.sqh hS, hA.mono fun _ _ h => h.ext g1.ext⟩, ?_⟩
    have hwn : widR R ≤ n := by
      cases R with
      | nil => exact Nat.zero_le _
      | cons r R => exact Nat.le_of_eq (hn r List.mem_cons_self)
    refine ⟨_, rfl, by omega, by omega, ?_⟩
    rw [Int.toNat_natCast]
    refine for_range (lo := 0) (n := widR R) (fun cc σ' H' => ∃ (la da : Addr) (ls ds : List V) (v4 v5 v6 : Option V), σ' = [some (.ref a), some (.int (p : Int)), some (.ref la), some (.ref da), v4, v5, v6, none, none] ∧ H la = none ∧ H da = none ∧ la ≠ da ∧ H' la = some (.lst ls) ∧ All2 (RowL H') ls (M2.stAt p R cc).1 ∧ H' da = some (.lst ds) ∧ All2 (RowL H') ds ((M2.stAt p R cc).2.map (·.2)) ∧ Gr T H H')
      ⟨D, da0, ls0, [], none, none, none, rfl, hD, hd0, (fun z => by rw [← z, hL0] at hda0; cases hda0), x1 _ _ hL0 (fun _ z => by cases z), hA0.mono fun _ _ h => h.ext x1, upd_same, .nil, g1⟩ ?_ ?_
    · rintro cc σ' H' hcc ⟨la, da, ls, ds, v4, v5, v6, rfl, hla, hda, hne, eL, aL, eD, aD, g⟩
      have st := M2.st_at pr hn cc
      have wn : widR R = n := by
        cases R with
        | nil => exact absurd hcc (Nat.not_lt_zero _)
        | cons r R => exact hn r List.mem_cons_self
      have cn : cc < n := by omega
      have lenL : ∀ r ∈ (M2.stAt p R cc).1, r.length = n := fun r hr => (st.rl r hr).1
      rw [show (0 : Int) + (cc : Int) = (cc : Int) by omega]
      refine ⟨_, rfl, _, rfl, .ref la, (M2.stAt p R cc).1, cc, rfl, ⟨la, ls, rfl, eL, aL⟩, (fun r hr => by rw [lenL r hr]; exact cn), fun H2 s2 => ?_⟩
      have g2 : Gr T H H2 := g.trans (.same s2)
      have x2 : Ext H' H2 := (Gr.same (T := T) s2).ext
      refine ⟨_, rfl, rfl, _, rfl, ?_⟩
      have nxt : M2.stAt p R (cc + 1) = M2.stepL p cc (M2.stAt p R cc) := rfl
      cases hat : M2.at? cc (M2.stAt p R cc).1 with
      | none =>
        rw [decide_eq_true rfl]
        refine iteT ?_
        have e1 : M2.stAt p R (cc + 1) = M2.stAt p R cc := by
          rw [nxt]
          unfold M2.stepL
          rw [hat]
        refine ⟨la, da, ls, ds, _, _, v6, rfl, hla, hda, hne, s2 _ _ eL, ?_, s2 _ _ eD, ?_, g2⟩
        · rw [e1]
          exact aL.mono fun _ _ h => h.ext x2
        · rw [e1]
          exact aD.mono fun _ _ h => h.ext x2
      | some kk =>
        refine ite2 (fun h => absurd (of_decide_eq_true h) (by intro z; cases z)) (fun _ => ?_)
        obtain ⟨hk, hx⟩ := M2.at_some hat
        have hk2 : kk < ls.length := by rw [aL.length]; exact hk
        obtain ⟨rk, hrk, rowk⟩ := aL.get (List.getElem?_eq_getElem hk2)
        have erk : rk = (M2.stAt p R cc).1[kk] := by
          rw [List.getElem?_eq_getElem hk] at hrk
          exact (Option.some.inj hrk).symm
        have lrk := lenL rk (List.mem_of_getElem? hrk)
        have k500 : kk < 2 ^ 62 := by
          have h1 := aL.length
          have h2 : (M2.stAt p R cc).1.length ≤ 500 := by
            exact Nat.le_trans (left_len p R cc) hR5
          omega
        have rk_la : ls[kk] ≠ .ref la := row_ne rowk eL (all_refs aL) (by omega)
        have notla : ∀ {v : V} {r : List Int}, RowL H2 v r → r.length = n → v ≠ .ref la := fun {v r} h lr => row_ne h (s2 _ _ eL) (all_refs aL) (by omega)
        -- left.pop(at)
        refine ⟨_, rfl, .inl ⟨rfl, _, SqL.of (s2 _ _ eL)⟩, _, rfl, la, ls, _, kk, _, rfl, rfl, s2 _ _ eL, by omega, by omega, seqIx hk2, List.getElem?_eq_getElem hk2, ?_⟩
        have g3 : Gr T H (upd H2 la (.lst (ls.eraseIdx kk))) := g2.upd hla
        have up : ∀ {v : V} {r : List Int}, RowL H' v r → r.length = n → RowL (upd H2 la (.lst (ls.eraseIdx kk))) v r := fun {v r} h lr => (h.ext x2).upd (notla (h.ext x2) lr)
        have rng : M2.Rng p rk.length rk := by rw [lrk]; exact st.rl rk (List.mem_of_getElem? hrk)
        refine ⟨_, rfl, _, rfl, ls[kk], rk, cc, p, rfl, up rowk lrk, rng, by omega, by omega, by omega, by omega, fun H3 pa g4 hpa0 hpa => ?_⟩
        generalize hH3 : upd H2 la (.lst (ls.eraseIdx kk)) = Hp3 at *
        have ela3 : Hp3 la = some (.lst (ls.eraseIdx kk)) := by rw [← hH3]; exact upd_same
        have eda3 : Hp3 da = some (.lst ds) := by rw [← hH3, upd_ne (Ne.symm hne)]; exact s2 _ _ eD
        have piv : RowL H3 (.ref pa) (M2.scaledL p cc rk) := ⟨pa, rfl, hpa⟩
        have lpiv : (M2.scaledL p cc rk).length = n := by unfold M2.scaledL; rw [List.length_map]; exact lrk
        -- left cleared
        have aL3 : All2 (RowL H3) (ls.eraseIdx kk) ((M2.stAt p R cc).1.eraseIdx kk) := (aL.erase kk).imp_mem fun v r hr h => (up h (lenL r (List.mem_of_mem_eraseIdx hr))).ext g4.ext
        have ela4 := g4.ext _ _ ela3 (fun _ z => by cases z)
        refine ⟨_, rfl, la, _, false, rfl, sqL ela4, fun D1 hD1 => lc_map (T := T) (((M2.stAt p R cc).1.eraseIdx kk).map (M2.clearedL p cc (M2.scaledL p cc rk))) RowL walk_sq (by rw [List.length_map]; exact aL3.length) ?_ hD1 (sqL ela4) Ext.sqof (fun _ _ _ _ x h => h.ext x) ?_ ?_⟩
        · have h1 := aL3.length
          have h2 := List.length_eraseIdx_le (M2.stAt p R cc).1 kk
          have := left_len p R cc
          exact lsz (by omega)
        · rintro i x r' Ha Hb Qc Nx hi2 ⟨rfl, hx⟩ hF ga ⟨acc, hacc⟩ kc
          obtain ⟨r, hr1, hrow⟩ := aL3.get hx
          have lr := lenL r (List.mem_of_mem_eraseIdx (List.mem_of_getElem? hr1))
          refine ⟨rfl, ?_⟩
          dsimp only [tYes]
          refine iteT ?_
          rw [List.getElem?_map, hr1] at hF
          have hF := Option.some.inj hF
          refine ⟨_, rfl, _, rfl, _, rfl, _, rfl, x, .ref pa, r, M2.scaledL p cc rk, cc, p, rfl, hrow.ext ga.ext, piv.ext ga.ext, by omega, ?_, by omega, by omega, by omega, by omega, fun Hc u gc hu hrow2 => kc u Hc gc ?_⟩
          · rw [lr]
            exact st.rl r (List.mem_of_mem_eraseIdx (List.mem_of_getElem? hr1))
          · rw [← hF]
            refine hrow2.mask ?_
            rcases hu with rfl | ⟨b, rfl, hb⟩
            · obtain ⟨b, rfl, eb⟩ := hrow
              intro z
              injection z with z
              rw [z, hD1] at eb
              cases eb
            · intro z
              injection z with z
              rw [z, hacc] at hb
              cases hb
        intro H5 ls5 eL5 aL5 g5
        -- done cleared
        have aD3 : All2 (RowL H5) ds ((M2.stAt p R cc).2.map (·.2)) := aD.imp_mem fun v r hr h => by
          obtain ⟨d, hd, rfl⟩ := List.mem_map.mp hr
          exact ((up h (st.rd d hd).1).ext g4.ext).ext g5.ext
        have lenD : ∀ r ∈ (M2.stAt p R cc).2.map (·.2), r.length = n := fun r hr => by
          obtain ⟨d, hd, rfl⟩ := List.mem_map.mp hr
          exact (st.rd d hd).1
        have eda5 := g5.ext _ _ (g4.ext _ _ eda3 (fun _ z => by cases z)) (fun _ z => by cases z)
        have dlen : ds.length ≤ 500 := by
          have h1 := aD.length
          rw [List.length_map] at h1
          have h2 := st.asc
          have h3 := done_len st
          omega
        have piv5 := piv.ext g5.ext
        refine ⟨_, rfl, da, _, false, rfl, sqL eda5, fun D2 hD2 => lc_map (T := T) (((M2.stAt p R cc).2.map (·.2)).map (M2.clearedL p cc (M2.scaledL p cc rk))) RowL walk_sq (by rw [List.length_map]; exact aD3.length) (lsz dlen) hD2 (sqL eda5) Ext.sqof (fun _ _ _ _ x h => h.ext x) ?_ ?_⟩
        · rintro i x r' Ha Hb Qc Nx hi2 ⟨rfl, hx⟩ hF ga ⟨acc, hacc⟩ kc
          obtain ⟨r, hr1, hrow⟩ := aD3.get hx
          have lr := lenD r (List.mem_of_getElem? hr1)
          refine ⟨rfl, ?_⟩
          dsimp only [tYes]
          refine iteT ?_
          rw [List.getElem?_map, hr1] at hF
          have hF := Option.some.inj hF
          refine ⟨_, rfl, _, rfl, _, rfl, _, rfl, x, .ref pa, r, M2.scaledL p cc rk, cc, p, rfl, hrow.ext ga.ext, piv5.ext ga.ext, by omega, ?_, by omega, by omega, by omega, by omega, fun Hc u gc hu hrow2 => kc u Hc gc ?_⟩
          · rw [lr]
            obtain ⟨d, hd, rfl⟩ := List.mem_map.mp (List.mem_of_getElem? hr1)
            exact st.rd d hd
          · rw [← hF]
            refine hrow2.mask ?_
            rcases hu with rfl | ⟨b, rfl, hb⟩
            · obtain ⟨b, rfl, eb⟩ := hrow
              intro z
              injection z with z
              rw [z, hD2] at eb
              cases eb
            · intro z
              injection z with z
              rw [z, hacc] at hb
              cases hb
        intro H6 ds6 eD6 aD6 g6
        have piv6 := piv5.ext g6.ext
        have g36 : Gr T Hp3 H6 := (g4.trans g5).trans g6
        have gH6 : Gr T H H6 := g3.trans g36
        have hD1H : H D1 = none := (g3.trans g4).stay _ hD1
        have hD2H : H D2 = none := ((g3.trans g4).trans g5).stay _ hD2
        have eL6 := g6.ext _ _ eL5 (fun _ z => by cases z)
        have D12 : D1 ≠ D2 := fun z => by rw [z, hD2] at eL5; cases eL5
        have lclr : ∀ {r : List Int}, r.length = n → (M2.clearedL p cc (M2.scaledL p cc rk) r).length = n := fun {r} lr => by
          unfold M2.clearedL
          split
          · exact lr
          · rw [List.length_zipWith, lr, lpiv]
            omega
        have notD2 : ∀ {v : V} {r : List Int}, RowL H6 v r → r.length = n → v ≠ .ref D2 := fun {v r} h lr => row_ne h eD6 (all_refs aD6) (by omega)
        -- done.append(pivot)
        refine ⟨_, rfl, .inl ⟨rfl, _, SqL.of eD6⟩, _, rfl, D2, _, _, rfl, rfl, eD6, ?_, ?_⟩
        · have := aD6.length
          rw [List.length_map] at this
          have h1 := aD3.length
          exact lsz (by omega)
        · have e1 : M2.stAt p R (cc + 1) = (((M2.stAt p R cc).1.eraseIdx kk).map (M2.clearedL p cc (M2.scaledL p cc rk)), ((M2.stAt p R cc).2.map fun d => (d.1, M2.clearedL p cc (M2.scaledL p cc rk) d.2)) ++ [(cc, M2.scaledL p cc rk)]) := by
            rw [nxt]
            unfold M2.stepL
            rw [hat]
            have eg : (M2.stAt p R cc).1.getD kk [] = rk := by rw [List.getD_eq_getElem?_getD, hrk]; rfl
            simp only [eg]
          have hF2 : ((M2.stAt p R (cc + 1)).2.map (·.2)) = ((M2.stAt p R cc).2.map (·.2)).map (M2.clearedL p cc (M2.scaledL p cc rk)) ++ [M2.scaledL p cc rk] := by
            rw [e1, List.map_append, List.map_map, List.map_map]
            rfl
          refine ⟨D1, D2, ls5, _, _, _, _, rfl, hD1H, hD2H, D12, ?_, ?_, upd_same, ?_, gH6.upd hD2H⟩
          · rw [upd_ne D12]
            exact eL6
          · rw [e1]
            refine aL5.imp_mem fun v r hr h => ?_
            obtain ⟨r0, hr0, rfl⟩ := List.mem_map.mp hr
            have h6 := h.ext g6.ext
            exact h6.upd (notD2 h6 (lclr (lenL r0 (List.mem_of_mem_eraseIdx hr0))))
          · rw [hF2]
            refine All2.app (aD6.imp_mem fun v r hr h => ?_) (.cons (piv6.upd (notD2 piv6 lpiv)) .nil)
            obtain ⟨r0, hr0, rfl⟩ := List.mem_map.mp hr
            exact h.upd (notD2 h (lclr (lenD r0 hr0)))
    · rintro σ' H' ⟨la, da, ls, ds, v4, v5, v6, rfl, hla, hda, hne, eL, aL, eD, aD, g⟩
      have eR : (M2.stAt p R (widR R)).2 = (M2.stAt p R n).2 := by
        cases R with
        | nil => rw [stAt_nil, stAt_nil]
        | cons r R => rw [show widR (r :: R) = n from hn r List.mem_cons_self]
      rw [eR] at aD
      have tb2 := g.tabs tb
      have dlen : ds.length ≤ 500 := by
        have h1 := aD.length
        rw [List.length_map] at h1
        have st := M2.st_at pr hn n
        have h3 := done_len st
        omega
      refine ⟨_, rfl, da, ds, false, rfl, sqL eD, tb2 PT hPT, fun H2 tb3 => turns_it walk_sq (fun i ys H3 => All2 (RowT H3) ys (((M2.stAt p R n).2.map (·.2)).take i) ∧ Gr T H' H3) ⟨.nil, Gr.tabbed (tb2 PT hPT) tb3⟩ (fun i ys H3 _ ⟨_, g3⟩ => g3.ext.sq (sqL eD)) ?_ ?_⟩
      · rintro i x ys H3 H4 hi ⟨a3, g3⟩ ⟨rfl, hx⟩
        obtain ⟨r, hr1, b, rfl, eb⟩ := aD.get hx
        refine ⟨rfl, ?_⟩
        dsimp only [tYes]
        refine iteT ?_
        have lys : ys.length = i := by
          rw [a3.length, List.length_take]
          have := aD.length
          omega
        refine ⟨_, rfl, b, _, rfl, SqL.of (g3.ext _ _ eb (fun _ z => by cases z)), fun l u hl hu => ⟨by rw [lys]; exact lsz (by omega), ?_, g3.trans (Gr.new hl)⟩⟩
        rw [take_snoc hr1]
        exact (a3.mono fun _ _ h => h.ext (Gr.new (T := T) hl).ext).snoc ⟨l, rfl, hu⟩
      · rintro ys H3 ⟨a3, g3⟩
        intro q hq
        have a3 : All2 (RowT H3) ys (((M2.stAt p R n).2.map (·.2)).take ds.length) := a3
        rw [List.take_of_length_le (by rw [aD.length]; exact Nat.le_refl _)] at a3
        exact k _ _ ((g.trans g3).trans (Gr.new hq)) ⟨q, ys, rfl, upd_same, a3.mono fun _ _ h => h.ext (Gr.new (T := T) hq).ext⟩
end
end Z
set_option Elab.async false
set_option linter.all false
set_option maxRecDepth 100000
set_option maxHeartbeats 4000000
namespace Z
open PySem L2 PyProof.Rows ZX GX
/-! rank_of, echelon, solved -/
abbrev s_rank_of : Stmt := topS 17
abbrev s_echelon : Stmt := topS 18
abbrev s_solved : Stmt := topS 19
theorem sc_rank_of : FnScope ["rows", "prime"] ["rows", "prime"] (defScope s_rank_of) := ⟨rfl, rfl, rfl, by decide +kernel, rfl, by decide +kernel, by decide +kernel⟩
theorem sc_echelon : FnScope ["rows", "prime"] ["rows", "prime"] (defScope s_echelon) := ⟨rfl, rfl, rfl, by decide +kernel, rfl, by decide +kernel, by decide +kernel⟩
theorem sc_solved : FnScope ["rows", "right", "prime", "width", "answer", "row", "at", "number"] ["rows", "right", "prime"] (defScope s_solved) := ⟨rfl, rfl, rfl, by decide +kernel, rfl, by decide +kernel, by decide +kernel⟩
theorem ints_of_vals : ∀ {ns : List Int} {us : List Value}, Vals (ns.map V.int) us → IntsAre us ns
  | [], _, .nil => .nil
  | n :: ns, _, .cons r t => by
    obtain ⟨k, rfl⟩ := r
    exact .cons n k (ints_of_vals t)
/-- t.index(k), t a tuple of whole numbers that holds k -/
theorem mt_tix {X : Cx} : MtR X "tuple.index" (fun x xs H Q => ∃ (p : Addr) (r : List Int) (k : Int), x = .ref p ∧ xs = [.int k] ∧ SqT X.K H p (r.map V.int) ∧ k ∈ r ∧ Q (.int (r.idxOf k : Nat)) H) := by
  intro pins s σ H x xs v us Q I rx rs h
  obtain ⟨p, r, k, rfl, rfl, hq, hk, q⟩ := h
  cases rx
  obtain ⟨u, rfl, t, rfl⟩ := vals1 rs
  obtain ⟨its, rv, pl, hz⟩ := I.tuple hq
  exact PySem.SeqAt.tuple_index_ints pl (ints_of_vals rv) hk ⟨.int _, H, I.tok _, ⟨_, rfl⟩, q⟩
theorem ixT {X : Cx} : IxR X (fun x y H Q => ∃ (a : Addr) (xs : List V) (i : Nat) (v : V), x = .ref a ∧ y = .int (i : Int) ∧ TupF H a xs ∧ xs[i]? = some v ∧ Q v H) := by
  intro value slice pins s σ H x y v u Q I rx ry h
  obtain ⟨a, xs, i, z, rfl, rfl, hS, hz, q⟩ := h
  exact ix_seq (X := X) value slice pins s σ H _ _ v u Q I rx ry (.inr (.inl ⟨a, xs, i, z, rfl, rfl, hS.sq, atI_nat hz, q⟩))
/-- what solved answers -/
structure Ans (D : M2.Done) (n : Nat) (xs : List Int) : Prop where
  len : xs.length = n
  at' : ∀ d ∈ D, M2.ev xs d.1 = M2.ev d.2 n
  out : ∀ j, j ∉ D.map (·.1) → M2.ev xs j = 0
def aug (R : List (List Int)) (b : List Int) : List (List Int) := List.zipWith (fun r z => r ++ [z]) R b
/-- what rank_of, echelon and solved take -/
structure Inp (R : List (List Int)) (n p : Nat) : Prop where
  len : ∀ r ∈ R, r.length = n
  few : R.length ≤ 500
  sml : n ≤ 499
  pr : M2.Pr p
  top : p ≤ 1000000007
def spRk (T : List Addr) : Sp := fun vs H Q _ => ∃ (v : V) (R : List (List Int)) (n p : Nat), vs = [v, .int (p : Int)] ∧ MatV H v R ∧ Inp R n p ∧ Tabs T H ∧ ∀ H', Gr T H H' → Q (.int ((M2.stAt p R n).2.length : Int)) H'
def spEc (T : List Addr) : Sp := fun vs H Q _ => ∃ (v : V) (R : List (List Int)) (n p : Nat), vs = [v, .int (p : Int)] ∧ MatV H v R ∧ Inp R n p ∧ Tabs T H ∧ ∀ H' u, Gr T H H' → MatT H' u ((M2.stAt p R n).2.map (·.2)) → Q u H'
def spSv (T : List Addr) : Sp := fun vs H Q _ => ∃ (v vb : V) (R : List (List Int)) (b : List Int) (n p : Nat), vs = [v, vb, .int (p : Int)] ∧ MatV H v R ∧ RowV H vb b ∧ b.length = R.length ∧ R ≠ [] ∧ Inp R n p ∧ Tabs T H ∧
  (∀ H', Gr T H H' → (∃ d ∈ (M2.stAt p (aug R b) (n + 1)).2, d.1 = n) → Q .non H') ∧
  ∀ H' u xs, Gr T H H' → (∀ d ∈ (M2.stAt p (aug R b) (n + 1)).2, d.1 ≠ n) → RowT H' u xs → Ans (M2.stAt p (aug R b) (n + 1)).2 n xs → Q u H'
theorem pa_starK {X : Cx} (K : PySem.W.Frag) {e : Expr} {es : List Expr} {te : TE} {t : TA} {p : Pos} (he : PE X e te) (hr : PA X es t) (hK : X.K = K := by rfl) (hs : starEach (.Starred e p :: es) X.env = (true, eval e X.env) :: starEach es X.env := by rfl) : PA X (.Starred e p :: es) (StX.tStar K te t) := by
  subst hK
  exact StX.pa_star he hr hs
theorem aug_len {R : List (List Int)} {b : List Int} {n : Nat} (h : ∀ r ∈ R, r.length = n) : ∀ r ∈ aug R b, r.length = n + 1 := fun r hr => by
  unfold aug at hr
  obtain ⟨i, hi, e⟩ := List.mem_iff_getElem.mp hr
  rw [List.getElem_zipWith] at e
  rw [← e, List.length_append, h _ (List.getElem_mem _)]
  rfl
theorem idx_one {r : List Int} {c : Nat} (h1 : M2.ev r c = 1) (hc : c < r.length) (h0 : ∀ i, i < c → M2.ev r i = 0) : (1 : Int) ∈ r ∧ r.idxOf 1 = c := by
  have e : r[c] = 1 := by rw [← M2.ev_at hc]; exact h1
  have hm : (1 : Int) ∈ r := by rw [← e]; exact List.getElem_mem hc
  refine ⟨hm, ?_⟩
  have hl := List.idxOf_lt_length_iff.mpr hm
  have hg : r[r.idxOf 1] = 1 := List.getElem_idxOf hl
  rcases Nat.lt_trichotomy (r.idxOf 1) c with z | z | z
  · have := h0 _ z
    rw [M2.ev_at hl, hg] at this
    cases this
  · exact z
  · have := List.not_of_lt_findIdx (p := (· == (1 : Int))) (xs := r) (i := c) z
    rw [e] at this
    simp at this
theorem rep_ints (n : Nat) : (List.replicate n [V.int 0]).flatten = (List.replicate n (0 : Int)).map V.int := by
  induction n with
  | zero => rfl
  | succ n ih =>
    rw [List.replicate_succ, List.flatten_cons, ih]
    rfl
theorem ev_set {xs : List Int} {c j : Nat} {z : Int} (hc : c < xs.length) : M2.ev (xs.set c z) j = if j = c then z else M2.ev xs j := by
  unfold M2.ev
  rw [List.getD_eq_getElem?_getD, List.getD_eq_getElem?_getD, List.getElem?_set]
  by_cases h : j = c
  · rw [if_pos h.symm, if_pos h, if_pos hc]
    rfl
  · rw [if_neg (Ne.symm h), if_neg h]
theorem ev_rep {n j : Nat} : M2.ev (List.replicate n 0) j = 0 := by
  unfold M2.ev
  rw [List.getD_eq_getElem?_getD, List.getElem?_replicate]
  split <;> rfl
section
variable {P : Program} {w : World} {K : PySem.W.Frag} {mg : Str → Option Value} {base : Heap} {T : List Addr}
theorem ok_rank_of {f : Addr} {fd : FuncData} (F : Fun K "rank_of" "rank_of" s_rank_of f fd) (bn : mg "len" = none) (WC : Fx P w K mg base "check_rows" 6 ["rows", "prime"] (spCkR T)) (WR : Fx P w K mg base "reduced" 4 ["rows", "prime"] (spRed T)) :
    FnOk P w K mg base CX0 7 f fd ["rows", "prime"] (spRk T) := by
  refine F.ok sc_rank_of (fun vs H Q E h => ?_) (fun cdv A outer s H vs Q E hr h => ?_)
  · obtain ⟨v, R, n, p, rfl, _⟩ := h
    rfl
  · obtain ⟨v, R, n, p, rfl, hM, hI, tb, k⟩ := h
    refine ⟨_, (pss_cons (ps_expr (pe_fx WC hr (pa_cons (pv 0) (pa_cons (pv 1) pa_nil))))
      (pss_one (ps_ret (pe_callB lenH (by rfl) bn (by decide +kernel) (pa_cons (pe_fx WR (hr.mono (by decide)) (pa_cons (pv 0) (pa_cons (pv 1) pa_nil))) pa_nil))))), ?_⟩
    have p3 := hI.top
    refine ⟨_, rfl, _, rfl, v, R, n, p, rfl, hM, hI.len, hI.pr, p3, tb, fun H1 g1 => ?_⟩
    refine ⟨_, rfl, _, rfl, v, R, n, p, rfl, hM.ext g1.ext, hI.len, hI.few, by have := hI.sml; omega, hI.pr, by omega, g1.tabs tb, fun H2 u g2 hT => ?_⟩
    obtain ⟨a, vs, rfl, hS, hA⟩ := hT
    refine ⟨true, a, vs, rfl, hS, ?_⟩
    rw [hA.length, List.length_map]
    exact k _ (g1.trans g2)
theorem ok_echelon {f : Addr} {fd : FuncData} (F : Fun K "echelon" "echelon" s_echelon f fd) (WC : Fx P w K mg base "check_rows" 6 ["rows", "prime"] (spCkR T)) (WR : Fx P w K mg base "reduced" 4 ["rows", "prime"] (spRed T)) :
    FnOk P w K mg base CX0 7 f fd ["rows", "prime"] (spEc T) := by
  refine F.ok sc_echelon (fun vs H Q E h => ?_) (fun cdv A outer s H vs Q E hr h => ?_)
  · obtain ⟨v, R, n, p, rfl, _⟩ := h
    rfl
  · obtain ⟨v, R, n, p, rfl, hM, hI, tb, k⟩ := h
    refine ⟨_, (pss_cons (ps_expr (pe_fx WC hr (pa_cons (pv 0) (pa_cons (pv 1) pa_nil))))
      (pss_one (ps_ret (pe_fx WR (hr.mono (by decide)) (pa_cons (pv 0) (pa_cons (pv 1) pa_nil)))))), ?_⟩
    have p3 := hI.top
    refine ⟨_, rfl, _, rfl, v, R, n, p, rfl, hM, hI.len, hI.pr, p3, tb, fun H1 g1 => ?_⟩
    refine ⟨_, rfl, _, rfl, v, R, n, p, rfl, hM.ext g1.ext, hI.len, hI.few, by have := hI.sml; omega, hI.pr, by omega, g1.tabs tb, fun H2 u g2 hT => k _ _ (g1.trans g2) hT⟩
theorem ok_solved {f : Addr} {fd : FuncData} (F : Fun K "solved" "solved" s_solved f fd) (bn : mg "len" = none) (bz : mg "zip" = none) (bt : mg "tuple" = none) (WC : Fx P w K mg base "check_rows" 6 ["rows", "prime"] (spCkR T)) (WI : Fx P w K mg base "are_integers" 3 ["row"] (spInts T))
    (WW : Fx P w K mg base "width_of" 1 ["rows"] spWid) (WR : Fx P w K mg base "reduced" 4 ["rows", "prime"] (spRed T)) :
    FnOk P w K mg base CX0 7 f fd ["rows", "right", "prime"] (spSv T) := by
  refine F.ok sc_solved (fun vs H Q E h => ?_) (fun cdv A outer s H vs Q E hr h => ?_)
  · obtain ⟨v, vb, R, b, n, p, rfl, _⟩ := h
    rfl
  · obtain ⟨v, vb, R, b, n, p, rfl, hM, hB, hbl, hR0, hI, tb, k1, k2⟩ := h
    refine ⟨_, (pss_cons (ps_expr (pe_fx WC hr (pa_cons (pv 0) (pa_cons (pv 2) pa_nil))))
      (pss_cons (ps_if (PW.pt (pw_or (pt_not (pt_val (pe_fx WI (hr.mono (by decide)) (pa_cons (pv 1) pa_nil)))) (pw_or1 (pt_cmpR op_ne (pe_callB lenH (by rfl) bn (by decide +kernel) (pa_cons (pv 1) pa_nil)) (pe_callB lenH (by rfl) bn (by decide +kernel) (pa_cons (pv 0) pa_nil)) (nomark _))))) (pss_one ps_never) pss_nil)
      (pss_cons (ps_set (i := 3) sc_solved.nd rfl (Or.inl rfl) (pe_fx WW (hr.mono (by decide)) (pa_cons (pv 0) pa_nil)))
      (pss_cons (ps_set (i := 4) sc_solved.nd rfl (Or.inl rfl) (pe_op op_rep (pe_lst (pa_cons pe_int pa_nil)) (pv 3)))
      (pss_cons (ps_for PassesOwn.never rfl (pi_sq (pe_fx WR (hr.mono (by decide)) (pa_cons
            (pe_lc (own := [("row", 5), ("number", 7)]) (g := gTup K 2 (gCons (gName 5) (gCons (gName 7) gNil))) (tt := tYes) rfl sc_solved.nd (pi_zx (by rfl) bz (pa_cons (pv 0) (pa_cons (pv 1) pa_nil))) (blkOk_by (own := [("row", 5), ("number", 7)]) (N := ["rows", "right", "prime", "width", "answer", "row", "at", "number"]) (sc := defScope s_solved) (by decide +kernel))
              (fun _ _ _ _ _ => pg_tup rfl (pgs_cons (pg_name (i := 5) sc_solved.nd rfl (Or.inl rfl)) (pgs_cons (pg_name (i := 7) sc_solved.nd rfl (Or.inl rfl)) pgs_nil))) (fun _ _ _ _ _ => pts_nil) (fun _ _ _ _ _ => pe_lst (pa_starK K (pv 5) (pa_cons (pv 7) pa_nil))))
            (pa_cons (pv 2) pa_nil)))) (pg_name (i := 5) sc_solved.nd rfl (Or.inl rfl))
          (pss_cons (ps_set (i := 6) sc_solved.nd rfl (Or.inl rfl) (pe_bmF PySem.F.slot_tuple_index PySem.F.type_tuple_index mt_tix (pv 5) (pa_cons pe_int pa_nil)))
          (pss_cons (ps_if (pt_cmpR op_eq (pv 6) (pv 3) (nomark _)) (pss_one (ps_ret pe_non)) pss_nil)
          (pss_one (ps_asg (pe_ix ixT (pv 5) (pv 3) (fun _ _ => rfl)) (pg_sub (pv 4) (pv 6) set_list))))))
      (pss_one (ps_ret (pe_callTy (call_tupF K) (by rfl) bt PySem.Pv.boot_tuple (pa_cons (pv 4) pa_nil))))))))), ?_⟩
    have p3 := hI.top
    have hn := hI.len
    have hpr := hI.pr
    have hfew := hI.few
    have hsml := hI.sml
    refine ⟨_, rfl, _, rfl, v, R, n, p, rfl, hM, hn, hpr, p3, tb, fun H1 g1 => ?_⟩
    refine ⟨_, rfl, _, b, rfl, hB.ext g1.ext, g1.tabs tb, fun H2 g2 => ⟨true, rfl, iteF ?_⟩⟩
    have g02 := g1.trans g2
    obtain ⟨ab, tb2, rfl, hbS⟩ := hB.ext g02.ext
    obtain ⟨am, tm, vs, rfl, hmS, hmA⟩ := hM.ext g02.ext
    refine ⟨_, rfl, tb2, ab, _, rfl, hbS, _, rfl, tm, am, _, rfl, hmS, rfl, _, rfl, ?_⟩
    rw [List.length_map, hmA.length, hbl, decide_eq_true rfl]
    refine iteF ?_
    have wn : widR R = n := by
      cases R with
      | nil => exact absurd rfl hR0
      | cons r R => exact hn r List.mem_cons_self
    refine ⟨_, rfl, .ref am, R, rfl, ⟨am, tm, vs, rfl, hmS, hmA⟩, ?_⟩
    rw [wn]
    have lsz : ∀ {m : Nat}, m ≤ 500 → m < sizeLine := fun h => small1000 (by omega)
    -- the answer
    refine ⟨(by show 1 ≤ sizeLine; exact Nat.le_of_lt (lsz (by decide))), fun q0 hq0 => ?_⟩
    refine ⟨_, rfl, q0, (n : Int), _, rfl, rfl, upd_same, by omega, by omega, ?_, fun qa hqa => ?_⟩
    · rw [Int.toNat_natCast, List.length_singleton, Nat.one_mul]
      exact Nat.le_of_lt (lsz (by omega))
    rw [Int.toNat_natCast, rep_ints]
    generalize hHa : upd H2 q0 (.lst [.int 0]) = Ha at *
    have ga : Gr T H2 Ha := by rw [← hHa]; exact Gr.new hq0
    have gA : Gr T H Ha := g02.trans ga
    have hqaH : H qa = none := gA.stay _ hqa
    generalize hHb : upd Ha qa (.lst ((List.replicate n (0 : Int)).map V.int)) = Hb at *
    have gb : Gr T H Hb := by rw [← hHb]; exact gA.trans (Gr.new hqa)
    have xb : Ext H2 Hb := by rw [← hHb]; exact ga.ext.trans (Gr.new (T := T) hqa).ext
    have eqa : Hb qa = some (.lst ((List.replicate n (0 : Int)).map V.int)) := by rw [← hHb]; exact upd_same
    have mS := xb.sqh hmS
    have mA := hmA.mono fun _ _ h => h.ext xb
    have bS := xb.sqh hbS
    -- the rows with their right sides
    refine ⟨_, rfl, _, rfl, am, ab, vs, _, tm, tb2, rfl, mS.sq, bS.sq, fun D0 hD0 => lc_map (T := T) (aug R b) RowL (walk_zx (by rw [List.length_map, mA.length, hbl])) (by unfold aug; rw [List.length_zipWith, mA.length, hbl]; omega) (by rw [mA.length]; exact lsz (by omega)) hD0 ⟨mS.sq, bS.sq⟩
      (fun H H' x h => ⟨x.sq h.1, x.sq h.2⟩) (fun _ _ _ _ x h => h.ext x) ?_ ?_⟩
    · rintro i x y H3 H4 Qc Nx hi2 ⟨Tp, x1, x2, rfl, hT, rfl, e1, e2⟩ hF g ⟨acc, hacc⟩ kc
      obtain ⟨r, hr1, c, t3, rfl, hrow⟩ := mA.get e1
      obtain ⟨z, hz, rfl⟩ := row_at e2
      have lr := hn r (List.mem_of_getElem? hr1)
      refine ⟨Tp, _, rfl, SqT.of upd_same, rfl, _, _, rfl, _, _, rfl, rfl, ?_⟩
      refine ⟨rfl, ?_⟩
      dsimp only [tYes]
      refine iteT ?_
      have hrow' := (g.trans (Gr.new (o := .tup [.ref c, .int z]) hT)).ext.sqh hrow
      refine ⟨_, rfl, c, r.map V.int, rfl, ?_, _, rfl, ?_, fun q hq => kc _ _ (((Gr.new hT)).trans (Gr.new hq)) (RowL.mask ⟨q, rfl, ?_⟩ ?_)⟩
      · cases t3
        · exact .inr (SqL.of hrow')
        · exact .inl (SqT.of hrow')
      · rw [List.length_append, List.length_map, lr]
        show n + 1 ≤ _
        exact Nat.le_of_lt (lsz (by omega))
      · have hF2 := hF
        unfold aug at hF2
        rw [List.getElem?_zipWith, hr1, hz] at hF2
        rw [← Option.some.inj hF2, upd_same, List.map_append]
        rfl
      · intro e
        injection e with e
        rw [e, upd_ne (fun e2 => by rw [e2, hT] at hacc; cases hacc), hacc] at hq
        cases hq
    intro Hc ys hDc hAc gc
    have gHc : Gr T H Hc := gb.trans gc
    have few2 : (aug R b).length ≤ 500 := by unfold aug; rw [List.length_zipWith]; omega
    refine ⟨_, rfl, .ref D0, aug R b, n + 1, p, rfl, (MatL.v ⟨D0, ys, rfl, hDc, hAc⟩), aug_len hn, few2, by omega, hpr, by omega, gHc.tabs tb, fun Hd u gd hMt => ?_⟩
    obtain ⟨pt, us, rfl, hpt, hAt⟩ := hMt
    have ec := M2.ech hpr (aug_len (b := b) hn)
    have eqa2 : Hd qa = some (.lst ((List.replicate n (0 : Int)).map V.int)) := gd.ext _ _ (gc.ext _ _ eqa (fun _ z => by cases z)) (fun _ z => by cases z)
    have gHd : Gr T H Hd := gHc.trans gd
    generalize hD : (M2.stAt p (aug R b) (n + 1)).2 = D at *
    have lus : us.length = D.length := by rw [hAt.length, List.length_map]
    refine ⟨pt, us, true, rfl, sqT hpt, for_it walk_sq (fun i σ' H' => ∃ (xs : List Int) (v5 v6 : Option V), σ' = [some (.ref am), some (.ref ab), some (.int (p : Int)), some (.int (n : Int)), some (.ref qa), v5, v6, none] ∧ Gr T H H' ∧ H' qa = some (.lst (xs.map V.int)) ∧ xs.length = n ∧ (∀ d ∈ D.take i, d.1 ≠ n ∧ M2.ev xs d.1 = M2.ev d.2 n) ∧ (∀ j, j ∉ (D.take i).map (·.1) → M2.ev xs j = 0) ∧ H' pt = some (.tup us) ∧ All2 (RowT H') us (D.map (·.2)))
      ⟨_, none, none, rfl, gHd, eqa2, List.length_replicate, (fun d hd => by cases hd), (fun j _ => ev_rep), hpt, hAt⟩ (fun i σ' H' _ ⟨_, _, _, _, _, _, _, _, _, h, _⟩ => sqT h) ?_ ?_⟩
    · rintro i x σ' H3 H4 hi ⟨xs, v5, v6, rfl, g, eq, lx, an, ou, ept, aA⟩ ⟨rfl, hx⟩
      obtain ⟨r, hr1, c, rfl, erow⟩ := aA.get hx
      have hi2 : i < D.length := by omega
      have er : r = D[i].2 := by
        rw [List.getElem?_map, List.getElem?_eq_getElem hi2] at hr1
        exact (Option.some.inj hr1).symm
      have hmem := List.getElem_mem hi2
      obtain ⟨c1, c2, c3⟩ := ec.pv _ hmem
      have lr : r.length = n + 1 := by rw [er]; exact (ec.rd _ hmem).1
      obtain ⟨m1, m2⟩ := idx_one (r := r) (c := D[i].1) (by rw [er]; exact c2) (by rw [lr]; exact c1) (by rw [er]; exact c3)
      refine ⟨_, rfl, ⟨c, _, rfl, erow⟩, c, r, 1, rfl, rfl, erow.sq, m1, ?_⟩
      rw [m2]
      refine ⟨_, rfl, _, rfl, rfl, _, rfl, ?_⟩
      refine ite2 (fun h1 => ?_) (fun h1 => ?_)
      · have h1 : D[i].1 = n := by have := int_of h1; omega
        exact k1 _ g ⟨_, hmem, h1⟩
      · have h1 : D[i].1 ≠ n := by have := int_nof h1; omega
        have hlt : D[i].1 < xs.length := by omega
        refine ⟨_, rfl, _, rfl, c, _, n, _, rfl, rfl, erow, ev_get (by omega), _, rfl, _, rfl, qa, _, _, D[i].1, rfl, rfl, eq, ?_, ?_⟩
        · unfold ixN
          rw [List.length_map, if_pos (by omega), if_pos (by omega), Int.toNat_natCast]
        have hne : ∀ {b : Addr} {o : HO}, H4 b = some o → o ≠ .lst (xs.map V.int) → b ≠ qa := fun e1 e2 e3 => by
          rw [e3, eq] at e1
          exact e2 (Option.some.inj e1).symm
        refine ⟨xs.set D[i].1 (M2.ev r n), _, _, rfl, g.upd hqaH, ?_, by rw [List.length_set]; exact lx, fun d hd => ?_, fun j hj => ?_, ?_, ?_⟩
        · rw [upd_same, List.map_set]
        · rw [take_snoc (List.getElem?_eq_getElem hi2)] at hd
          rcases List.mem_append.mp hd with hd | hd
          · obtain ⟨n1, n2⟩ := an d hd
            refine ⟨n1, ?_⟩
            rw [ev_set hlt]
            split
            · next z =>
              exfalso
              obtain ⟨j, hj, ej⟩ := List.mem_iff_getElem.mp hd
              rw [List.length_take] at hj
              rw [List.getElem_take] at ej
              have a := ec.asc
              rw [List.pairwise_map] at a
              have := List.pairwise_iff_getElem.mp a j i (by omega) hi2 (by omega)
              rw [ej] at this
              omega
            · exact n2
          · rw [List.mem_singleton.mp hd]
            refine ⟨h1, ?_⟩
            rw [ev_set hlt, if_pos rfl, er]
        · rw [take_snoc (List.getElem?_eq_getElem hi2), List.map_append] at hj
          rw [ev_set hlt, if_neg (fun z => hj (List.mem_append.mpr (.inr (by rw [z]; exact List.mem_singleton.mpr rfl))))]
          exact ou j fun z => hj (List.mem_append.mpr (.inl z))
        · rw [upd_ne (hne ept (fun z => by cases z))]
          exact ept
        · refine aA.mono fun v r ⟨b, e1, ob, e2, e3⟩ => ⟨b, e1, ob, ?_, e3⟩
          rw [upd_ne (hne e2 (fun z => by cases z))]
          exact e2
    · rintro σ' H3 ⟨xs, v5, v6, rfl, g, eq, lx, an, ou, ept, aA⟩
      have eT : D.take us.length = D := by rw [lus, List.take_length]
      rw [eT] at an ou
      refine ⟨_, rfl, qa, _, rfl, SqL.of eq, fun l u hl hu => ?_⟩
      exact k2 _ _ xs (g.trans (Gr.new hl)) (fun d hd => (an d hd).1) ⟨l, rfl, hu⟩ ⟨lx, fun d hd => (an d hd).2, ou⟩
end
end Z
set_option Elab.async false
set_option linter.all false
set_option maxRecDepth 100000
set_option maxHeartbeats 2000000
namespace M2
/-! the law's own elimination -/
variable {p n : Nat}
def restL (p : Nat) : Done → List Int → List Int
  | [], r => r
  | (c, l) :: B, r => restL p B (clearedL p c l r)
theorem restL_app : ∀ (B C : Done) (r : List Int), restL p (B ++ C) r = restL p C (restL p B r)
  | [], _, _ => rfl
  | (c, l) :: B, C, r => restL_app B C _
theorem restL_rng (hp : 0 < p) : ∀ {B : Done} {r : List Int}, (∀ d ∈ B, Rng p n d.2) → Rng p n r → Rng p n (restL p B r)
  | [], _, _, h => h
  | (c, l) :: B, r, hB, h => restL_rng (B := B) hp (fun d hd => hB d (List.mem_cons_of_mem _ hd)) (cleared_rng hp h (hB (c, l) List.mem_cons_self))
theorem restL_ev (hp : 0 < p) : ∀ {B : Done} {r : List Int}, (∀ d ∈ B, Rng p n d.2) → Rng p n r → ∀ i, (p : Int) ∣ ev (restL p B r) i - rest (bas B) (ev r) i
  | [], r, _, h, i => by
    show (p : Int) ∣ ev r i - ev r i
    rw [Int.sub_self]
    exact Int.dvd_zero _
  | (c, l) :: B, r, hB, h, i => by
    have hl := hB (c, l) List.mem_cons_self
    have h1 := restL_ev (B := B) hp (fun d hd => hB d (List.mem_cons_of_mem _ hd)) (cleared_rng hp h hl (c := c)) i
    refine dvd_tr h1 ?_
    show (p : Int) ∣ rest (bas B) (ev (clearedL p c l r)) i - rest (bas B) (fun i => ev r i - ev r c * ev l i) i
    exact rest_congr (fun j => by rw [cleared_ev hp h hl]; exact emod_dvd _) i
def fstNZ (r : List Int) : Option Nat := r.findIdx? fun x => x != 0
theorem nz_none {r : List Int} (h : fstNZ r = none) (i : Nat) : ev r i = 0 := by
  rcases Nat.lt_or_ge i r.length with z | z
  · rw [ev_at z]
    have := (List.findIdx?_eq_none_iff.mp h) r[i] (List.getElem_mem z)
    simpa using this
  · exact ev_out z
theorem nz_some {r : List Int} {c : Nat} (h : fstNZ r = some c) : c < r.length ∧ ev r c ≠ 0 ∧ ∀ i, i < c → ev r i = 0 := by
  obtain ⟨hc, h1, h2⟩ := List.findIdx?_eq_some_iff_getElem.mp h
  refine ⟨hc, ?_, fun i hi => ?_⟩
  · rw [ev_at hc]
    simpa using h1
  · have := h2 i hi
    rw [ev_at (Nat.lt_trans hi hc)]
    simpa using this
def basStep (p : Nat) (B : Done) (row : List Int) : Done :=
  match fstNZ (restL p B (row.map fun x => x % (p : Int))) with
  | none => B
  | some c => B ++ [(c, scaledL p c (restL p B (row.map fun x => x % (p : Int))))]
def basL (p : Nat) (R : List (List Int)) : Done := R.foldl (basStep p) []
/-- a basis that the law made -/
structure LB (p n : Nat) (B : Done) (S : List Vec) : Prop where
  rd : ∀ d ∈ B, Rng p n d.2
  tri : Tri p (bas B)
  led : Led p (bas B)
  pl : ∀ d ∈ B, d.1 < n
  sp : ∀ v, Sp p ((bas B).map (·.2)) v ↔ Sp p S v
theorem Sp.mono {S T : List Vec} {v : Vec} (h : ∀ r ∈ S, r ∈ T) (hv : Sp p S v) : Sp p T v := hv.trans fun r hr => .mem (h r hr)
theorem row_mod (hp : 0 < p) {r : List Int} (h : r.length = n) : Rng p n (r.map fun x => x % (p : Int)) := ⟨by rw [List.length_map]; exact h, fun x hx => by
  obtain ⟨y, _, rfl⟩ := List.mem_map.mp hx
  exact mod_rng hp _⟩
theorem row_mod_ev (r : List Int) (i : Nat) : (p : Int) ∣ ev (r.map fun x => x % (p : Int)) i - ev r i := by
  rw [ev_map (by simp)]
  exact emod_dvd _
theorem bas_app (B C : Done) : bas (B ++ C) = bas B ++ bas C := List.map_append
theorem bas_step (pr : Pr p) {B : Done} {S : List Vec} (h : LB p n B S) {row : List Int} (hr : row.length = n) : LB p n (basStep p B row) (S ++ [ev row]) := by
  have hp : 0 < p := by have := pr.1; omega
  have p2 := pr.1
  have r0 := row_mod hp hr
  have rr := restL_rng hp h.rd r0
  have re := restL_ev hp h.rd r0
  generalize hq : restL p B (row.map fun x => x % (p : Int)) = q at *
  -- row and q differ by the span
  have dif : Sp p ((bas B).map (·.2)) fun i => ev row i - ev q i := (rest_diff (p := p) (B := bas B) (v := ev (row.map fun x => x % (p : Int)))).congr fun i => by
    have h1 := re i
    have h2 := row_mod_ev (p := p) row i
    have h3 := Int.dvd_add h1 h2
    have h4 := Int.dvd_neg.mpr h3
    rwa [show ∀ a b c d : Int, -(a - b + (c - d)) = (d - a) - (c - b) from fun a b c d => by omega] at h4
  have upS : ∀ r ∈ S, r ∈ S ++ [ev row] := fun r hr => List.mem_append.mpr (.inl hr)
  unfold basStep
  rw [hq]
  cases hz : fstNZ q with
  | none =>
    refine ⟨h.rd, h.tri, h.led, h.pl, fun v => ⟨fun hv => ((h.sp v).mp hv).mono upS, fun hv => hv.trans fun r hr => ?_⟩⟩
    rcases List.mem_append.mp hr with hr | hr
    · exact (h.sp r).mpr (.mem hr)
    · rw [List.mem_singleton.mp hr]
      exact dif.congr fun i => by
        rw [nz_none hz i]
        show (p : Int) ∣ ev row i - (ev row i - 0)
        rw [Int.sub_zero, Int.sub_self]
        exact Int.dvd_zero _
  | some c =>
    obtain ⟨c1, c2, c3⟩ := nz_some hz
    have cr := rr.at hp c
    have sc : ∀ i, (p : Int) ∣ ev (scaledL p c q) i - inv p (ev q c) * ev q i := fun i => by
      rw [scaled_ev, Int.mul_comm (inv p _)]
      exact emod_dvd _
    have cn : c < n := by rw [← rr.1]; exact c1
    show LB p n (B ++ [(c, scaledL p c q)]) _
    have mb : (bas (B ++ [(c, scaledL p c q)])).map (·.2) = (bas B).map (·.2) ++ [ev (scaledL p c q)] := by rw [bas_app, List.map_append]; rfl
    have one : ev q c * inv p (ev q c) % (p : Int) = 1 := inv_one pr (by omega) cr.2
    refine ⟨fun d hd => ?_, ⟨fun a ha => ?_, ?_⟩, fun a ha i hi => ?_, fun d hd => ?_, fun v => ?_⟩
    · rcases List.mem_append.mp hd with hd | hd
      · exact h.rd d hd
      · rw [List.mem_singleton.mp hd]
        exact scaled_rng hp rr.1
    · rw [bas_app] at ha
      rcases List.mem_append.mp ha with ha | ha
      · exact h.tri.one a ha
      · rw [List.mem_singleton.mp ha]
        show (p : Int) ∣ ev (scaledL p c q) c - 1
        rw [scaled_ev, one]
        exact Int.dvd_zero _
    · rw [bas_app]
      refine List.pairwise_append.mpr ⟨h.tri.low, List.pairwise_singleton _ _, fun a ha b hb => ?_⟩
      rw [List.mem_singleton.mp hb]
      show (p : Int) ∣ ev (scaledL p c q) a.1
      refine dvd_of_sub (sc a.1) (dmr _ (dvd_of_sub (re a.1) (rest_at h.tri a ha)))
    · rw [bas_app] at ha
      rcases List.mem_append.mp ha with ha | ha
      · exact h.led a ha i hi
      · rw [List.mem_singleton.mp ha] at hi ⊢
        show (p : Int) ∣ ev (scaledL p c q) i
        rw [scaled_ev, c3 i hi, Int.zero_mul]
        exact Int.dvd_zero _
    · rcases List.mem_append.mp hd with hd | hd
      · exact h.pl d hd
      · rw [List.mem_singleton.mp hd]
        exact cn
    · rw [mb]
      -- q and its multiple
      have q1 : Sp p [ev (scaledL p c q)] (ev q) := ((Sp.mem (List.mem_singleton.mpr rfl)).times (ev q c)).congr fun i => by
        have h1 := dmr (ev q c) (sc i)
        have h2 : (p : Int) ∣ ev q c * inv p (ev q c) - 1 := by rw [← one]; exact dvd_swap (emod_dvd _)
        have h3 := dml (ev q i) h2
        have h4 := Int.dvd_neg.mpr (Int.dvd_add h1 h3)
        rwa [show -(ev q c * (ev (scaledL p c q) i - inv p (ev q c) * ev q i) + (ev q c * inv p (ev q c) - 1) * ev q i) = ev q i - ev q c * ev (scaledL p c q) i by
          rw [Int.mul_sub, Int.sub_mul, ← Int.mul_assoc]
          omega] at h4
      constructor
      · refine fun hv => hv.trans fun r hr => ?_
        rcases List.mem_append.mp hr with hr | hr
        · exact ((h.sp r).mp (.mem hr)).mono upS
        · rw [List.mem_singleton.mp hr]
          have d1 := ((h.sp _).mp dif).mono upS
          have d2 : Sp p (S ++ [ev row]) (ev row) := .mem (List.mem_append.mpr (.inr (List.mem_singleton.mpr rfl)))
          have d3 : Sp p (S ++ [ev row]) (ev q) := (d2.plus (d1.times (-1))).congr fun i => by
            show (p : Int) ∣ ev q i - (ev row i + -1 * (ev row i - ev q i))
            rw [show ev q i - (ev row i + -1 * (ev row i - ev q i)) = 0 by omega]
            exact Int.dvd_zero _
          exact (d3.times (inv p (ev q c))).congr sc
      · refine fun hv => hv.trans fun r hr => ?_
        rcases List.mem_append.mp hr with hr | hr
        · exact ((h.sp r).mpr (.mem hr)).mono fun r hr => List.mem_append.mpr (.inl hr)
        · rw [List.mem_singleton.mp hr]
          have d1 := dif.mono (T := (bas B).map (·.2) ++ [ev (scaledL p c q)]) fun r hr => List.mem_append.mpr (.inl hr)
          have d2 := q1.mono (T := (bas B).map (·.2) ++ [ev (scaledL p c q)]) fun r hr => List.mem_append.mpr (.inr hr)
          exact (d1.plus d2).congr fun i => by
            show (p : Int) ∣ ev row i - (ev row i - ev q i + ev q i)
            rw [show ev row i - (ev row i - ev q i + ev q i) = 0 by omega]
            exact Int.dvd_zero _
theorem bas_ok (pr : Pr p) {R : List (List Int)} (h : ∀ r ∈ R, r.length = n) : LB p n (basL p R) (R.map ev) := by
  have g : ∀ (R : List (List Int)) (B : Done) (S : List Vec), (∀ r ∈ R, r.length = n) → LB p n B S → LB p n (R.foldl (basStep p) B) (S ++ R.map ev) := by
    intro R
    induction R with
    | nil => intro B S _ hB; rw [List.map_nil, List.append_nil]; exact hB
    | cons r R ih =>
      intro B S hR hB
      have := ih _ _ (fun x hx => hR x (List.mem_cons_of_mem _ hx)) (bas_step pr hB (hR r List.mem_cons_self))
      rw [List.append_assoc] at this
      exact this
  have := g R [] [] h ⟨(fun d hd => (List.not_mem_nil hd).elim), ⟨(fun a ha => (List.not_mem_nil ha).elim), .nil⟩, (fun a ha => (List.not_mem_nil ha).elim), (fun d hd => (List.not_mem_nil hd).elim), fun v => Iff.rfl⟩
  rwa [List.nil_append] at this
/-- the law's rank is the rank -/
theorem rank_same (pr : Pr p) {B D : Done} {S : List Vec} (h : LB p n B S) (k : Ech p n D S) : B.length = D.length := by
  have := same_rank pr.1 h.tri h.led h.sp k.tri k.led k.sp
  rwa [show (bas B).length = B.length from List.length_map _, show (bas D).length = D.length from List.length_map _] at this
/-- a row of the span leaves nothing -/
theorem inside_zero (pr : Pr p) {B : Done} {S : List Vec} (h : LB p n B S) {r : List Int} (hr : Rng p n r) (hs : Sp p S (ev r)) : ∀ x ∈ restL p B r, x = 0 := by
  have hp : 0 < p := by have := pr.1; omega
  have rr := restL_rng hp h.rd hr
  intro x hx
  obtain ⟨i, hi, rfl⟩ := List.mem_iff_getElem.mp hx
  have h1 := dvd_of_sub (restL_ev hp h.rd hr i) (rest_span h.tri ((h.sp _).mpr hs) i)
  have h2 := rr.at hp i
  rw [ev_at hi] at h1 h2
  obtain ⟨k, hk⟩ := h1
  rcases Int.lt_trichotomy k 0 with z | z | z
  · have : (p : Int) * k ≤ (p : Int) * (-1) := Int.mul_le_mul_of_nonneg_left (by omega) (by omega)
    omega
  · rw [hk, z, Int.mul_zero]
  · have : (p : Int) * 1 ≤ (p : Int) * k := Int.mul_le_mul_of_nonneg_left (by omega) (by omega)
    omega
end M2
set_option Elab.async false
set_option linter.all false
set_option maxRecDepth 100000
set_option maxHeartbeats 2000000
namespace Z
open M2
/-! answers of systems; led rows -/
variable {p n : Nat}
def dotL (r s : List Int) : Int := (List.zipWith (· * ·) r s).sum
def dv : Nat → Vec → Vec → Int
  | 0, _, _ => 0
  | n + 1, v, x => dv n v x + v n * x n
theorem dv_ext : ∀ {n : Nat} {v v' x x' : Vec}, (∀ i, i < n → v i = v' i ∧ x i = x' i) → dv n v x = dv n v' x'
  | 0, _, _, _, _, _ => rfl
  | n + 1, v, v', x, x', h => by
    show dv n v x + v n * x n = dv n v' x' + v' n * x' n
    rw [dv_ext fun i hi => h i (by omega), (h n (by omega)).1, (h n (by omega)).2]
theorem dv_lin : ∀ {n : Nat} {v w r : Vec} {c : Int} (x : Vec), (∀ i, (p : Int) ∣ w i - (v i + c * r i)) → (p : Int) ∣ dv n w x - (dv n v x + c * dv n r x)
  | 0, _, _, _, c, _, _ => by
    show (p : Int) ∣ 0 - (0 + c * 0)
    rw [Int.mul_zero]
    exact Int.dvd_zero _
  | n + 1, v, w, r, c, x, h => by
    have h1 := dv_lin (n := n) x h
    have h2 := dml (x n) (h n)
    have h3 := Int.dvd_add h1 h2
    show (p : Int) ∣ dv n w x + w n * x n - (dv n v x + v n * x n + c * (dv n r x + r n * x n))
    rwa [show dv n w x - (dv n v x + c * dv n r x) + (w n - (v n + c * r n)) * x n = dv n w x + w n * x n - (dv n v x + v n * x n + c * (dv n r x + r n * x n)) by
      rw [Int.sub_mul, Int.add_mul, Int.mul_add, Int.mul_assoc]
      omega] at h3
theorem dv_zero : ∀ {n : Nat} {v : Vec} (x : Vec), (∀ i, (p : Int) ∣ v i) → (p : Int) ∣ dv n v x
  | 0, _, _, _ => Int.dvd_zero _
  | n + 1, v, x, h => Int.dvd_add (dv_zero x h) (dml _ (h n))
theorem dv_none : ∀ {n : Nat} {v x : Vec}, (∀ i, i < n → v i * x i = 0) → dv n v x = 0
  | 0, _, _, _ => rfl
  | n + 1, v, x, h => by
    show dv n v x + v n * x n = 0
    rw [dv_none fun i hi => h i (by omega), h n (by omega)]
    rfl
theorem dv_one : ∀ {n : Nat} {v x : Vec} {j : Nat}, j < n → (∀ i, i < n → i ≠ j → v i * x i = 0) → dv n v x = v j * x j
  | 0, _, _, _, hj, _ => absurd hj (Nat.not_lt_zero _)
  | n + 1, v, x, j, hj, h => by
    show dv n v x + v n * x n = _
    rcases Nat.lt_or_ge j n with z | z
    · rw [dv_one z fun i hi ne => h i (by omega) ne, h n (by omega) (by omega), Int.add_zero]
    · have : j = n := by omega
      subst this
      rw [dv_none fun i hi => h i (by omega) (by omega), Int.zero_add]
theorem dot_dv : ∀ {n : Nat} {r s : List Int}, r.length = n → s.length = n → dotL r s = dv n (ev r) (ev s) := by
  intro n
  induction n with
  | zero =>
    intro r s h k
    rw [List.eq_nil_of_length_eq_zero h]
    rfl
  | succ n ih =>
    intro r s h k
    have hr : r.length = n + 1 := h
    have e1 : r = r.take n ++ [r[n]'(by omega)] := by
      have := List.take_append_getElem (l := r) (i := n) (by omega)
      rw [this, List.take_of_length_le (by omega)]
    have e2 : s = s.take n ++ [s[n]'(by omega)] := by
      have := List.take_append_getElem (l := s) (i := n) (by omega)
      rw [this, List.take_of_length_le (by omega)]
    have l1 : (r.take n).length = n := by rw [List.length_take]; omega
    have l2 : (s.take n).length = n := by rw [List.length_take]; omega
    have d : dotL r s = dotL (r.take n) (s.take n) + r[n]'(by omega) * s[n]'(by omega) := by
      unfold dotL
      conv => lhs; rw [e1, e2]
      rw [List.zipWith_append (by rw [l1, l2]), List.sum_append]
      simp
    rw [d, ih l1 l2]
    show _ = dv n (ev r) (ev s) + ev r n * ev s n
    rw [ev_at (show n < r.length by omega), ev_at (show n < s.length by omega)]
    congr 1
    refine dv_ext fun i hi => ⟨?_, ?_⟩
    · rw [ev_at (by rw [l1]; exact hi), ev_at (by omega), List.getElem_take]
    · rw [ev_at (by rw [l2]; exact hi), ev_at (by omega), List.getElem_take]
theorem ev_aug {r : List Int} {z : Int} (h : r.length = n) (i : Nat) : ev (r ++ [z]) i = if i < n then ev r i else if i = n then z else 0 := by
  unfold ev
  rw [List.getD_eq_getElem?_getD, List.getD_eq_getElem?_getD, List.getElem?_append]
  split
  · rw [if_pos (by omega)]
  · rw [if_neg (by omega)]
    split
    · have : i - r.length = 0 := by omega
      rw [this]
      rfl
    · have : ∃ k, i - r.length = k + 1 := ⟨i - r.length - 1, by omega⟩
      obtain ⟨k, e⟩ := this
      rw [e]
      rfl
theorem aug_mem {R : List (List Int)} {b : List Int} {i : Nat} (hb : b.length = R.length) (h1 : i < R.length) (h2 : i < b.length) : R[i] ++ [b[i]] ∈ aug R b := by
  unfold aug
  refine List.mem_iff_getElem.mpr ⟨i, by rw [List.length_zipWith]; omega, ?_⟩
  rw [List.getElem_zipWith]
theorem aug_of {R : List (List Int)} {b : List Int} {a : List Int} (h : a ∈ aug R b) : ∃ r ∈ R, ∃ z, a = r ++ [z] := by
  unfold aug at h
  obtain ⟨i, hi, e⟩ := List.mem_iff_getElem.mp h
  rw [List.getElem_zipWith] at e
  exact ⟨_, List.getElem_mem _, _, e.symm⟩
/-- what was found is an answer -/
theorem sol_ok {R : List (List Int)} {b xs : List Int} {D : Done} (hR : ∀ r ∈ R, r.length = n) (hb : b.length = R.length) (ec : Ech p (n + 1) D ((aug R b).map ev)) (no : ∀ d ∈ D, d.1 ≠ n) (an : Ans D n xs) {i : Nat} (h1 : i < R.length) (h2 : i < b.length) : (p : Int) ∣ dotL R[i] xs - b[i] := by
  have lr := hR _ (List.getElem_mem h1)
  have key : (p : Int) ∣ (fun v : Vec => dv n v (ev xs) - v n) (ev (R[i] ++ [b[i]])) := by
    refine Sp.lin (S := (bas D).map (·.2)) (fun v w r c h => ?_) (fun v h => Int.dvd_sub (dv_zero _ h) (h n)) (fun r hr => ?_) ((ec.sp _).mpr (.mem (List.mem_map.mpr ⟨_, aug_mem hb h1 h2, rfl⟩)))
    · have e1 := dv_lin (n := n) (ev xs) h
      have e2 := Int.dvd_sub e1 (h n)
      show (p : Int) ∣ dv n w (ev xs) - w n - (dv n v (ev xs) - v n + c * (dv n r (ev xs) - r n))
      rwa [show dv n w (ev xs) - (dv n v (ev xs) + c * dv n r (ev xs)) - (w n - (v n + c * r n)) = dv n w (ev xs) - w n - (dv n v (ev xs) - v n + c * (dv n r (ev xs) - r n)) by rw [Int.mul_sub]; omega] at e2
    · rw [bas_snd] at hr
      obtain ⟨d, hd, rfl⟩ := List.mem_map.mp hr
      obtain ⟨p1, p2, p3⟩ := ec.pv d hd
      have lt : d.1 < n := by have := no d hd; omega
      show (p : Int) ∣ dv n (ev d.2) (ev xs) - ev d.2 n
      rw [dv_one (j := d.1) lt (fun i hi ne => ?_), p2, Int.one_mul, an.at' d hd, Int.sub_self]
      · exact Int.dvd_zero _
      · rcases Classical.em (i ∈ D.map (·.1)) with z | z
        · obtain ⟨e, he, ee⟩ := List.mem_map.mp z
          rw [← ee, ec.fl e he d hd (by rw [ee]; exact ne), Int.zero_mul]
        · rw [an.out i z, Int.mul_zero]
  have e : dv n (ev (R[i] ++ [b[i]])) (ev xs) = dotL R[i] xs := by
    rw [dot_dv lr an.len]
    exact dv_ext fun j hj => ⟨by rw [ev_aug lr, if_pos hj], rfl⟩
  have key : (p : Int) ∣ dv n (ev (R[i] ++ [b[i]])) (ev xs) - ev (R[i] ++ [b[i]]) n := key
  rw [e, ev_aug lr, if_neg (by omega), if_pos rfl] at key
  exact key
theorem sol_rng (hp : 0 < p) {S : List Vec} {D : Done} {xs : List Int} (ec : Ech p (n + 1) D S) (an : Ans D n xs) : Rng p n xs := by
  refine ⟨an.len, fun x hx => ?_⟩
  obtain ⟨j, hj, rfl⟩ := List.mem_iff_getElem.mp hx
  rw [← ev_at hj]
  rcases Classical.em (j ∈ D.map (·.1)) with z | z
  · obtain ⟨d, hd, e⟩ := List.mem_map.mp z
    rw [← e, an.at' d hd]
    exact (ec.rd d hd).at hp n
  · rw [an.out j z]
    omega
/-- the first n places of a basis of the longer rows -/
def cut (n : Nat) (v : Vec) : Vec := fun i => if i < n then v i else 0
theorem cut_rank (pr : Pr p) {R : List (List Int)} {b : List Int} {D D0 : Done} (hR : ∀ r ∈ R, r.length = n) (hb : b.length = R.length) (ec : Ech p (n + 1) D ((aug R b).map ev)) (e0 : Ech p n D0 (R.map ev)) : (D.filter fun d => d.1 != n).length = D0.length := by
  have hp : 0 < p := by have := pr.1; omega
  let D1 := D.filter fun d => d.1 != n
  have mem1 : ∀ d, d ∈ D1 → d ∈ D ∧ d.1 < n := fun d hd => by
    obtain ⟨h1, h2⟩ := List.mem_filter.mp hd
    have := (ec.pv d h1).1
    have : d.1 ≠ n := by simpa using h2
    exact ⟨h1, by omega⟩
  let B1 : Bas := D1.map fun d => (d.1, cut n (ev d.2))
  have eB : B1.map (·.2) = D1.map fun d => cut n (ev d.2) := by show (D1.map _).map _ = _; rw [List.map_map]; rfl
  have far : ∀ v, Sp p (R.map ev) v → ∀ i, n ≤ i → (p : Int) ∣ v i := fun v hv i hi =>
    hv.lin (f := fun v => v i) (fun v w r c h => h i) (fun v h => h i) fun r hr => by
      obtain ⟨q, hq, rfl⟩ := List.mem_map.mp hr
      rw [ev_out (by rw [hR q hq]; exact hi)]
      exact Int.dvd_zero _
  have tri : Tri p B1 := by
    constructor
    · intro a ha
      obtain ⟨d, hd, rfl⟩ := List.mem_map.mp ha
      obtain ⟨h1, h2⟩ := mem1 d hd
      show (p : Int) ∣ cut n (ev d.2) d.1 - 1
      unfold cut
      rw [if_pos h2, (ec.pv d h1).2.1]
      exact Int.dvd_zero _
    · show (D1.map _).Pairwise _
      rw [List.pairwise_map]
      have a := ec.asc
      rw [List.pairwise_map] at a
      refine (a.filter _).imp_of_mem fun {x y} hx hy lt => ?_
      show (p : Int) ∣ cut n (ev y.2) x.1
      unfold cut
      rw [if_pos (mem1 x hx).2, ec.fl x (mem1 x hx).1 y (mem1 y hy).1 (by omega)]
      exact Int.dvd_zero _
  have led : Led p B1 := fun a ha i hi => by
    obtain ⟨d, hd, rfl⟩ := List.mem_map.mp ha
    have hi : i < d.1 := hi
    show (p : Int) ∣ cut n (ev d.2) i
    unfold cut
    rw [(ec.pv d (mem1 d hd).1).2.2 i hi]
    split <;> exact Int.dvd_zero _
  have sp : ∀ v, Sp p (B1.map (·.2)) v ↔ Sp p (R.map ev) v := fun v => by
    constructor
    · refine fun hv => hv.trans fun r hr => ?_
      rw [eB] at hr
      obtain ⟨d, hd, rfl⟩ := List.mem_map.mp hr
      have s1 : Sp p ((aug R b).map ev) (ev d.2) := (ec.sp _).mp (.mem (by rw [bas_snd]; exact List.mem_map.mpr ⟨d, (mem1 d hd).1, rfl⟩))
      obtain ⟨v', h1, h2⟩ := Sp.proj (n := n) (T := R.map ev) (fun r hr => by
        obtain ⟨a, ha, rfl⟩ := List.mem_map.mp hr
        obtain ⟨q, hq, z, rfl⟩ := aug_of ha
        exact ⟨_, List.mem_map.mpr ⟨q, hq, rfl⟩, fun i hi => by rw [ev_aug (hR q hq), if_pos hi]⟩) s1
      refine h1.congr fun i => ?_
      unfold cut
      rcases Nat.lt_or_ge i n with z | z
      · rw [if_pos z]
        exact dvd_swap (h2 i z)
      · rw [if_neg (by omega), Int.zero_sub]
        exact Int.dvd_neg.mpr (far v' h1 i z)
    · refine fun hv => hv.trans fun r hr => ?_
      obtain ⟨q, hq, rfl⟩ := List.mem_map.mp hr
      obtain ⟨i, hi, e⟩ := List.mem_iff_getElem.mp hq
      have m := aug_mem hb hi (show i < b.length by omega)
      rw [e] at m
      have s1 := (ec.sp _).mpr (.mem (List.mem_map.mpr ⟨_, m, rfl⟩))
      obtain ⟨v', h1, h2⟩ := Sp.proj (n := n) (T := B1.map (·.2) ++ [fun _ => 0]) (fun r hr => by
        rw [bas_snd] at hr
        obtain ⟨d, hd, rfl⟩ := List.mem_map.mp hr
        rcases Classical.em (d.1 = n) with z | z
        · exact ⟨_, List.mem_append.mpr (.inr (List.mem_singleton.mpr rfl)), fun i hi => ((ec.pv d hd).2.2 i (by omega)).symm⟩
        · refine ⟨cut n (ev d.2), List.mem_append.mpr (.inl ?_), fun i hi => by unfold cut; rw [if_pos hi]⟩
          rw [eB]
          exact List.mem_map.mpr ⟨d, List.mem_filter.mpr ⟨hd, by simpa using z⟩, rfl⟩) s1
      have h3 : Sp p (B1.map (·.2)) v' := h1.trans fun r hr => by
        rcases List.mem_append.mp hr with hr | hr
        · exact .mem hr
        · rw [List.mem_singleton.mp hr]
          exact .zero fun _ => Int.dvd_zero _
      refine h3.congr fun j => ?_
      rcases Nat.lt_or_ge j n with z | z
      · have := dvd_swap (h2 j z)
        rwa [ev_aug (hR q hq), if_pos z] at this
      · rw [ev_out (by rw [hR q hq]; exact z), Int.zero_sub]
        refine Int.dvd_neg.mpr (h3.lin (f := fun v => v j) (fun v w r c h => h j) (fun v h => h j) fun r hr => ?_)
        rw [eB] at hr
        obtain ⟨d, hd, rfl⟩ := List.mem_map.mp hr
        show (p : Int) ∣ cut n (ev d.2) j
        unfold cut
        rw [if_neg (by omega)]
        exact Int.dvd_zero _
  have := same_rank pr.1 tri led sp e0.tri e0.led e0.sp
  rwa [show B1.length = D1.length from List.length_map _, show (bas D0).length = D0.length from List.length_map _] at this
/-- none exactly if the right side raises the rank -/
theorem none_iff (pr : Pr p) {R : List (List Int)} {b : List Int} {D D0 : Done} (hR : ∀ r ∈ R, r.length = n) (hb : b.length = R.length) (ec : Ech p (n + 1) D ((aug R b).map ev)) (e0 : Ech p n D0 (R.map ev)) : (∃ d ∈ D, d.1 = n) ↔ D.length ≠ D0.length := by
  rw [← cut_rank pr hR hb ec e0]
  constructor
  · rintro ⟨d, hd, e⟩
    have := (List.length_filter_lt_length_iff_exists (p := fun d : Nat × List Int => d.1 != n)).mpr ⟨d, hd, show ¬ (d.1 != n) = true by simpa using e⟩
    omega
  · intro h
    refine Classical.byContradiction fun no => h ?_
    rw [List.filter_eq_self.mpr fun d hd => ?_]
    have : d.1 ≠ n := fun e => no ⟨d, hd, e⟩
    simpa using this
/-- rows led by sums of one another -/
def ledR : List (List Int) → List (List Int)
  | [] => []
  | r0 :: R => R.map (fun r => List.zipWith (fun a b => a + 3 * b) r r0) ++ [r0]
theorem ledR_len {R : List (List Int)} (h : ∀ r ∈ R, r.length = n) : ∀ r ∈ ledR R, r.length = n := by
  cases R with
  | nil => intro r hr; cases hr
  | cons r0 R =>
    intro r hr
    rcases List.mem_append.mp hr with hr | hr
    · obtain ⟨s, hs, rfl⟩ := List.mem_map.mp hr
      rw [List.length_zipWith, h s (List.mem_cons_of_mem _ hs), h r0 List.mem_cons_self]
      omega
    · rw [List.mem_singleton.mp hr]
      exact h r0 List.mem_cons_self
theorem led_ev {r r0 : List Int} (h : r.length = r0.length) (i : Nat) : ev (List.zipWith (fun a b => a + 3 * b) r r0) i = ev r i + 3 * ev r0 i := ev_zip (by simp) h i
theorem led_sp {R : List (List Int)} (h : ∀ r ∈ R, r.length = n) (v : Vec) : Sp p ((ledR R).map ev) v ↔ Sp p (R.map ev) v := by
  cases R with
  | nil => exact Iff.rfl
  | cons r0 R =>
    have l0 := h r0 List.mem_cons_self
    constructor
    · refine fun hv => hv.trans fun r hr => ?_
      obtain ⟨s, hs, rfl⟩ := List.mem_map.mp hr
      have m0 : Sp p ((r0 :: R).map ev) (ev r0) := .mem List.mem_cons_self
      rcases List.mem_append.mp hs with hs | hs
      · obtain ⟨t, ht, rfl⟩ := List.mem_map.mp hs
        have m1 : Sp p ((r0 :: R).map ev) (ev t) := .mem (List.mem_map.mpr ⟨t, List.mem_cons_of_mem _ ht, rfl⟩)
        refine (m1.plus (m0.times 3)).congr fun i => ?_
        rw [led_ev (by rw [h t (List.mem_cons_of_mem _ ht), l0]), Int.sub_self]
        exact Int.dvd_zero _
      · rw [List.mem_singleton.mp hs]
        exact m0
    · refine fun hv => hv.trans fun r hr => ?_
      have m0 : Sp p ((ledR (r0 :: R)).map ev) (ev r0) := .mem (List.mem_map.mpr ⟨r0, List.mem_append.mpr (.inr (List.mem_singleton.mpr rfl)), rfl⟩)
      obtain ⟨s, hs, rfl⟩ := List.mem_map.mp hr
      rcases List.mem_cons.mp hs with rfl | hs
      · exact m0
      · have m1 : Sp p ((ledR (r0 :: R)).map ev) (ev (List.zipWith (fun a b => a + 3 * b) s r0)) := .mem (List.mem_map.mpr ⟨_, List.mem_append.mpr (.inl (List.mem_map.mpr ⟨s, hs, rfl⟩)), rfl⟩)
        refine (m1.plus (m0.times (-3))).congr fun i => ?_
        rw [led_ev (by rw [h s (List.mem_cons_of_mem _ hs), l0]), show ev s i - (ev s i + 3 * ev r0 i + -3 * ev r0 i) = 0 by omega]
        exact Int.dvd_zero _
theorem led_same (pr : Pr p) {R : List (List Int)} (h : ∀ r ∈ R, r.length = n) : (stAt p (ledR R) n).2.map (·.2) = (stAt p R n).2.map (·.2) := by
  have e1 := ech pr (ledR_len h)
  refine Ech.unique pr.1 (S := R.map ev) ⟨e1.rd, e1.pv, e1.fl, e1.asc, fun v => (e1.sp v).trans (led_sp h v)⟩ (ech pr h)
end Z
set_option Elab.async false
set_option linter.all false
set_option maxRecDepth 100000
set_option maxHeartbeats 2000000
namespace Z
open PySem L2 PyProof.Rows ZX GX
/-! the law's draws -/
abbrev s_l_pen : Stmt := topS 26
abbrev s_l_draw : Stmt := topS 27
abbrev s_l_pick : Stmt := topS 28
theorem sc_l_pen : FnScope ["_law_script", "_law_fold", "_law_cell"] ["_law_script"] (defScope s_l_pen) := ⟨rfl, rfl, rfl, by decide +kernel, rfl, by decide +kernel, by decide +kernel⟩
theorem sc_l_draw : FnScope ["_law_pen_here", "_law_many", "_law_cell", "_law_digit", "_law_blend"] ["_law_pen_here", "_law_many"] (defScope s_l_draw) := ⟨rfl, rfl, rfl, by decide +kernel, rfl, by decide +kernel, by decide +kernel⟩
theorem sc_l_pick : FnScope ["_law_pen_here", "_law_some"] ["_law_pen_here", "_law_some"] (defScope s_l_pick) := ⟨rfl, rfl, rfl, by decide +kernel, rfl, by decide +kernel, by decide +kernel⟩
/-! heaps -/
/-- all but p stands -/
def But (p : Addr) (H H' : Hp) : Prop := ∀ b, b ≠ p → H' b = H b
/-- what stood stands, but at p -/
def Kp (p : Addr) (H H' : Hp) : Prop := ∀ b o, b ≠ p → H b = some o → H' b = some o
theorem But.kp {p : Addr} {H H' : Hp} (h : But p H H') : Kp p H H' := fun b o n e => (h b n).trans e
theorem Kp.refl (p : Addr) (H : Hp) : Kp p H H := fun _ _ _ e => e
theorem Kp.trans {p : Addr} {H H1 H2 : Hp} (a : Kp p H H1) (b : Kp p H1 H2) : Kp p H H2 := fun c o n e => b c o n (a c o n e)
theorem Kp.new {p q : Addr} {H : Hp} {o : HO} (h : H q = none) : Kp p H (upd H q o) := fun b u n e => by
  rw [upd_ne (ne_of_none e h)]
  exact e
theorem But.trans {p : Addr} {H H1 H2 : Hp} (a : But p H H1) (b : But p H1 H2) : But p H H2 := fun c n => (b c n).trans (a c n)
theorem But.upd {p : Addr} {H : Hp} {o : HO} : But p H (upd H p o) := fun b n => upd_ne n
/-! the pen -/
def penD (l : Addr) (a : Nat) (d : Int) (c : Nat) (f : Int) : List (Key × V) :=
  [(.inr "cells", .ref l), (.inr "at", .int (a : Int)), (.inr "digits", .int d), (.inr "count", .int (c : Int)), (.inr "fold", .int f)]
theorem gCells {H : Hp} {p l : Addr} {a : Nat} {d : Int} {c : Nat} {f : Int} (h : H p = some (.dK (penD l a d c f))) : DGet H p (.str "cells") (some (.ref l)) :=
  (show valV (penD l a d c f) (.inr "cells") = some (.ref l) by kernel_rfl) ▸ DGet.k (k := Sum.inr "cells") h
theorem gAt {H : Hp} {p l : Addr} {a : Nat} {d : Int} {c : Nat} {f : Int} (h : H p = some (.dK (penD l a d c f))) : DGet H p (.str "at") (some (.int (a : Int))) :=
  (show valV (penD l a d c f) (.inr "at") = some (.int (a : Int)) by kernel_rfl) ▸ DGet.k (k := Sum.inr "at") h
theorem gDigits {H : Hp} {p l : Addr} {a : Nat} {d : Int} {c : Nat} {f : Int} (h : H p = some (.dK (penD l a d c f))) : DGet H p (.str "digits") (some (.int d)) :=
  (show valV (penD l a d c f) (.inr "digits") = some (.int d) by kernel_rfl) ▸ DGet.k (k := Sum.inr "digits") h
theorem gCount {H : Hp} {p l : Addr} {a : Nat} {d : Int} {c : Nat} {f : Int} (h : H p = some (.dK (penD l a d c f))) : DGet H p (.str "count") (some (.int (c : Int))) :=
  (show valV (penD l a d c f) (.inr "count") = some (.int (c : Int)) by kernel_rfl) ▸ DGet.k (k := Sum.inr "count") h
theorem gFold {H : Hp} {p l : Addr} {a : Nat} {d : Int} {c : Nat} {f : Int} (h : H p = some (.dK (penD l a d c f))) : DGet H p (.str "fold") (some (.int f)) :=
  (show valV (penD l a d c f) (.inr "fold") = some (.int f) by kernel_rfl) ▸ DGet.k (k := Sum.inr "fold") h
theorem small5 : (5 : Nat) < sizeLine := by rw [sizeLine_eq]; decide
theorem pAt {H : Hp} {p l : Addr} {a : Nat} {d : Int} {c : Nat} {f : Int} (h : H p = some (.dK (penD l a d c f))) : DPut H p (.str "at") (.int ((a : Int) + 1)) (upd H p (.dK (penD l (a + 1) d c f))) :=
  (show putK (penD l a d c f) (.inr "at") (.int ((a : Int) + 1)) = penD l (a + 1) d c f by kernel_rfl) ▸ DPut.k (k := Sum.inr "at") h small5
theorem pCount {H : Hp} {p l : Addr} {a : Nat} {d : Int} {c : Nat} {f : Int} (h : H p = some (.dK (penD l a d c f))) : DPut H p (.str "count") (.int ((c : Int) + 1)) (upd H p (.dK (penD l a d (c + 1) f))) :=
  (show putK (penD l a d c f) (.inr "count") (.int ((c : Int) + 1)) = penD l a d (c + 1) f by kernel_rfl) ▸ DPut.k (k := Sum.inr "count") h small5
theorem pDigits {H : Hp} {p l : Addr} {a : Nat} {d e : Int} {c : Nat} {f : Int} (h : H p = some (.dK (penD l a d c f))) : DPut H p (.str "digits") (.int e) (upd H p (.dK (penD l a e c f))) :=
  (show putK (penD l a d c f) (.inr "digits") (.int e) = penD l a e c f by kernel_rfl) ▸ DPut.k (k := Sum.inr "digits") h small5
theorem pFold {H : Hp} {p l : Addr} {a : Nat} {d : Int} {c : Nat} {f g : Int} (h : H p = some (.dK (penD l a d c f))) : DPut H p (.str "fold") (.int g) (upd H p (.dK (penD l a d c g))) :=
  (show putK (penD l a d c f) (.inr "fold") (.int g) = penD l a d c g by kernel_rfl) ▸ DPut.k (k := Sum.inr "fold") h small5
/-- a pen stands at p, its cells at l, c draws made -/
structure Pen (H : Hp) (p l : Addr) (c : Nat) : Prop where
  ex : ∃ (ns : List Int) (a : Nat) (d f : Int), H p = some (.dK (penD l a d c f)) ∧ H l = some (.lst (ns.map V.int)) ∧ ns.length ≤ 63 ∧ a ≤ ns.length ∧ 0 ≤ d ∧ 0 ≤ f ∧ f < 2147483587
theorem Pen.same {H H' : Hp} {p l : Addr} {c : Nat} (h : Pen H p l c) (s : Same H H') : Pen H' p l c := by
  obtain ⟨ns, a, d, f, h1, h2, h3⟩ := h.ex
  exact ⟨ns, a, d, f, s _ _ h1, s _ _ h2, h3⟩
/-- a list or a tuple that is read -/
def SqX (K : PySem.W.Frag) (H : Hp) (q : Addr) (xs : List V) : Prop := SqL K H q xs ∨ SqT K H q xs
theorem SqX.but {K : PySem.W.Frag} {H H' : Hp} {p q : Addr} {xs : List V} {kvs : List (Key × V)} (hp : H p = some (.dK kvs)) (b : But p H H') (h : SqX K H q xs) : SqX K H' q xs := by
  have ne : ∀ o, H q = some o → o ≠ .dK kvs → q ≠ p := fun o e n z => by
    rw [z, hp] at e
    exact n (Option.some.inj e).symm
  rcases h with (h | h) | (h | h)
  · refine .inl (.inl ?_)
    rcases h with h | ⟨o, h⟩
    · exact .inl ((b _ (ne _ h (fun z => by cases z))).trans h)
    · exact .inr ⟨o, (b _ (ne _ h (fun z => by cases z))).trans h⟩
  · exact .inl (.inr h)
  · refine .inr (.inl ?_)
    rcases h with h | ⟨o, h⟩
    · exact .inl ((b _ (ne _ h (fun z => by cases z))).trans h)
    · exact .inr ⟨o, (b _ (ne _ h (fun z => by cases z))).trans h⟩
  · exact .inr (.inr h)
/-! promises -/
def spPen (K : PySem.W.Frag) : Sp := fun vs H Q _ => ∃ (a : Addr) (ns : List Int), vs = [.ref a] ∧ SqL K H a (ns.map V.int) ∧ ns.length ≤ 63 ∧
  ∀ (p l : Addr) (H' : Hp), H p = none → H l = none → Same H H' → Pen H' p l 0 → Q (.ref p) H'
def spDraw : Sp := fun vs H Q _ => ∃ (p l : Addr) (c : Nat) (m : Int), vs = [.ref p, .int m] ∧ Pen H p l c ∧ c < 2 ^ 40 ∧ 0 < m ∧ m < 1073741824 ∧
  ∀ (d : Int) (H' : Hp), 0 ≤ d → d < m → Pen H' p l (c + 1) → But p H H' → Q (.int d) H'
def spPick (K : PySem.W.Frag) : Sp := fun vs H Q _ => ∃ (p l q : Addr) (c : Nat) (xs : List V), vs = [.ref p, .ref q] ∧ Pen H p l c ∧ c < 2 ^ 40 ∧ SqX K H q xs ∧ 0 < xs.length ∧ xs.length < 1000 ∧
  ∀ (v : V) (H' : Hp), v ∈ xs → Pen H' p l (c + 1) → But p H H' → Q v H'
section
variable {P : Program} {w : World} {K : PySem.W.Frag} {mg : Str → Option Value} {base : Heap}
theorem ok_pen {f : Addr} {fd : FuncData} (F : Fun K "_law_pen" "_law_pen" s_l_pen f fd) (bi : mg "int" = none) (bl : mg "list" = none) : FnOk P w K mg base CX0 1 f fd ["_law_script"] (spPen K) := by
  refine F.ok sc_l_pen (fun vs H Q E h => ?_) (fun cdv A outer s H vs Q E hr h => ?_)
  · obtain ⟨a, ns, rfl, _⟩ := h
    rfl
  · obtain ⟨a, ns, rfl, hS, hl, k⟩ := h
    refine ⟨_, (pss_cons (ps_set (i := 1) sc_l_pen.nd rfl (Or.inl rfl) pe_int)
      (pss_cons (ps_for PassesOwn.never rfl (pi_list (pv 0)) (pg_name (i := 2) sc_l_pen.nd rfl (Or.inl rfl))
        (pss_one (ps_set (i := 1) sc_l_pen.nd rfl (Or.inl rfl) (pe_op op_mod (pe_callTy call_int1 (by rfl) bi (by decide +kernel) (pa_cons (pe_op op_add (pe_op op_mul (pv 1) pe_int) (pv 2)) pa_nil)) pe_int))))
      (pss_one (ps_ret (pe_disp (pps_cons pe_str (pe_callTy call_list_of (by rfl) bl (by decide +kernel) (pa_cons (pv 0) pa_nil)) (pps_cons pe_str pe_int (pps_cons pe_str pe_int (pps_cons pe_str pe_int (pps_cons pe_str (pv 1) pps_nil))))) (by rfl) (by rfl) (fun z => by cases z) (by decide)))))), ?_⟩
    refine ⟨.ref a, rfl, a, rfl, ⟨_, hS⟩, for_list (K := K) (a := a) (xs := ns.map V.int) (fun i σ H2 => ∃ (n : Int) (v : Option V), σ = [some (.ref a), some (.int n), v] ∧ H2 = H ∧ 0 ≤ n ∧ n < 1000000007)
      ⟨0, none, rfl, rfl, by decide, by decide⟩ (fun i σ H2 _ ⟨_, _, _, e, _⟩ => e ▸ hS) ?_ ?_⟩
    · rintro i y σ H2 hi ⟨n, v, rfl, rfl, h0, h1⟩
      obtain ⟨z, rfl⟩ : ∃ z, y = V.int z := by
        rw [List.getElem?_map] at hi
        cases e : ns[i]? with
        | none => rw [e] at hi; cases hi
        | some z => rw [e] at hi; exact ⟨z, (Option.some.inj hi).symm⟩
      refine ⟨_, rfl, _, _, rfl, rfl, .inl ⟨by omega, by omega⟩, _, rfl, _, _, rfl, rfl, .inl ⟨_, rfl, ?_⟩⟩
      refine ⟨_, _, rfl, rfl, (by show (0 : Int) < 1000000007; decide), ?_⟩
      exact ⟨_, _, rfl, rfl, Int.emod_nonneg _ (by decide), Int.emod_lt_of_pos _ (by decide)⟩
    · rintro σ H2 ⟨n, v, rfl, rfl, h0, h1⟩
      intro p hp
      refine ⟨.ref a, rfl, a, _, rfl, .inl ((same_new hp).seq hS), fun l hn => ?_⟩
      have nlp : l ≠ p := fun z => by rw [z, upd_same] at hn; cases hn
      have hl0 : H2 l = none := by rw [upd_ne nlp] at hn; exact hn
      refine ⟨_, rfl, (by rw [upd_ne nlp.symm]; exact upd_same), penD l 0 0 0 n, rfl, (by show 5 ≤ 15; decide), ?_⟩
      have e : mergeK [] (penD l 0 0 0 n) = penD l 0 0 0 n := by kernel_rfl
      rw [e]
      refine k p l _ hp hl0 (fun b o z => ?_) ⟨ns, 0, 0, n, upd_same, ?_, hl, Nat.zero_le _, by decide, h0, by omega⟩
      · rw [upd_ne (ne_of_none z hp), upd_ne (ne_of_none z hl0), upd_ne (ne_of_none z hp)]
        exact z
      · rw [upd_ne nlp, upd_same]
theorem ok_draw {f : Addr} {fd : FuncData} (F : Fun K "_law_draw" "_law_draw" s_l_draw f fd) (bi : mg "int" = none) (bn : mg "len" = none) : FnOk P w K mg base CX0 1 f fd ["_law_pen_here", "_law_many"] spDraw := by
  refine F.ok sc_l_draw (fun vs H Q E h => ?_) (fun cdv A outer s H vs Q E hr h => ?_)
  · obtain ⟨p, l, c, m, rfl, _⟩ := h
    rfl
  · obtain ⟨p, l, c, m, rfl, hP, hc, hm, hm2, k⟩ := h
    have hu := hu_of hr
    refine ⟨_, (pss_cons (ps_dput hu (pv 0) pe_str (pe_op op_add (pe_dget hu (pv 0) pe_str (fun _ _ => rfl)) pe_int) rfl)
      (C8.pss_cut (ps_if (PW.pt (pw_and (pt_cmpR op_eq (pe_dget hu (pv 0) pe_str (fun _ _ => rfl)) pe_int (nomark _)) (pw_and1 (pt_cmpR op_lt (pe_dget hu (pv 0) pe_str (fun _ _ => rfl)) (pe_callB call_len (by rfl) bn (by decide +kernel) (pa_cons (pe_dget hu (pv 0) pe_str (fun _ _ => rfl)) pa_nil)) (nomark _)))))
        (pss_cons (ps_set (i := 2) sc_l_draw.nd rfl (Or.inl rfl) (pe_ix ix_list (pe_dget hu (pv 0) pe_str (fun _ _ => rfl)) (pe_dget hu (pv 0) pe_str (fun _ _ => rfl)) (fun _ _ => rfl)))
          (pss_cons (ps_dput hu (pv 0) pe_str (pe_op op_add (pe_dget hu (pv 0) pe_str (fun _ _ => rfl)) pe_int) rfl)
          (pss_one (ps_if (pt_cmpR op_ge (pv 2) (pe_op op_pow pe_int pe_int) (nomark _))
            (pss_one (ps_dput hu (pv 0) pe_str (pe_op op_sub (pv 2) (pe_op op_pow pe_int pe_int)) rfl))
            (pss_one (ps_dput hu (pv 0) pe_str (pe_op op_mod (pe_callTy call_int1 (by rfl) bi (by decide +kernel) (pa_cons (pe_op op_add (pe_op op_mul (pe_dget hu (pv 0) pe_str (fun _ _ => rfl)) pe_int) (pv 2)) pa_nil)) pe_int) rfl))))))
        pss_nil)
      (pss_cons (ps_if (pt_cmpR op_gt (pe_dget hu (pv 0) pe_str (fun _ _ => rfl)) pe_int (nomark _))
        (pss_cons (ps_set (i := 3) sc_l_draw.nd rfl (Or.inl rfl) (pe_op op_mod (pe_callTy call_int1 (by rfl) bi (by decide +kernel) (pa_cons (pe_dget hu (pv 0) pe_str (fun _ _ => rfl)) pa_nil)) (pv 1)))
          (pss_cons (ps_dput hu (pv 0) pe_str (pe_op op_fdiv (pe_dget hu (pv 0) pe_str (fun _ _ => rfl)) (pv 1)) rfl)
          (pss_one (ps_ret (pv 3)))))
        pss_nil)
      (pss_cons (ps_set (i := 4) sc_l_draw.nd rfl (Or.inl rfl) (pe_op op_add (pe_op op_add (pe_dget hu (pv 0) pe_str (fun _ _ => rfl)) (pe_op op_mul (pe_dget hu (pv 0) pe_str (fun _ _ => rfl)) pe_int)) pe_int))
      (pss_one (ps_ret (pe_op op_mod (pe_op op_fdiv (pe_callTy call_int1 (by rfl) bi (by decide +kernel) (pa_cons (pe_op op_mod (pe_op op_pow (pv 4) pe_int) pe_int) pa_nil)) pe_int) (pv 1)))))))), ?_⟩
    obtain ⟨ns, a, d, f, h1, h2, hl, ha, hd, hf, hf2⟩ := hP.ex
    have npl : l ≠ p := ne_of h2 h1 (by intro z; cases z)
    have st : ∀ o, (upd H p o) l = some (.lst (ns.map V.int)) := fun o => by rw [upd_ne npl]; exact h2
    -- count
    refine ⟨_, rfl, p, _, rfl, gCount h1, _, _, rfl, rfl, _, rfl, p, _, rfl, pCount h1, ?_⟩
    refine ⟨fun σ' H2 => ∃ (v2 : Option V) (a2 : Nat) (d2 f2 : Int), σ' = [some (.ref p), some (.int m), v2, none, none] ∧ a2 ≤ ns.length ∧ 0 ≤ d2 ∧ 0 ≤ f2 ∧ f2 < 2147483587 ∧ H2 p = some (.dK (penD l a2 d2 (c + 1) f2)) ∧ But p H H2, ?_, ?_⟩
    · -- a cell is taken, or not
      refine ⟨_, rfl, p, _, rfl, gDigits upd_same, rfl, _, rfl, ?_⟩
      refine ite2 (fun _ => ?_) (fun _ => ?_)
      · refine ⟨_, rfl, p, _, rfl, gAt upd_same, _, rfl, p, _, rfl, gCells upd_same, _, _, rfl, .inl ⟨_, .inl (.inl (st _)), rfl⟩, _, _, rfl, rfl, _, rfl, ?_⟩
        refine ite2 (fun hlt => ?_) (fun _ => ?_)
        · have hlt : (a : Int) < ((ns.map V.int).length : Int) := of_decide_eq_true hlt
          rw [List.length_map] at hlt
          have hlt' : a < ns.length := by omega
          have ga : (ns.map V.int)[a]? = some (.int ns[a]) := by rw [List.getElem?_map, List.getElem?_eq_getElem hlt']; rfl
          refine ⟨_, rfl, p, _, rfl, gCells upd_same, _, rfl, p, _, rfl, gAt upd_same, l, _, _, _, rfl, rfl, .inl (.inl (st _)), atI_nat ga, ?_⟩
          refine ⟨_, rfl, p, _, rfl, gAt upd_same, _, _, rfl, rfl, _, rfl, p, _, rfl, pAt upd_same, ?_⟩
          refine ⟨_, rfl, _, _, rfl, rfl, ⟨by decide, by decide, by decide⟩, _, _, rfl, rfl, _, rfl, ?_⟩
          refine ite2 (fun hge => ?_) (fun hge => ?_)
          · refine ⟨_, rfl, _, _, rfl, rfl, ⟨by decide, by decide, by decide⟩, _, _, rfl, rfl, _, rfl, p, _, rfl, pDigits upd_same, ?_⟩
            have hge' := of_decide_eq_true hge
            exact ⟨_, a + 1, _, f, rfl, hlt', by omega, hf, hf2, upd_same, fun b hb => by rw [upd_ne hb, upd_ne hb, upd_ne hb]⟩
          · refine ⟨_, rfl, p, _, rfl, gFold upd_same, _, _, rfl, rfl, .inl ⟨by omega, by omega⟩, _, rfl, _, _, rfl, rfl, .inl ⟨_, rfl, ?_⟩⟩
            refine ⟨_, _, rfl, rfl, (by show (0 : Int) < 2147483587; decide), _, rfl, p, _, rfl, pFold upd_same, ?_⟩
            exact ⟨_, a + 1, d, _, rfl, hlt', hd, Int.emod_nonneg _ (by decide), Int.emod_lt_of_pos _ (by decide), upd_same, fun b hb => by rw [upd_ne hb, upd_ne hb, upd_ne hb]⟩
        · exact ⟨none, a, d, f, rfl, ha, hd, hf, hf2, upd_same, fun b hb => by rw [upd_ne hb]⟩
      · exact iteF ⟨none, a, d, f, rfl, ha, hd, hf, hf2, upd_same, fun b hb => by rw [upd_ne hb]⟩
    · rintro σ' H2 ⟨v2, a2, d2, f2, rfl, ha2, hd2, hf0, hf1, hH2, hb2⟩
      have hl2 : H2 l = some (.lst (ns.map V.int)) := (hb2 l npl).trans h2
      refine ⟨_, rfl, p, _, rfl, gDigits hH2, _, _, rfl, rfl, _, rfl, ?_⟩
      refine ite2 (fun hg => ?_) (fun hg => ?_)
      · have hg' : (0 : Int) < d2 := of_decide_eq_true hg
        refine ⟨_, rfl, p, _, rfl, gDigits hH2, .inl ⟨_, rfl, ?_⟩⟩
        refine ⟨_, rfl, _, _, rfl, rfl, hm, ?_⟩
        refine ⟨_, rfl, p, _, rfl, gDigits hH2, _, rfl, _, _, rfl, rfl, ⟨hm, hm2⟩, _, rfl, p, _, rfl, pDigits hH2, ?_⟩
        refine ⟨_, rfl, ?_⟩
        refine k _ _ (Int.emod_nonneg _ (by omega)) (Int.emod_lt_of_pos _ hm) ⟨ns, a2, _, f2, upd_same, ?_, hl, ha2, Int.ediv_nonneg hd2 (by omega), hf0, hf1⟩ (hb2.trans But.upd)
        rw [upd_ne npl]
        exact hl2
      · refine ⟨_, rfl, p, _, rfl, gFold hH2, _, rfl, p, _, rfl, gCount hH2, _, _, rfl, rfl, .inl ⟨by omega, by omega⟩, _, _, rfl, rfl, _, _, rfl, rfl, ?_⟩
        refine ⟨_, rfl, _, _, rfl, rfl, ⟨by decide, by decide, by omega⟩, _, _, rfl, rfl, (by show (0 : Int) < 2305843009213693951; decide), .inl ⟨_, rfl, ?_⟩⟩
        refine ⟨_, _, rfl, rfl, ⟨by decide, by decide⟩, _, rfl, _, _, rfl, rfl, hm, ?_⟩
        exact k _ _ (Int.emod_nonneg _ (by omega)) (Int.emod_lt_of_pos _ hm) ⟨ns, a2, d2, f2, hH2, hl2, hl, ha2, hd2, hf0, hf1⟩ hb2
theorem ok_pick {f fD : Addr} {fd fdD : FuncData} (F : Fun K "_law_pick" "_law_pick" s_l_pick f fd) (bn : mg "len" = none)
    (G : FnOk P w K mg base CX0 1 fD fdD ["_law_pen_here", "_law_many"] spDraw) (g : mg "_law_draw" = some (.ref fD)) (kp : PySem.W.keepIn K (.ref fD) = true) (b : Binds K fdD ["_law_pen_here", "_law_many"] []) :
    FnOk P w K mg base CX0 2 f fd ["_law_pen_here", "_law_some"] (spPick K) := by
  refine F.ok sc_l_pick (fun vs H Q E h => ?_) (fun cdv A outer s H vs Q E hr h => ?_)
  · obtain ⟨p, l, q, c, xs, rfl, _⟩ := h
    rfl
  · obtain ⟨p, l, q, c, xs, rfl, hP, hc, hX, hx0, hx1, k⟩ := h
    refine ⟨_, (pss_one (ps_ret (pe_ix ix_seq (pv 1) (pe_call G hr (by rfl) g kp b .nil pass0 (pa_cons (pv 0) (pa_cons (pe_callB call_len (by rfl) bn (by decide +kernel) (pa_cons (pv 1) pa_nil)) pa_nil))) (fun _ _ => rfl)))), ?_⟩
    obtain ⟨ns, a, d, f, h1, _⟩ := hP.ex
    refine ⟨_, rfl, _, rfl, _, rfl, .ref q, xs.length, rfl, ?_, ?_⟩
    · rcases hX with hX | hX
      · exact .inl ⟨_, hX, rfl⟩
      · exact .inr ⟨_, hX, rfl⟩
    refine ⟨p, l, c, _, rfl, hP, hc, by omega, by omega, fun i H' hi0 hi1 hP' hb => ?_⟩
    have hX' := hX.but h1 hb
    have hi : i.toNat < xs.length := by omega
    have ea : atI xs i = some xs[i.toNat] := by
      have e := atI_nat (xs := xs) (j := i.toNat) (List.getElem?_eq_getElem hi)
      rw [Int.toNat_of_nonneg hi0] at e
      exact e
    rcases hX' with hX' | hX'
    · exact .inl ⟨q, _, _, _, rfl, rfl, hX', ea, k _ _ (List.getElem_mem hi) hP' hb⟩
    · exact .inr (.inl ⟨q, _, _, _, rfl, rfl, hX', ea, k _ _ (List.getElem_mem hi) hP' hb⟩)
end
/-! the heap without the pen -/
theorem But.mask {p : Addr} {H H' : Hp} (h : But p H H') : mask p H' = Z.mask p H := by
  funext b
  unfold Z.mask
  split
  · rfl
  · exact h b (by assumption)
theorem Gr.mask {T : List Addr} {p : Addr} {H H' : Hp} (g : Gr T H H') : Gr T (Z.mask p H) (Z.mask p H') := by
  refine ⟨g.ext.mask, fun P h => ?_, fun b h => ?_⟩
  · obtain ⟨ps, e, t⟩ := h
    have n : P ≠ p := fun z => by
      rw [z] at e
      unfold Z.mask at e
      rw [if_pos rfl] at e
      cases e
    rw [mask_ne n] at e
    obtain ⟨qs, e2, t2⟩ := g.tab P ⟨ps, e, t⟩
    exact ⟨qs, by rw [mask_ne n]; exact e2, t2⟩
  · unfold Z.mask at h ⊢
    split
    · rfl
    · rw [if_neg (by assumption)] at h
      exact g.stay b h
/-- the pen stands, with at most n draws made; tables stand -/
structure PT (T : List Addr) (H : Hp) (p l : Addr) (n : Nat) : Prop where
  pen : ∃ c, c ≤ n ∧ Pen H p l c
  tab : Tabs T H
theorem PT.gr {T : List Addr} {H H' : Hp} {p l : Addr} {n : Nat} (h : PT T H p l n) (g : Gr T H H') : PT T H' p l n := by
  obtain ⟨c, hc, h1⟩ := h.pen
  obtain ⟨ns, a, d, f, e1, e2, e3⟩ := h1.ex
  exact ⟨⟨c, hc, ⟨ns, a, d, f, g.ext _ _ e1 (fun _ z => by cases z), g.ext _ _ e2 (fun _ z => by cases z), e3⟩⟩, g.tabs h.tab⟩
theorem PT.mono {T : List Addr} {H : Hp} {p l : Addr} {n m : Nat} (h : PT T H p l n) (le : n ≤ m) : PT T H p l m := by
  obtain ⟨c, hc, h1⟩ := h.pen
  exact ⟨⟨c, Nat.le_trans hc le, h1⟩, h.tab⟩
theorem PT.but {T : List Addr} {H H' : Hp} {p l : Addr} {n c : Nat} (h : PT T H p l n) (b : But p H H') (k : Pen H' p l c) (hc : c ≤ n + 1) : PT T H' p l (n + 1) := by
  obtain ⟨c0, _, h1⟩ := h.pen
  obtain ⟨ns, a, d, f, e1, _⟩ := h1.ex
  refine ⟨⟨c, hc, k⟩, fun P hP => ?_⟩
  obtain ⟨ps, e, t⟩ := h.tab P hP
  have n : P ≠ p := fun z => by
    rw [z, e1] at e
    cases e
  exact ⟨ps, (b P n).trans e, t⟩
theorem PT.ne {T : List Addr} {H : Hp} {p l : Addr} {n : Nat} (h : PT T H p l n) {q : Addr} {o : HO} (e : H q = some o) (no : ∀ kvs, o ≠ .dK kvs) : q ≠ p := fun z => by
  obtain ⟨c0, _, h1⟩ := h.pen
  obtain ⟨ns, a, d, f, e1, _⟩ := h1.ex
  rw [z, e1] at e
  exact no _ (Option.some.inj e).symm
theorem PT.fresh {T : List Addr} {H : Hp} {p l : Addr} {n : Nat} (h : PT T H p l n) {q : Addr} (e : H q = none) : q ≠ p := fun z => by
  obtain ⟨c0, _, h1⟩ := h.pen
  obtain ⟨ns, a, d, f, e1, _⟩ := h1.ex
  rw [z, e1] at e
  cases e
/-- what stands beside the pen -/
theorem un_mask {p : Addr} {H : Hp} {q : Addr} {o : HO} (e : Z.mask p H q = some o) : H q = some o := by
  unfold Z.mask at e
  split at e
  · cases e
  · exact e
/-- draws, with the pen's count hidden -/
def spDr (T : List Addr) : Sp := fun vs H Q _ => ∃ (p l : Addr) (n : Nat) (m : Int), vs = [.ref p, .int m] ∧ PT T H p l n ∧ n < 2 ^ 40 ∧ 0 < m ∧ m < 1073741824 ∧
  ∀ (d : Int) (H' : Hp), 0 ≤ d → d < m → PT T H' p l (n + 1) → Z.mask p H' = Z.mask p H → Q (.int d) H'
def spPk (T : List Addr) (K : PySem.W.Frag) : Sp := fun vs H Q _ => ∃ (p l q : Addr) (n : Nat) (xs : List V), vs = [.ref p, .ref q] ∧ PT T H p l n ∧ n < 2 ^ 40 ∧ SqX K H q xs ∧ 0 < xs.length ∧ xs.length < 1000 ∧
  ∀ (v : V) (H' : Hp), v ∈ xs → PT T H' p l (n + 1) → Z.mask p H' = Z.mask p H → Q v H'
theorem dr_of {T : List Addr} {vs : List V} {H : Hp} {Q : VK} {E : XK} (h : spDr T vs H Q E) : spDraw vs H Q E := by
  obtain ⟨p, l, n, m, rfl, hP, hn, h1, h2, k⟩ := h
  obtain ⟨c, hc, hp⟩ := hP.pen
  exact ⟨p, l, c, m, rfl, hp, by omega, h1, h2, fun d H' d0 d1 hp' b => k d H' d0 d1 (hP.but b hp' (by omega)) b.mask⟩
theorem pk_of {T : List Addr} {K : PySem.W.Frag} {vs : List V} {H : Hp} {Q : VK} {E : XK} (h : spPk T K vs H Q E) : spPick K vs H Q E := by
  obtain ⟨p, l, q, n, xs, rfl, hP, hn, hX, h1, h2, k⟩ := h
  obtain ⟨c, hc, hp⟩ := hP.pen
  exact ⟨p, l, q, c, xs, rfl, hp, by omega, hX, h1, h2, fun v H' hv hp' b => k v H' hv (hP.but b hp' (by omega)) b.mask⟩
end Z
set_option Elab.async false
set_option linter.all false
set_option maxRecDepth 100000
set_option maxHeartbeats 2000000
namespace Z
open PySem L2 PyProof.Rows ZX GX
/-! data: rows of whole numbers, rows of rows -/
def dI (r : List Int) : List PyData := r.map PyData.int
theorem lay_dI : ∀ r : List Int, PyData.canLayAll0 (dI r) = true ∧ PyData.depthAll (dI r) ≤ 1
  | [] => by simp [dI, PyData.canLayAll0, PyData.depthAll]
  | z :: r => by
    have h := lay_dI r
    unfold dI at h ⊢
    simp only [List.map_cons, PyData.canLayAll0, PyData.canLay0, PyData.depthAll, PyData.depth, Bool.true_and]
    exact ⟨h.1, by omega⟩
def shapedAll (ds : List PyData) : Prop := PyData.canLayAll0 ds = true ∧ PyData.depthAll ds ≤ 32
theorem sh_list {ds : List PyData} (h : shapedAll ds) : SeqAt.shaped (.list ds) = true := by
  refine Bool.and_eq_true_iff.mpr ⟨by simp only [PyData.canLay0]; exact h.1, decide_eq_true ?_⟩
  have := h.2
  simp only [PyData.depth]
  omega
theorem sh_tup {ds : List PyData} (h : shapedAll ds) : SeqAt.shaped (.tuple ds) = true := by
  refine Bool.and_eq_true_iff.mpr ⟨by simp only [PyData.canLay0]; exact h.1, decide_eq_true ?_⟩
  have := h.2
  simp only [PyData.depth]
  omega
theorem sh_dI (r : List Int) : shapedAll (dI r) := ⟨(lay_dI r).1, by have := (lay_dI r).2; omega⟩
theorem lay_rows (f : List Int → PyData) (hf : ∀ r, (f r).canLay0 = true ∧ (f r).depth ≤ 30) : ∀ R : List (List Int), PyData.canLayAll0 (R.map f) = true ∧ PyData.depthAll (R.map f) ≤ 30
  | [] => by simp [PyData.canLayAll0, PyData.depthAll]
  | r :: R => by
    have h := lay_rows f hf R
    have h2 := hf r
    simp only [List.map_cons, PyData.canLayAll0, PyData.depthAll, h.1, h2.1, Bool.and_self, true_and]
    omega
theorem sh_lists (R : List (List Int)) : shapedAll (R.map fun r => PyData.list (dI r)) := by
  have h := lay_rows (fun r => PyData.list (dI r)) (fun r => by
    have h := lay_dI r
    simp only [PyData.canLay0, PyData.depth, h.1, true_and]
    omega) R
  exact ⟨h.1, by omega⟩
theorem sh_tups (R : List (List Int)) : shapedAll (R.map fun r => PyData.tuple (dI r)) := by
  have h := lay_rows (fun r => PyData.tuple (dI r)) (fun r => by
    have h := lay_dI r
    simp only [PyData.canLay0, PyData.depth, h.1, true_and]
    omega) R
  exact ⟨h.1, by omega⟩
theorem sh_nil : shapedAll [] := sh_dI []
theorem eqv_list {ds : List PyData} (h : shapedAll ds) : PyData.eqv (.list ds) (.list ds) = true := SeqAt.eqv_refl _ (SeqAt.canLay_of_shaped (sh_list h))
theorem eqv_tup {ds : List PyData} (h : shapedAll ds) : PyData.eqv (.tuple ds) (.tuple ds) = true := SeqAt.eqv_refl _ (SeqAt.canLay_of_shaped (sh_tup h))
theorem eqv_nil {d : PyData} {ds : List PyData} : PyData.eqv (.list (d :: ds)) (.list []) = false := by simp [PyData.eqv, PyData.eqvAll]
section
variable {K : PySem.W.Frag} {H : Hp}
theorem dp_ints : ∀ r : List Int, DpAll K H (r.map V.int) (dI r)
  | [] => .nil
  | z :: r => .cons (.int z) (dp_ints r)
theorem dp_rowL {v : V} {r : List Int} (h : RowL H v r) : Dp K H v (.list (dI r)) := by
  obtain ⟨a, rfl, e⟩ := h
  exact .lst (SqL.of e) (dp_ints r)
theorem dp_rowT {v : V} {r : List Int} (h : RowT H v r) : Dp K H v (.tuple (dI r)) := by
  obtain ⟨a, rfl, e⟩ := h
  exact .tup e.sq (dp_ints r)
theorem dp_all {f : List Int → PyData} {P : V → List Int → Prop} (hf : ∀ v r, P v r → Dp K H v (f r)) {vs : List V} {R : List (List Int)} (h : All2 P vs R) : DpAll K H vs (R.map f) := by
  induction h with
  | nil => exact .nil
  | cons h _ ih => exact .cons (hf _ _ h) ih
theorem dp_matL {v : V} {R : List (List Int)} (h : MatL H v R) : Dp K H v (.list (R.map fun r => .list (dI r))) := by
  obtain ⟨a, vs, rfl, e, hA⟩ := h
  exact .lst (SqL.of e) (dp_all (f := fun r => PyData.list (dI r)) (fun _ _ => dp_rowL) hA)
theorem dp_matT {v : V} {R : List (List Int)} (h : MatT H v R) : Dp K H v (.tuple (R.map fun r => .tuple (dI r))) := by
  obtain ⟨a, vs, rfl, e, hA⟩ := h
  exact .tup (SqT.of e) (dp_all (f := fun r => PyData.tuple (dI r)) (fun _ _ => dp_rowT) hA)
theorem dp_nil {a : Addr} (h : H a = some (.lst [])) : Dp K H (.ref a) (.list []) := .lst (SqL.of h) .nil
end
/-! list comprehensions that leave some out -/
theorem fm_take {β : Type} {F : List (Option β)} {i : Nat} {o : Option β} (h : F[i]? = some o) : (F.take (i + 1)).filterMap id = (F.take i).filterMap id ++ o.toList := by
  rw [take_snoc h, List.filterMap_append]
  cases o <;> rfl
theorem lc_filt {J : It} {n : Nat} {G : Hp → Prop} {Y : Nat → Hp → V → Hp → Prop} {T : List Addr} {g : TG} {tt : TT} {te : TE} {vs : List Nat} {σ : L2.St} {H1 : Hp} {D : Addr} {β : Type} {Qd : Hp → Prop} (F : List (Option β)) (P : Hp → V → β → Prop) (w : Walk J n G Y) (hn : n = F.length) (hz : n < sizeLine) (hD : H1 D = none) (hG : G H1) (st : ∀ H H', Ext H H' → G H → G H')
    (hP : ∀ H H' v b, Ext H H' → P H v b → P H' v b)
    (step : ∀ (i : Nat) (x : V) (o : Option β) (H H' : Hp) (Qc : VK) (Nx : Hp → Prop), i < n → Y i H x H' → F[i]? = some o → Gr T H1 H → (∃ acc, H D = some (.lst acc)) → (∀ b, o = some b → ∀ y H4, Gr T H H4 → P (mask D H4) y b → Qc y H4) → (o = none → ∀ H4, Gr T H H4 → Nx H4) →
      g x (wipe σ vs) H' fun σ2 H2 => wipe σ2 vs = wipe σ vs ∧ tt σ2 H2 fun c H3 => if c = true then te σ2 H3 Qc else Nx H3)
    (fin : ∀ H ys, H D = some (.lst ys) → All2 (P H) ys (F.filterMap id) → Gr T H1 H → Qd H) :
    ∃ W : Nat → Nat → Hp → Prop, (∃ m, W 0 m (upd H1 D (.lst []))) ∧ ∀ i m H, W i m H →
      (J.stop i H ∧ Qd H) ∨ (J.go i H ∧ ∃ Nx : Hp → Prop, (∀ H', Nx H' → ∃ m', m' < m ∧ W (i + 1) m' H') ∧ ∀ x H', J.yld i H x H' → g x (wipe σ vs) H' fun σ2 H2 => wipe σ2 vs = wipe σ vs ∧ tt σ2 H2 fun b H3 =>
        if b = true then te σ2 H3 fun y H4 => ∃ acc, H4 D = some (.lst acc) ∧ acc.length < sizeLine ∧ Nx (upd H4 D (.lst (acc ++ [y]))) else Nx H3) := by
  subst hn
  refine lc_it w (fun i H => ∃ acc, H D = some (.lst acc) ∧ All2 (P (mask D H)) acc ((F.take i).filterMap id) ∧ Gr T H1 H) ⟨[], upd_same, .nil, (Gr.new hD)⟩ (fun i H _ ⟨acc, _, _, g⟩ => st _ _ g.ext hG) (fun i x H H' hi hp hy => ?_) (fun H ⟨acc, h1, h2, h3⟩ => ?_)
  · obtain ⟨acc, h1, h2, h3⟩ := hp
    have hF := List.getElem?_eq_getElem hi
    refine step i x F[i] H H' _ _ hi hy hF h3 ⟨acc, h1⟩ (fun b eb y H4 g4 p4 => ?_) (fun eb H4 g4 => ?_)
    · refine ⟨acc, g4.ext _ _ h1 (fun _ z => by cases z), ?_, acc ++ [y], upd_same, ?_, (h3.trans g4).upd hD⟩
      · have := h2.length
        have l2 := List.length_filterMap_le id (F.take i)
        rw [List.length_take] at l2
        omega
      · rw [mask_upd, fm_take hF, eb, Option.toList_some]
        exact (h2.mono fun _ _ => hP _ _ _ _ g4.ext.mask).snoc p4
    · refine ⟨acc, g4.ext _ _ h1 (fun _ z => by cases z), ?_, h3.trans g4⟩
      rw [fm_take hF, eb, Option.toList_none, List.append_nil]
      exact h2.mono fun _ _ => hP _ _ _ _ g4.ext.mask
  · rw [List.take_length] at h2
    exact fin H acc h1 (h2.mono fun _ _ => hP _ _ _ _ (mask_ext D H)) h3
/-- a list comprehension of drawn numbers -/
theorem lc_ints {J : It} {n : Nat} {G : Hp → Prop} {Y : Nat → Hp → V → Hp → Prop} {T : List Addr} {g : TG} {te : TE} {vs : List Nat} {σ : L2.St} {H1 : Hp} {D p l : Addr} {Qd : Hp → Prop} (n0 k : Nat) (C : Int → Prop) (w : Walk J n G Y) (hz : n < sizeLine) (hD : H1 D = none) (hG : ∀ H, G H) (h0 : PT T H1 p l n0)
    (step : ∀ (i : Nat) (x : V) (H H' : Hp) (Qc : VK) (Nx : Hp → Prop), i < n → Y i H x H' → PT T H p l (n0 + k * i) → (∀ z H4, C z → PT T H4 p l (n0 + k * (i + 1)) → Gr T (mask p H) (mask p H4) → Qc (.int z) H4) →
      g x (wipe σ vs) H' fun σ2 H2 => wipe σ2 vs = wipe σ vs ∧ tYes σ2 H2 fun c H3 => if c = true then te σ2 H3 Qc else Nx H3)
    (fin : ∀ (H : Hp) (zs : List Int), H D = some (.lst (zs.map V.int)) → zs.length = n → (∀ z ∈ zs, C z) → PT T H p l (n0 + k * n) → Gr T (mask p H1) (mask p H) → Qd H) :
    ∃ W : Nat → Nat → Hp → Prop, (∃ m, W 0 m (upd H1 D (.lst []))) ∧ ∀ i m H, W i m H →
      (J.stop i H ∧ Qd H) ∨ (J.go i H ∧ ∃ Nx : Hp → Prop, (∀ H', Nx H' → ∃ m', m' < m ∧ W (i + 1) m' H') ∧ ∀ x H', J.yld i H x H' → g x (wipe σ vs) H' fun σ2 H2 => wipe σ2 vs = wipe σ vs ∧ tYes σ2 H2 fun b H3 =>
        if b = true then te σ2 H3 fun y H4 => ∃ acc, H4 D = some (.lst acc) ∧ acc.length < sizeLine ∧ Nx (upd H4 D (.lst (acc ++ [y]))) else Nx H3) := by
  have nDp : D ≠ p := h0.fresh hD
  have up : ∀ {H : Hp} {o : HO}, mask p (upd H D o) = upd (mask p H) D o := fun {H o} => by
    funext b
    by_cases z : b = D
    · rw [z, mask_ne nDp, upd_same, upd_same]
    · rw [upd_ne z]
      unfold mask
      split
      · rfl
      · exact upd_ne z
  have mD : mask p H1 D = none := by rw [mask_ne nDp]; exact hD
  have pt : ∀ {H : Hp} {m : Nat} {xs : List V}, PT T H p l m → (H D = none ∨ ∃ ys, H D = some (.lst ys)) → (H l ≠ none → l ≠ D ) → PT T (upd H D (.lst xs)) p l m := fun {H m xs} h e ne => by
    obtain ⟨c, hc, hp⟩ := h.pen
    obtain ⟨ns, a, d, f, e1, e2, e3⟩ := hp.ex
    have n1 : p ≠ D := Ne.symm nDp
    have n2 : l ≠ D := ne (by rw [e2]; intro z; cases z)
    refine ⟨⟨c, hc, ⟨ns, a, d, f, by rw [upd_ne n1]; exact e1, by rw [upd_ne n2]; exact e2, e3⟩⟩, fun P hP => ?_⟩
    obtain ⟨ps, q, t⟩ := h.tab P hP
    refine ⟨ps, ?_, t⟩
    rw [upd_ne]
    · exact q
    · intro z
      rw [z] at q
      rcases e with e | ⟨ys, e⟩
      · rw [e] at q; cases q
      · rw [e] at q; cases q
  have nl : l ≠ D := fun z => by
    obtain ⟨c, hc, hp⟩ := h0.pen
    obtain ⟨ns, a, d, f, e1, e2, e3⟩ := hp.ex
    rw [z, hD] at e2
    cases e2
  refine lc_it w (fun i H => ∃ zs : List Int, H D = some (.lst (zs.map V.int)) ∧ zs.length = i ∧ (∀ z ∈ zs, C z) ∧ PT T H p l (n0 + k * i) ∧ Gr T (mask p H1) (mask p H)) ⟨[], upd_same, rfl, (fun z hz => by cases hz), pt (by rw [Nat.mul_zero]; exact h0) (.inl hD) (fun _ => nl), by rw [up]; exact Gr.new mD⟩ (fun i H _ _ => hG H) (fun i x H H' hi hp hy => ?_) (fun H ⟨zs, h1, h2, h3, h4, h5⟩ => fin H zs h1 h2 h3 h4 h5)
  obtain ⟨zs, h1, h2, h3, h4, h5⟩ := hp
  refine step i x H H' _ _ hi hy h4 fun z H4 cz p4 g4 => ?_
  have e4 : H4 D = some (.lst (zs.map V.int)) := by
    have := g4.ext D (.lst (zs.map V.int)) (by rw [mask_ne nDp]; exact h1) (fun _ z => by cases z)
    rwa [mask_ne nDp] at this
  refine ⟨_, e4, by rw [List.length_map]; omega, zs ++ [z], ?_, by rw [List.length_append, h2]; rfl, fun y hy => ?_, pt p4 (.inr ⟨_, e4⟩) (fun _ => nl), ?_⟩
  · rw [upd_same, List.map_append]
    rfl
  · rcases List.mem_append.mp hy with hy | hy
    · exact h3 y hy
    · rw [List.mem_singleton.mp hy]
      exact cz
  · rw [up]
    exact (h5.trans g4).upd mD
end Z
set_option Elab.async false
set_option linter.all false
set_option maxRecDepth 100000
set_option maxHeartbeats 4000000
namespace Z
open PySem L2 PyProof.Rows ZX GX
/-! the law's own numbers and rows -/
abbrev s_l_whole : Stmt := topS 29
abbrev s_l_pow : Stmt := topS 30
abbrev s_l_rest : Stmt := topS 31
theorem sc_l_whole : FnScope ["_law_value"] ["_law_value"] (defScope s_l_whole) := ⟨rfl, rfl, rfl, by decide +kernel, rfl, by decide +kernel, by decide +kernel⟩
theorem sc_l_pow : FnScope ["_law_number", "_law_n", "_law_prime", "_law_found", "_law_lap"] ["_law_number", "_law_n", "_law_prime"] (defScope s_l_pow) := ⟨rfl, rfl, rfl, by decide +kernel, rfl, by decide +kernel, by decide +kernel⟩
theorem sc_l_rest : FnScope ["_law_basis_here", "_law_row", "_law_prime", "_law_place", "_law_lead", "_law_by", "_law_one", "_law_two"] ["_law_basis_here", "_law_row", "_law_prime"] (defScope s_l_rest) := ⟨rfl, rfl, rfl, by decide +kernel, rfl, by decide +kernel, by decide +kernel⟩
/-- a basis, as the law keeps it -/
def PairL (H : Hp) (v : V) (d : Nat × List Int) : Prop := ∃ (a : Addr) (u : V), v = .ref a ∧ H a = some (.tup [.int (d.1 : Int), u]) ∧ RowL H u d.2
def BasL (H : Hp) (v : V) (B : M2.Done) : Prop := ∃ (a : Addr) (vs : List V), v = .ref a ∧ H a = some (.lst vs) ∧ All2 (PairL (mask a H)) vs B
theorem PairL.ext {H H' : Hp} {v : V} {d : Nat × List Int} (x : Ext H H') (h : PairL H v d) : PairL H' v d := by
  obtain ⟨a, u, e, q, r⟩ := h
  exact ⟨a, u, e, x _ _ q (fun _ z => by cases z), r.ext x⟩
theorem BasL.ext {H H' : Hp} {v : V} {B : M2.Done} (x : Ext H H') (h : BasL H v B) : BasL H' v B := by
  obtain ⟨a, vs, e, q, m⟩ := h
  exact ⟨a, vs, e, x _ _ q (fun _ z => by cases z), m.mono fun _ _ => PairL.ext x.mask⟩
def spLPow : Sp := fun vs H Q _ => ∃ b e m : Nat, vs = [.int (b : Int), .int (e : Int), .int (m : Int)] ∧ 1 < m ∧ m < 2 ^ 31 ∧ b < m ∧ e < 2 ^ 31 ∧ Q (.int ((b ^ e % m : Nat) : Int)) H
structure BasOk (B : M2.Done) (n p : Nat) : Prop where
  rng : ∀ d ∈ B, M2.Rng p n d.2
  pl : ∀ d ∈ B, d.1 < n
  few : B.length ≤ 500
  sml : n ≤ 500
  p1 : 1 < p
  p2 : p < 2 ^ 31
def spRst (T : List Addr) : Sp := fun vs H Q _ => ∃ (v u : V) (B : M2.Done) (r : List Int) (n p : Nat), vs = [v, u, .int (p : Int)] ∧ BasL H v B ∧ RowL H u r ∧ BasOk B n p ∧ M2.Rng p n r ∧ ∀ H' u', Gr T H H' → RowL H' u' (M2.restL p B r) → Q u' H'
section
variable {P : Program} {w : World} {K : PySem.W.Frag} {mg : Str → Option Value} {base : Heap} {T : List Addr}
theorem ok_l_whole {f : Addr} {fd : FuncData} (F : Fun K "_law_is_whole" "_law_is_whole" s_l_whole f fd) (bI : mg "isinstance" = none) (bi : mg "int" = none) (bb : mg "bool" = none) : FnOk P w K mg base CX0 1 f fd ["_law_value"] (spWhole K) := by
  refine F.ok sc_l_whole (fun vs H Q E h => ?_) (fun cdv A outer s H vs Q E hr h => ?_)
  · obtain ⟨v, T, b1, b2, rfl, _⟩ := h
    rfl
  · obtain ⟨v, T, b1, b2, rfl, ty, k1, k2, k⟩ := h
    refine ⟨_, (pss_one (ps_ret (pe_and (pe_callB call_isi (by rfl) bI (by decide +kernel) (pa_cons (pv 0) (pa_cons (pe_bltn (v := .ty "int") (by rfl) bi PySem.Pv.boot_int rfl) pa_nil))) (pe_one (pe_not (pe_callB call_isi (by rfl) bI (by decide +kernel) (pa_cons (pv 0) (pa_cons (pe_bltn (v := .ty "bool") (by rfl) bb PySem.Pv.boot_bool rfl) pa_nil)))))))), ?_⟩
    refine ⟨_, rfl, v, .ty "int", _, _, b1, rfl, .ty _, ty, kit_ty k1, b1, rfl, ?_⟩
    cases b1 with
    | false => exact iteF k
    | true =>
      refine iteT ?_
      refine ⟨_, rfl, v, .ty "bool", _, _, b2, rfl, .ty _, ty, kit_ty k2, b2, rfl, ?_⟩
      exact k
theorem ok_l_pow {f : Addr} {fd : FuncData} (F : Fun K "_law_power_mod" "_law_power_mod" s_l_pow f fd) (br : mg "range" = none) (bi : mg "int" = none) : FnOk P w K mg base CX0 1 f fd ["_law_number", "_law_n", "_law_prime"] spLPow := by
  refine F.ok sc_l_pow (fun vs H Q E h => ?_) (fun cdv A outer s H vs Q E hr h => ?_)
  · obtain ⟨b, e, m, rfl, _⟩ := h
    rfl
  · obtain ⟨b, e, m, rfl, m1, m2, bm, e2, k⟩ := h
    refine ⟨_, (pss_cons (ps_set (i := 3) sc_l_pow.nd rfl (Or.inl rfl) pe_int)
      (pss_cons (ps_for PassesOwn.never rfl (pi_range1 (by rfl) br (pa_cons pe_int pa_nil)) (pg_name (i := 4) sc_l_pow.nd rfl (Or.inl rfl))
        (pss_cons (ps_if (pt_cmpR op_eq (pv 1) pe_int (nomark _)) (pss_one ps_break) pss_nil)
        (C8.pss_cut (ps_if (pt_cmpR op_eq (pe_op op_mod (pe_callTy call_int1 (by rfl) bi (by decide +kernel) (pa_cons (pv 1) pa_nil)) pe_int) pe_int (nomark _))
            (pss_one (ps_set (i := 3) sc_l_pow.nd rfl (Or.inl rfl) (pe_op op_mod (pe_op op_mul (pv 3) (pv 0)) (pv 2))))
            pss_nil)
          (pss_one (ps_par (i := 0) (j := 1) (by rfl) sc_l_pow.nd rfl rfl (by decide) rfl rfl (pa_cons (pe_op op_mod (pe_op op_mul (pv 0) (pv 0)) (pv 2)) (pa_cons (pe_op op_fdiv (pv 1) pe_int) pa_nil)) (by rfl))))))
      (pss_one (ps_ret (pv 3))))), ?_⟩
    have fin : ∀ (f : Nat) (b2 : Nat), f < m → f * b2 ^ 0 % m = b ^ e % m → Q (.int (f : Int)) H := fun f b2 h1 h2 => by
      rw [Nat.pow_zero, Nat.mul_one, Nat.mod_eq_of_lt h1] at h2
      rw [h2]
      exact k
    refine ⟨_, rfl, by decide, by decide, ?_⟩
    refine for_range (lo := 0) (n := 64) (fun i σ' H' => ∃ (b2 f : Nat) (lap : Option V), σ' = [some (.int (b2 : Int)), some (.int ((e / 2 ^ i : Nat) : Int)), some (.int (m : Int)), some (.int (f : Int)), lap] ∧ H' = H ∧ f < m ∧ b2 < m ∧ f * b2 ^ (e / 2 ^ i) % m = b ^ e % m)
      ⟨b, 1, none, ?_, rfl, m1, bm, ?_⟩ ?_ ?_
    · rw [Nat.pow_zero, Nat.div_one]
      rfl
    · rw [Nat.pow_zero, Nat.div_one, Nat.one_mul]
    · rintro i σ' H' hi ⟨b2, f, lap, rfl, rfl, f1, b1, inv⟩
      generalize hn : e / 2 ^ i = n at *
      have hn2 : e / 2 ^ (i + 1) = n / 2 := by rw [Nat.pow_succ, ← Nat.div_div_eq_div_mul, hn]
      refine ⟨_, rfl, rfl, _, rfl, ?_⟩
      refine ite2 (fun h0 => ?_) (fun h0 => ?_)
      · have h0 := int_of h0
        have : n = 0 := by omega
        subst this
        exact ⟨_, rfl, fin f b2 f1 inv⟩
      · have h0 := int_nof h0
        refine ⟨fun σ' H1 => ∃ (f' : Nat) (lap : Option V), σ' = [some (.int (b2 : Int)), some (.int (n : Int)), some (.int (m : Int)), some (.int (f' : Int)), lap] ∧ H1 = H' ∧ f' < m ∧ f' * (b2 * b2 % m) ^ (n / 2) % m = b ^ e % m, ?_, ?_⟩
        · refine ⟨_, rfl, .inl ⟨_, rfl, ?_⟩⟩
          refine ⟨_, _, rfl, rfl, (by show (0 : Int) < 2; decide), rfl, _, rfl, ?_⟩
          refine ite2 (fun ho => ?_) (fun ho => ?_)
          · have ho := int_of ho
            refine ⟨_, rfl, _, rfl, _, _, rfl, rfl, .inl ⟨by omega, by omega⟩, _, rfl, _, _, rfl, rfl, (by omega), ?_⟩
            refine ⟨f * b2 % m, some (.int (0 + (i : Int))), ?_, rfl, Nat.mod_lt _ (by omega), ?_⟩
            · rw [← cast_mm]
              rfl
            · rw [pow_step f b2 n m (by omega)]
              exact inv
          · have ho := int_nof ho
            refine ⟨f, _, rfl, rfl, f1, ?_⟩
            rw [pow_step0 f b2 n m (by omega)]
            exact inv
        · rintro σ' H1 ⟨f', lap, rfl, rfl, f1', inv'⟩
          refine ⟨_, rfl, _, rfl, _, _, rfl, rfl, .inl ⟨by omega, by omega⟩, _, rfl, _, _, rfl, rfl, (by omega), _, rfl, _, _, rfl, rfl, ⟨by decide, by decide⟩, _, _, rfl, ?_⟩
          refine ⟨b2 * b2 % m, f', lap, ?_, rfl, f1', Nat.mod_lt _ (by omega), ?_⟩
          · rw [hn2, ← cast_mm, show ((n / 2 : Nat) : Int) = (n : Int) / 2 by omega]
            rfl
          · rw [hn2]
            exact inv'
    · rintro σ' H' ⟨b2, f, lap, rfl, rfl, f1, b1, inv⟩
      have : e / 2 ^ 64 = 0 := Nat.div_eq_of_lt (by omega)
      rw [this] at inv
      exact ⟨_, rfl, fin f b2 f1 inv⟩
theorem ok_l_rest {f : Addr} {fd : FuncData} (F : Fun K "_law_rest" "_law_rest" s_l_rest f fd) (bz : mg "zip" = none) : FnOk P w K mg base CX0 1 f fd ["_law_basis_here", "_law_row", "_law_prime"] (spRst T) := by
  refine F.ok sc_l_rest (fun vs H Q E h => ?_) (fun cdv A outer s H vs Q E hr h => ?_)
  · obtain ⟨v, u, B, r, n, p, rfl, _⟩ := h
    rfl
  · obtain ⟨v, u, B, r, n, p, rfl, ⟨ba, vs, rfl, eB, aB⟩, hu, ok, hr0, k⟩ := h
    refine ⟨_, (pss_cons (ps_for PassesOwn.never rfl (pi_sq (pv 0)) (pg_tup rfl (pgs_cons (pg_name (i := 3) sc_l_rest.nd rfl (Or.inl rfl)) (pgs_cons (pg_name (i := 4) sc_l_rest.nd rfl (Or.inl rfl)) pgs_nil)))
        (pss_cons (ps_set (i := 5) sc_l_rest.nd rfl (Or.inr rfl) (pe_ix ixH (pv 1) (pv 3) (fun _ _ => rfl)))
        (pss_one (ps_if (pt_cmpR op_ne (pv 5) pe_int (nomark _))
          (pss_one (ps_setLc (i := 1) (own := [("_law_one", 6), ("_law_two", 7)]) (g := gTup K 2 (gCons (gName 6) (gCons (gName 7) gNil))) (tt := tYes) rfl sc_l_rest.nd rfl rfl (sw_true rfl rfl rfl (by decide +kernel)) (pi_zx (by rfl) bz (pa_cons (pv 1) (pa_cons (pv 4) pa_nil))) (blkOk_by (own := [("_law_one", 6), ("_law_two", 7)]) (N := ["_law_basis_here", "_law_row", "_law_prime", "_law_place", "_law_lead", "_law_by", "_law_one", "_law_two"]) (sc := defScope s_l_rest) (by decide +kernel))
            (fun _ _ _ _ _ => pg_tup rfl (pgs_cons (pg_name (i := 6) sc_l_rest.nd rfl (Or.inl rfl)) (pgs_cons (pg_name (i := 7) sc_l_rest.nd rfl (Or.inl rfl)) pgs_nil))) (fun _ _ _ _ _ => pts_nil) (fun _ _ _ _ _ => pe_op op_mod (pe_op op_sub (pv 6) (pe_op op_mul (pv 5) (pv 7))) (pv 2))))
          pss_nil))))
      (pss_one (ps_ret (pv 1)))), ?_⟩
    have p1 := ok.p1
    have p2 := ok.p2
    have hp : 0 < p := by omega
    have sml := ok.sml
    have aB2 := aB.mono fun _ _ => PairL.ext (mask_ext ba H)
    refine ⟨_, rfl, ba, vs, false, rfl, sqL eB, for_it walk_sq (fun i σ' H' => ∃ (u' : V) (v3 v4 v5 : Option V), σ' = [some (.ref ba), some u', some (.int (p : Int)), v3, v4, v5, none, none] ∧ Gr T H H' ∧ RowL H' u' (M2.restL p (B.take i) r)) ⟨u, none, none, none, rfl, .refl T H, hu⟩ (fun i σ' H' _ ⟨_, _, _, _, _, g, _⟩ => g.ext.sq (sqL eB)) ?_ ?_⟩
    · rintro i x σ' H3 H4 hi ⟨u', v3, v4, v5, rfl, g, hu'⟩ ⟨rfl, hx⟩
      obtain ⟨d, hd, ta, l, rfl, eT, hl⟩ := aB2.get hx
      have hmem := List.mem_of_getElem? hd
      have hd2 := ok.rng d hmem
      have hpl := ok.pl d hmem
      have rq : M2.Rng p n (M2.restL p (B.take i) r) := M2.restL_rng hp (fun d hd => ok.rng d (List.mem_of_mem_take hd)) hr0
      have nxt : M2.restL p (B.take (i + 1)) r = M2.clearedL p d.1 d.2 (M2.restL p (B.take i) r) := by
        rw [take_snoc hd, M2.restL_app]
        rfl
      generalize hq : M2.restL p (B.take i) r = q at *
      obtain ⟨ua, rfl, eu⟩ := hu'
      obtain ⟨la, rfl, el⟩ := hl.ext g.ext
      refine ⟨ta, _, rfl, SqT.of (g.ext _ _ eT (fun _ z => by cases z)), rfl, _, _, rfl, _, _, rfl, rfl, ?_⟩
      refine ⟨_, rfl, _, rfl, false, ua, _, d.1, _, rfl, rfl, eu, ev_get (by rw [rq.1]; exact hpl), ?_⟩
      refine ⟨_, rfl, rfl, _, rfl, ?_⟩
      refine ite2 (fun h1 => ?_) (fun h1 => ?_)
      · have h1 : M2.ev q d.1 ≠ 0 := fun z => by
          rw [z] at h1
          simp at h1
        have ec : M2.clearedL p d.1 d.2 q = List.zipWith (fun x y => (x - M2.ev q d.1 * y) % (p : Int)) q d.2 := by
          unfold M2.clearedL
          rw [if_neg h1]
        have x0 := rq.at hp d.1
        have leq : q.length = d.2.length := by rw [rq.1, hd2.1]
        refine ⟨_, rfl, _, rfl, ua, la, _, _, false, false, rfl, sqL eu, sqL el, fun D0 hD0 => lc_map (T := T) (M2.clearedL p d.1 d.2 q) IntV (walk_zx (by rw [List.length_map, List.length_map, leq])) (by rw [ec, List.length_map, List.length_zipWith]; omega) (by rw [List.length_map, rq.1]; exact small1000 (by omega)) hD0 ⟨sqL eu, sqL el⟩
          (fun H H' x h => ⟨x.sq h.1, x.sq h.2⟩) (fun _ _ _ _ _ h => h) ?_ ?_⟩
        · rintro j x y H5 H6 Qc Nx hj ⟨Tp, x1, x2, rfl, hT, rfl, e1, e2⟩ hF g5 hacc kc
          obtain ⟨z1, hz1, rfl⟩ := row_at e1
          obtain ⟨z2, hz2, rfl⟩ := row_at e2
          have r2 := hd2.2 z2 (List.mem_of_getElem? hz2)
          refine ⟨Tp, _, rfl, SqT.of upd_same, rfl, _, _, rfl, _, _, rfl, rfl, ?_⟩
          refine ⟨rfl, ?_⟩
          dsimp only [tYes]
          refine iteT ?_
          refine ⟨_, rfl, _, rfl, _, rfl, _, _, rfl, rfl, .inl ⟨by omega, by omega⟩, _, _, rfl, rfl, _, rfl, _, _, rfl, rfl, (by omega), kc _ _ (Gr.new hT) ?_⟩
          rw [ec, List.getElem?_zipWith, hz1, hz2] at hF
          have := Option.some.inj hF
          show V.int _ = V.int _
          rw [← this]
        · intro H5 ys hD5 hA g5
          refine ⟨.ref D0, _, _, _, rfl, g.trans g5, ?_⟩
          rw [nxt]
          refine ⟨D0, rfl, ?_⟩
          rw [← all_int hA]
          exact hD5
      · have h1 : M2.ev q d.1 = 0 := Classical.byContradiction fun z => h1 (by simpa using z)
        refine ⟨.ref ua, _, _, _, rfl, g, ?_⟩
        rw [nxt]
        unfold M2.clearedL
        rw [if_pos h1]
        exact ⟨ua, rfl, eu⟩
    · rintro σ' H3 ⟨u', v3, v4, v5, rfl, g, hu'⟩
      rw [List.take_of_length_le (by rw [aB.length]; exact Nat.le_refl _)] at hu'
      exact ⟨_, rfl, k _ _ g hu'⟩
end
end Z
set_option Elab.async false
set_option linter.all false
set_option maxRecDepth 100000
set_option maxHeartbeats 4000000
namespace Z
open PySem L2 PyProof.Rows ZX GX
/-! the law's bases, ranks and looks -/
abbrev s_l_basis : Stmt := topS 32
abbrev s_l_rank : Stmt := topS 33
abbrev s_l_inside : Stmt := topS 34
abbrev s_l_are : Stmt := topS 35
theorem sc_l_basis : FnScope ["_law_rows", "_law_prime", "_law_basis_here", "_law_row", "_law_rest_here", "_law_spots", "_law_by", "_law_one", "_law_k"] ["_law_rows", "_law_prime"] (defScope s_l_basis) := ⟨rfl, rfl, rfl, by decide +kernel, rfl, by decide +kernel, by decide +kernel⟩
theorem sc_l_rank : FnScope ["_law_rows", "_law_prime"] ["_law_rows", "_law_prime"] (defScope s_l_rank) := ⟨rfl, rfl, rfl, by decide +kernel, rfl, by decide +kernel, by decide +kernel⟩
theorem sc_l_inside : FnScope ["_law_basis_here", "_law_row", "_law_prime", "_law_one"] ["_law_basis_here", "_law_row", "_law_prime"] (defScope s_l_inside) := ⟨rfl, rfl, rfl, by decide +kernel, rfl, by decide +kernel, by decide +kernel⟩
theorem sc_l_are : FnScope ["_law_value", "_law_wide", "_law_prime", "_law_row", "_law_one"] ["_law_value", "_law_wide", "_law_prime"] (defScope s_l_are) := ⟨rfl, rfl, rfl, by decide +kernel, rfl, by decide +kernel, by decide +kernel⟩
/-- places that are not 0 -/
def nzF (q : List Int) : List (Option Nat) := (List.range q.length).map fun k => if M2.ev q k = 0 then none else some k
def nzs (q : List Int) : List Nat := (List.range q.length).filter fun k => M2.ev q k != 0
theorem nz_fm (q : List Int) : (nzF q).filterMap id = nzs q := by
  have g : ∀ l : List Nat, (l.map fun k => if M2.ev q k = 0 then none else some k).filterMap id = l.filter fun k => M2.ev q k != 0 := by
    intro l
    induction l with
    | nil => rfl
    | cons k l ih =>
      rw [List.map_cons, List.filter_cons]
      by_cases h : M2.ev q k = 0
      · rw [if_pos h, List.filterMap_cons_none rfl, ih, if_neg (by rw [h]; decide)]
      · rw [if_neg h, if_pos (by simpa using h), ← ih]
        rfl
  exact g _
theorem nzs_none {q : List Int} (h : nzs q = []) : M2.fstNZ q = none := by
  refine List.findIdx?_eq_none_iff.mpr fun x hx => ?_
  obtain ⟨i, hi, rfl⟩ := List.mem_iff_getElem.mp hx
  have := (List.filter_eq_nil_iff.mp h) i (List.mem_range.mpr hi)
  rw [M2.ev_at hi] at this
  simpa using this
theorem nzs_some {q : List Int} {c : Nat} {t : List Nat} (h : nzs q = c :: t) : M2.fstNZ q = some c := by
  have hm : c ∈ nzs q := by rw [h]; exact List.mem_cons_self
  obtain ⟨h1, h2⟩ := List.mem_filter.mp hm
  have hc := List.mem_range.mp h1
  have sorted : (nzs q).Pairwise (· < ·) := (List.pairwise_lt_range (n := q.length)).filter _
  rw [h] at sorted
  refine List.findIdx?_eq_some_iff_getElem.mpr ⟨hc, ?_, fun j hj => ?_⟩
  · rw [M2.ev_at hc] at h2
    exact h2
  · intro z
    have hj2 : j < q.length := Nat.lt_trans hj hc
    have : j ∈ nzs q := List.mem_filter.mpr ⟨List.mem_range.mpr hj2, by rw [M2.ev_at hj2]; exact z⟩
    rw [h] at this
    rcases List.mem_cons.mp this with e | e
    · omega
    · have := (List.pairwise_cons.mp sorted).1 j e
      omega
def NatV (H : Hp) (v : V) (k : Nat) : Prop := v = .int (k : Int)
theorem all_nat {H : Hp} : ∀ {ys : List V} {ks : List Nat}, All2 (NatV H) ys ks → ys = ks.map fun k : Nat => V.int (k : Int)
  | _, _, .nil => rfl
  | _, _, .cons (a := y) h t => by
    have h : y = _ := h
    rw [h, all_nat t]
    rfl
theorem basL_len {p : Nat} (R : List (List Int)) : (M2.basL p R).length ≤ R.length := by
  have g : ∀ (R : List (List Int)) (B : M2.Done), (R.foldl (M2.basStep p) B).length ≤ B.length + R.length := by
    intro R
    induction R with
    | nil => intro B; exact Nat.le_refl _
    | cons r R ih =>
      intro B
      have h := ih (M2.basStep p B r)
      have h2 : (M2.basStep p B r).length ≤ B.length + 1 := by
        unfold M2.basStep
        split
        · omega
        · rw [List.length_append]
          exact Nat.le_refl _
      rw [List.length_cons]
      exact Nat.le_trans h (by omega)
  have := g R []
  rw [List.length_nil, Nat.zero_add] at this
  exact this
theorem basL_snoc {p : Nat} (R : List (List Int)) (r : List Int) : M2.basL p (R ++ [r]) = M2.basStep p (M2.basL p R) r := by
  unfold M2.basL
  rw [List.foldl_append]
  rfl
theorem bas_good {R : List (List Int)} {n p : Nat} (pr : M2.Pr p) (p3 : p < 2 ^ 31) (hn : ∀ r ∈ R, r.length = n) (h5 : R.length ≤ 500) (n5 : n ≤ 500) : BasOk (M2.basL p R) n p := by
  have g := M2.bas_ok pr hn
  have := basL_len (p := p) R
  exact ⟨g.rd, g.pl, by omega, n5, pr.1, p3⟩
def spBas (T : List Addr) : Sp := fun vs H Q _ => ∃ (v : V) (R : List (List Int)) (n p : Nat), vs = [v, .int (p : Int)] ∧ MatV H v R ∧ (∀ r ∈ R, r.length = n) ∧ R.length ≤ 500 ∧ n ≤ 500 ∧ M2.Pr p ∧ p < 2 ^ 31 ∧ ∀ H' u, Gr T H H' → BasL H' u (M2.basL p R) → Q u H'
def spLRk (T : List Addr) : Sp := fun vs H Q _ => ∃ (v : V) (R : List (List Int)) (n p : Nat), vs = [v, .int (p : Int)] ∧ MatV H v R ∧ (∀ r ∈ R, r.length = n) ∧ R.length ≤ 500 ∧ n ≤ 500 ∧ M2.Pr p ∧ p < 2 ^ 31 ∧ ∀ H', Gr T H H' → Q (.int ((M2.basL p R).length : Int)) H'
def spIns (T : List Addr) : Sp := fun vs H Q _ => ∃ (v u : V) (B : M2.Done) (r : List Int) (n p : Nat), vs = [v, u, .int (p : Int)] ∧ BasL H v B ∧ RowT H u r ∧ BasOk B n p ∧ M2.Rng p n r ∧ (∀ x ∈ M2.restL p B r, x = 0) ∧ ∀ H', Gr T H H' → Q (.bl true) H'
def spAre (T : List Addr) : Sp := fun vs H Q _ => ∃ (v : V) (R : List (List Int)) (n p : Nat), vs = [v, .int (n : Int), .int (p : Int)] ∧ MatT H v R ∧ (∀ r ∈ R, M2.Rng p n r) ∧ n ≤ 500 ∧ ∀ H', Gr T H H' → Q (.bl true) H'
theorem lenT {X : Cx} : CallR X (.builtin "len") (fun vs H Q => ∃ (a : Addr) (xs : List V), vs = [.ref a] ∧ TupF H a xs ∧ Q (.int (xs.length : Int)) H) := by
  intro pins s σ H vs us Q I r h
  obtain ⟨a, xs, rfl, hS, q⟩ := h
  exact call_len (X := X) pins s σ H _ us Q I r ⟨_, xs.length, rfl, .inr ⟨xs, hS.sq, rfl⟩, q⟩
section
variable {P : Program} {w : World} {K : PySem.W.Frag} {mg : Str → Option Value} {base : Heap} {T : List Addr}
theorem ok_l_basis {f : Addr} {fd : FuncData} (F : Fun K "_law_basis" "_law_basis" s_l_basis f fd) (br : mg "range" = none) (bn : mg "len" = none) (WR : Fx P w K mg base "_law_rest" 1 ["_law_basis_here", "_law_row", "_law_prime"] (spRst T)) (WP : Fx P w K mg base "_law_power_mod" 1 ["_law_number", "_law_n", "_law_prime"] spLPow) :
    FnOk P w K mg base CX0 2 f fd ["_law_rows", "_law_prime"] (spBas T) := by
  refine F.ok sc_l_basis (fun vs H Q E h => ?_) (fun cdv A outer s H vs Q E hr h => ?_)
  · obtain ⟨v, R, n, p, rfl, _⟩ := h
    rfl
  · obtain ⟨v, R, n, p, rfl, ⟨am, tm, ms, rfl, hM, aM⟩, hn, hR5, hn5, pr, p3, k⟩ := h
    refine ⟨_, (pss_cons (ps_set (i := 2) sc_l_basis.nd rfl (Or.inl rfl) (pe_lst pa_nil))
      (pss_cons (ps_for PassesOwn.never rfl (pi_sq (pv 0)) (pg_name (i := 3) sc_l_basis.nd rfl (Or.inl rfl))
        (pss_cons (ps_set (i := 4) sc_l_basis.nd rfl (Or.inr rfl) (pe_fx WR hr (pa_cons (pv 2) (pa_cons
            (pe_lc (own := [("_law_one", 7)]) (g := gName 7) (tt := tYes) rfl sc_l_basis.nd (pi_sq (pv 3)) (blkOk_by (own := [("_law_one", 7)]) (N := ["_law_rows", "_law_prime", "_law_basis_here", "_law_row", "_law_rest_here", "_law_spots", "_law_by", "_law_one", "_law_k"]) (sc := defScope s_l_basis) (by decide +kernel))
              (fun _ _ _ _ _ => pg_name (i := 7) sc_l_basis.nd rfl (Or.inl rfl)) (fun _ _ _ _ _ => pts_nil) (fun _ _ _ _ _ => pe_op op_mod (pv 7) (pv 1)))
            (pa_cons (pv 1) pa_nil)))))
        (pss_cons (ps_setLc (i := 5) (own := [("_law_k", 8)]) (g := gName 8) (tt := tTest (tOp rNe (tOp (fun x y H Q => ∃ (t : Bool) (a : Addr) (xs : List V) (i : Nat) (v : V), x = .ref a ∧ y = .int (i : Int) ∧ SqH t H a xs ∧ xs[i]? = some v ∧ Q v H) (tVar 4) (tVar 8)) (tC (.int 0)))) rfl sc_l_basis.nd rfl rfl (sw_true rfl rfl rfl (by decide +kernel)) (pi_range1 (by rfl) br (pa_cons (pe_callB lenH (by rfl) bn (by decide +kernel) (pa_cons (pv 4) pa_nil)) pa_nil)) (blkOk_by (own := [("_law_k", 8)]) (N := ["_law_rows", "_law_prime", "_law_basis_here", "_law_row", "_law_rest_here", "_law_spots", "_law_by", "_law_one", "_law_k"]) (sc := defScope s_l_basis) (by decide +kernel))
              (fun _ _ _ _ _ => pg_name (i := 8) sc_l_basis.nd rfl (Or.inl rfl)) (fun _ _ _ _ _ => pts_one (pt_cmpR op_ne (pe_ix ixH (pv 4) (pv 8) (fun _ _ => rfl)) pe_int (nomark _))) (fun _ _ _ _ _ => pv 8))
        (pss_one (ps_if (pt_cmpR (op_neD hr.units) (pv 5) (pe_lst pa_nil) (nomark _))
          (pss_cons (ps_set (i := 6) sc_l_basis.nd rfl (Or.inr rfl) (pe_fx WP hr (pa_cons (pe_ix ixH (pv 4) (pe_ix ixH (pv 5) pe_int (fun _ _ => rfl)) (fun _ _ => rfl)) (pa_cons (pe_op op_sub (pv 1) pe_int) (pa_cons (pv 1) pa_nil)))))
          (pss_one (ps_expr (pe_bm PySem.F.plainAttrs_list PySem.F.slot_list_append PySem.F.type_list_append mt_append (pv 2) (pa_cons (pe_tup (pa_cons (pe_ix ixH (pv 5) pe_int (fun _ _ => rfl)) (pa_cons
            (pe_lc (own := [("_law_one", 7)]) (g := gName 7) (tt := tYes) rfl sc_l_basis.nd (pi_sq (pv 4)) (blkOk_by (own := [("_law_one", 7)]) (N := ["_law_rows", "_law_prime", "_law_basis_here", "_law_row", "_law_rest_here", "_law_spots", "_law_by", "_law_one", "_law_k"]) (sc := defScope s_l_basis) (by decide +kernel))
              (fun _ _ _ _ _ => pg_name (i := 7) sc_l_basis.nd rfl (Or.inl rfl)) (fun _ _ _ _ _ => pts_nil) (fun _ _ _ _ _ => pe_op op_mod (pe_op op_mul (pv 7) (pv 6)) (pv 1)))
            pa_nil))) pa_nil)))))
          pss_nil)))))
      (pss_one (ps_ret (pv 2))))), ?_⟩
    have p2 := pr.1
    have hp : 0 < p := by omega
    have lsz : ∀ {m : Nat}, m ≤ 500 → m < sizeLine := fun h => small1000 (by omega)
    refine ⟨(by show 0 ≤ sizeLine; exact Nat.zero_le _), fun ba hba => ?_⟩
    have gb : Gr T H (upd H ba (.lst [])) := Gr.new hba
    refine ⟨_, rfl, am, ms, tm, rfl, (gb.ext.sqh hM).sq, for_it walk_sq (fun i σ' H' => ∃ v3 v4 v5 v6 : Option V, σ' = [some (.ref am), some (.int (p : Int)), some (.ref ba), v3, v4, v5, v6, none, none] ∧ Gr T H H' ∧ BasL H' (.ref ba) (M2.basL p (R.take i)))
      ⟨none, none, none, none, rfl, gb, ba, [], rfl, upd_same, .nil⟩ (fun i σ' H' _ ⟨_, _, _, _, _, g, _⟩ => (g.ext.sqh hM).sq) ?_ ?_⟩
    · rintro i x σ' H3' H3 hi ⟨v3, v4, v5, v6, rfl, g, hB⟩ ⟨rfl, hx⟩
      obtain ⟨r, hr1, b, t2, rfl, hrow⟩ := aM.get hx
      have lr := hn r (List.mem_of_getElem? hr1)
      have hrow' := g.ext.sqh hrow
      have hnT : ∀ q ∈ R.take i, q.length = n := fun q hq => hn q (List.mem_of_mem_take hq)
      have few : (R.take i).length ≤ 500 := by rw [List.length_take]; omega
      have bok := bas_good pr p3 hnT few hn5
      have nxt : M2.basL p (R.take (i + 1)) = M2.basStep p (M2.basL p (R.take i)) r := by rw [take_snoc hr1, basL_snoc]
      generalize hBB : M2.basL p (R.take i) = B at *
      -- the row modulo the prime
      refine ⟨_, rfl, _, rfl, b, _, t2, rfl, hrow'.sq, fun D1 hD1 => lc_map (T := T) (r.map fun x => x % (p : Int)) IntV walk_sq (by rw [List.length_map, List.length_map]) (by rw [List.length_map, lr]; exact lsz hn5) hD1 hrow'.sq Ext.sqof (fun _ _ _ _ _ h => h) ?_ ?_⟩
      · rintro j y z H5 H6 Qd Ny hj ⟨rfl, hy⟩ hG g4 hacc2 kd
        obtain ⟨z0, hz0, rfl⟩ := row_at hy
        refine ⟨rfl, ?_⟩
        dsimp only [tYes]
        refine iteT ?_
        refine ⟨_, rfl, _, rfl, _, _, rfl, rfl, (by omega), kd _ _ (.refl T _) ?_⟩
        rw [List.getElem?_map, hz0] at hG
        show V.int _ = V.int _
        rw [← Option.some.inj hG]
      intro H5 ys hD5 hA5 g5
      have rowm : RowL H5 (.ref D1) (r.map fun x => x % (p : Int)) := ⟨D1, rfl, by rw [← all_int hA5]; exact hD5⟩
      have r0 := M2.row_mod hp lr
      refine ⟨_, rfl, .ref ba, .ref D1, B, _, n, p, rfl, hB.ext g5.ext, rowm, bok, r0, fun H6 u g6 hu => ?_⟩
      have rq := M2.restL_rng hp bok.rng r0
      have g36 : Gr T H3 H6 := g5.trans g6
      have gH6 := g.trans g36
      have hB6 := hB.ext g36.ext
      have stp : M2.basStep p B r = match M2.fstNZ (M2.restL p B (r.map fun x => x % (p : Int))) with
        | none => B
        | some c => B ++ [(c, M2.scaledL p c (M2.restL p B (r.map fun x => x % (p : Int))))] := rfl
      generalize hq : M2.restL p B (r.map fun x => x % (p : Int)) = q at *
      have lq := rq.1
      obtain ⟨ua, rfl, eu⟩ := hu
      -- its places that are not 0
      refine ⟨_, rfl, false, ua, _, rfl, eu, _, rfl, (by rw [List.length_map, lq]; omega), (by rw [List.length_map, lq]; omega), ?_⟩
      rw [Int.toNat_natCast, List.length_map]
      refine fun D2 hD2 => lc_filt (T := T) (nzF q) NatV walk_range (by unfold nzF; rw [List.length_map, List.length_range]) (by rw [lq]; exact lsz hn5) hD2 True.intro (fun _ _ _ _ => True.intro) (fun _ _ _ _ _ h => h) ?_ ?_
      · rintro j y o H7 H8 Qc Nx hj hy hF g7 hacc kY kN
        obtain ⟨rfl, rfl⟩ := hy
        dsimp only
        rw [show (0 : Int) + (j : Int) = (j : Int) by omega]
        have eu7 := g7.ext _ _ eu (fun _ z => by cases z)
        refine ⟨rfl, ?_⟩
        refine ⟨_, rfl, _, rfl, false, ua, _, j, _, rfl, rfl, eu7, ev_get hj, rfl, _, rfl, ?_⟩
        unfold nzF at hF
        rw [List.getElem?_map, List.getElem?_range hj] at hF
        have hF : (if M2.ev q j = 0 then none else some j) = o := Option.some.inj hF
        refine ite2 (fun h1 => ?_) (fun h1 => ?_)
        · have h1 : M2.ev q j ≠ 0 := fun z => by
            rw [z] at h1
            simp at h1
          rw [if_neg h1] at hF
          exact ⟨_, rfl, kY j hF.symm _ _ (.refl T _) rfl⟩
        · have h1 : M2.ev q j = 0 := Classical.byContradiction fun z => h1 (by simpa using z)
          rw [if_pos h1] at hF
          exact kN hF.symm _ (.refl T _)
      intro H7 ks hD7 hA7 g7
      have ek := all_nat hA7
      rw [nz_fm] at ek
      rw [ek] at hD7
      have gH7 := gH6.trans g7
      have hB7 := hB6.ext g7.ext
      have eu7 := g7.ext _ _ eu (fun _ z => by cases z)
      refine ⟨_, rfl, (by show 0 ≤ sizeLine; exact Nat.zero_le _), fun q0 hq0 => ?_⟩
      have g8 : Gr T H7 (upd H7 q0 (.lst [])) := Gr.new hq0
      have hD8 := g8.ext _ _ hD7 (fun _ z => by cases z)
      have dk : ∀ (H : Hp) (ks : List Nat), H D2 = some (.lst (ks.map fun k : Nat => V.int (k : Int))) → Dp K H (.ref D2) (.list (dI (ks.map fun k : Nat => (k : Int)))) := fun H ks e => dp_rowL ⟨D2, rfl, by rw [e, List.map_map]; rfl⟩
      refine ⟨_, _, dk _ _ hD8, dp_nil upd_same, sh_list (sh_dI _), sh_list sh_nil, _, rfl, ?_⟩
      cases hz : nzs q with
      | nil =>
        refine ite2 (fun h1 => ?_) (fun _ => ?_)
        · exact absurd (show (!PyData.eqv (.list []) (.list [])) = true from h1) (by rw [eqv_list sh_nil]; decide)
        refine ⟨_, _, _, _, rfl, gH7.trans g8, ?_⟩
        rw [nxt, stp, nzs_none hz]
        exact hB7.ext g8.ext
      | cons c t =>
        have fz := nzs_some hz
        obtain ⟨c1, c2, c3⟩ := M2.nz_some fz
        rw [hz] at hD8
        refine ite2 (fun _ => ?_) (fun h1 => ?_)
        · generalize hH8 : upd H7 q0 (.lst []) = H8 at *
          have eu8 := g8.ext _ _ eu7 (fun _ z => by cases z)
          have gH8 := gH7.trans g8
          have cr := rq.at hp c
          refine ⟨_, rfl, _, rfl, false, D2, _, 0, _, rfl, rfl, hD8, rfl, false, ua, _, c, _, rfl, rfl, eu8, ev_get c1, _, rfl, _, _, rfl, rfl, _, rfl, (M2.ev q c).toNat, p - 2, p, ?_, by omega, p3, by omega, by omega, ?_⟩
          · rw [show (((M2.ev q c).toNat : Nat) : Int) = M2.ev q c by omega, show ((p - 2 : Nat) : Int) = (p : Int) - 2 by omega]
            rfl
          obtain ⟨_, vs, e0, eB8, aB8⟩ := hB7.ext g8.ext
          cases e0
          refine ⟨_, rfl, .inl ⟨rfl, _, SqL.of eB8⟩, _, rfl, false, D2, _, 0, _, rfl, rfl, hD8, rfl, _, rfl, ua, _, false, rfl, sqL eu8, fun D3 hD3 => lc_map (T := T) (M2.scaledL p c q) IntV walk_sq (by unfold M2.scaledL; rw [List.length_map, List.length_map]) (by rw [List.length_map, lq]; exact lsz hn5) hD3 (sqL eu8) Ext.sqof (fun _ _ _ _ _ h => h) ?_ ?_⟩
          · rintro j y z H9 H10 Qd Ny hj ⟨rfl, hy⟩ hG g9 hacc2 kd
            obtain ⟨z0, hz0, rfl⟩ := row_at hy
            have zr := rq.2 z0 (List.mem_of_getElem? hz0)
            have il : (M2.ev q c).toNat ^ (p - 2) % p < p := Nat.mod_lt _ hp
            refine ⟨rfl, ?_⟩
            dsimp only [tYes]
            refine iteT ?_
            refine ⟨_, rfl, _, rfl, _, _, rfl, rfl, .inl ⟨by omega, by omega⟩, _, rfl, _, _, rfl, rfl, (by omega), kd _ _ (.refl T _) ?_⟩
            unfold M2.scaledL at hG
            rw [List.getElem?_map, hz0] at hG
            show V.int _ = V.int _
            rw [← Option.some.inj hG]
            rfl
          intro H9 ys9 hD9 hA9 g9
          have row9 : RowL H9 (.ref D3) (M2.scaledL p c q) := ⟨D3, rfl, by rw [← all_int hA9]; exact hD9⟩
          have eB9 := g9.ext _ _ eB8 (fun _ z => by cases z)
          have nD3 : D3 ≠ ba := fun z => by rw [z, eB8] at hD3; cases hD3
          refine ⟨(by show 2 ≤ sizeLine; exact Nat.le_of_lt (lsz (by decide))), fun qt hqt => ?_⟩
          have nqt : qt ≠ ba := fun z => by rw [z, eB9] at hqt; cases hqt
          have gt : Gr T H9 (upd H9 qt (.tup [.int (c : Int), .ref D3])) := Gr.new hqt
          have eBt := gt.ext _ _ eB9 (fun _ z => by cases z)
          refine ⟨ba, vs, _, rfl, rfl, eBt, ?_, ?_⟩
          · have := aB8.length
            have := bok.few
            exact lsz (by omega)
          refine ⟨_, _, _, _, rfl, ((gH8.trans g9).trans gt).upd hba, ba, _, rfl, upd_same, ?_⟩
          rw [mask_upd, nxt, stp, fz]
          refine All2.snoc (aB8.mono fun _ _ h => h.ext (g9.trans gt).ext.mask) ⟨qt, .ref D3, rfl, ?_, ?_⟩
          · rw [mask_ne nqt]
            exact upd_same
          · obtain ⟨_, e0, e9⟩ := row9
            cases e0
            exact ⟨D3, rfl, by rw [mask_ne nD3]; exact gt.ext _ _ e9 (fun _ z => by cases z)⟩
        · exfalso
          refine h1 ?_
          show (!PyData.eqv (.list (PyData.int c :: dI (t.map fun k : Nat => (k : Int)))) (.list [])) = true
          rw [eqv_nil]
          rfl
    · rintro σ' H3 ⟨v3, v4, v5, v6, rfl, g, hB⟩
      rw [List.take_of_length_le (by rw [aM.length]; exact Nat.le_refl _)] at hB
      exact ⟨_, rfl, k _ _ g hB⟩
end
end Z
set_option Elab.async false
set_option linter.all false
set_option maxRecDepth 100000
set_option maxHeartbeats 4000000
namespace Z
open PySem L2 PyProof.Rows ZX GX
/-! the law's looks -/
theorem lenL {X : Cx} : CallR X (.builtin "len") (fun vs H Q => ∃ (a : Addr) (xs : List V), vs = [.ref a] ∧ SqX X.K H a xs ∧ Q (.int (xs.length : Int)) H) := by
  intro pins s σ H vs us Q I r h
  obtain ⟨a, xs, rfl, hS, q⟩ := h
  refine call_len (X := X) pins s σ H _ us Q I r ⟨_, xs.length, rfl, ?_, q⟩
  rcases hS with hS | hS
  · exact .inl ⟨xs, hS, rfl⟩
  · exact .inr ⟨xs, hS, rfl⟩
section
variable {P : Program} {w : World} {K : PySem.W.Frag} {mg : Str → Option Value} {base : Heap} {T : List Addr}
theorem ok_l_rank {f : Addr} {fd : FuncData} (F : Fun K "_law_rank" "_law_rank" s_l_rank f fd) (bn : mg "len" = none) (WB : Fx P w K mg base "_law_basis" 2 ["_law_rows", "_law_prime"] (spBas T)) : FnOk P w K mg base CX0 3 f fd ["_law_rows", "_law_prime"] (spLRk T) := by
  refine F.ok sc_l_rank (fun vs H Q E h => ?_) (fun cdv A outer s H vs Q E hr h => ?_)
  · obtain ⟨v, R, n, p, rfl, _⟩ := h
    rfl
  · obtain ⟨v, R, n, p, rfl, hM, hn, h5, n5, pr, p3, k⟩ := h
    refine ⟨_, (pss_one (ps_ret (pe_callB lenH (by rfl) bn (by decide +kernel) (pa_cons (pe_fx WB hr (pa_cons (pv 0) (pa_cons (pv 1) pa_nil))) pa_nil)))), ?_⟩
    refine ⟨_, rfl, _, rfl, v, R, n, p, rfl, hM, hn, h5, n5, pr, p3, fun H' u g hB => ?_⟩
    obtain ⟨a, vs, rfl, e, hA⟩ := hB
    refine ⟨false, a, vs, rfl, e, ?_⟩
    rw [hA.length]
    exact k _ g
theorem ok_l_inside {f : Addr} {fd : FuncData} (F : Fun K "_law_inside" "_law_inside" s_l_inside f fd) (bl : mg "list" = none) (WR : Fx P w K mg base "_law_rest" 1 ["_law_basis_here", "_law_row", "_law_prime"] (spRst T)) : FnOk P w K mg base CX0 2 f fd ["_law_basis_here", "_law_row", "_law_prime"] (spIns T) := by
  refine F.ok sc_l_inside (fun vs H Q E h => ?_) (fun cdv A outer s H vs Q E hr h => ?_)
  · obtain ⟨v, u, B, r, n, p, rfl, _⟩ := h
    rfl
  · obtain ⟨v, u, B, r, n, p, rfl, hB, ⟨ta, rfl, eT⟩, bok, rr, z0, k⟩ := h
    refine ⟨_, (pss_one (ps_ret (pe_cmpR (op_eqD hr.units) (pe_lc (own := [("_law_one", 3)]) (g := gName 3) (tt := tTest (tOp rNe (tVar 3) (tC (.int 0)))) rfl sc_l_inside.nd (pi_sq (pe_fx WR hr (pa_cons (pv 0) (pa_cons (pe_callTy call_list_of (by rfl) bl (by decide +kernel) (pa_cons (pv 1) pa_nil)) (pa_cons (pv 2) pa_nil))))) (blkOk_by (own := [("_law_one", 3)]) (N := ["_law_basis_here", "_law_row", "_law_prime", "_law_one"]) (sc := defScope s_l_inside) (by decide +kernel))
        (fun _ _ _ _ _ => pg_name (i := 3) sc_l_inside.nd rfl (Or.inl rfl)) (fun _ _ _ _ _ => pts_one (pt_cmpR op_ne (pv 3) pe_int (nomark _))) (fun _ _ _ _ _ => pv 3)) (pe_lst pa_nil) (nomark _)))), ?_⟩
    refine ⟨_, rfl, _, rfl, ta, _, rfl, .inr eT.sq, fun l hl => ?_⟩
    have g1 : Gr T H (upd H l (.lst (r.map V.int))) := Gr.new hl
    refine ⟨_, rfl, v, .ref l, B, r, n, p, rfl, hB.ext g1.ext, ⟨l, rfl, upd_same⟩, bok, rr, fun H2 u2 g2 hu => ?_⟩
    have p1 := bok.p1
    have lq := (M2.restL_rng (by omega) bok.rng rr).1
    generalize hq : M2.restL p B r = q at *
    obtain ⟨ua, rfl, eu⟩ := hu
    have g02 := g1.trans g2
    refine ⟨ua, _, false, rfl, sqL eu, fun D hD => lc_filt (T := T) (q.map fun _ => (none : Option Nat)) NatV walk_sq (by rw [List.length_map, List.length_map]) (by rw [List.length_map, lq]; exact small1000 (by have := bok.sml; omega)) hD (sqL eu) Ext.sqof (fun _ _ _ _ _ h => h) ?_ ?_⟩
    · rintro j y o H7 H8 Qc Nx hj ⟨rfl, hy⟩ hF g7 hacc kY kN
      obtain ⟨z, hz, rfl⟩ := row_at hy
      have hz0 := z0 z (List.mem_of_getElem? hz)
      subst hz0
      rw [List.getElem?_map, hz] at hF
      refine ⟨rfl, ?_⟩
      refine ⟨_, rfl, rfl, _, rfl, ?_⟩
      exact iteF (kN (Option.some.inj hF).symm _ (.refl T _))
    intro H7 ys hD7 hA7 g7
    have e0 : (q.map fun _ => (none : Option Nat)).filterMap id = [] := by
      rw [List.filterMap_map]
      exact List.filterMap_eq_nil_iff.mpr fun _ _ => rfl
    rw [e0] at hA7
    cases hA7
    refine ⟨(by show 0 ≤ sizeLine; exact Nat.zero_le _), fun q0 hq0 => ?_⟩
    have g8 : Gr T H7 (upd H7 q0 (.lst [])) := Gr.new hq0
    have hD8 := g8.ext _ _ hD7 (fun _ z => by cases z)
    refine ⟨_, _, dp_nil hD8, dp_nil upd_same, sh_list sh_nil, sh_list sh_nil, ?_⟩
    rw [eqv_list sh_nil]
    exact k _ ((g02.trans g7).trans g8)
theorem ok_l_are {f : Addr} {fd : FuncData} (F : Fun K "_law_are_rows" "_law_are_rows" s_l_are f fd) (bI : mg "isinstance" = none) (bt : mg "tuple" = none) (bn : mg "len" = none) (W1 : Fx P w K mg base "_law_is_whole" 1 ["_law_value"] (spWhole K)) :
    FnOk P w K mg base CX0 2 f fd ["_law_value", "_law_wide", "_law_prime"] (spAre T) := by
  refine F.ok sc_l_are (fun vs H Q E h => ?_) (fun cdv A outer s H vs Q E hr h => ?_)
  · obtain ⟨v, R, n, p, rfl, _⟩ := h
    rfl
  · obtain ⟨v, R, n, p, rfl, ⟨a, vs, rfl, eM, aM⟩, hR, n5, k⟩ := h
    refine ⟨_, (pss_cons (ps_if (pt_not (pt_val (pe_callB call_isi (by rfl) bI (by decide +kernel) (pa_cons (pv 0) (pa_cons (pe_bltn (v := .ty "tuple") (by rfl) bt PySem.Pv.boot_tuple rfl) pa_nil))))) (pss_one (ps_ret pe_bl)) pss_nil)
      (pss_cons (ps_for PassesOwn.never rfl (pi_sq (pv 0)) (pg_name (i := 3) sc_l_are.nd rfl (Or.inl rfl))
        (pss_cons (ps_if (PW.pt (pw_or (pt_not (pt_val (pe_callB call_isi (by rfl) bI (by decide +kernel) (pa_cons (pv 3) (pa_cons (pe_bltn (v := .ty "tuple") (by rfl) bt PySem.Pv.boot_tuple rfl) pa_nil))))) (pw_or1 (pt_cmpR op_ne (pe_callB lenT (by rfl) bn (by decide +kernel) (pa_cons (pv 3) pa_nil)) (pv 1) (nomark _))))) (pss_one (ps_ret pe_bl)) pss_nil)
        (pss_one (ps_if (pt_cmpR (op_neD hr.units) (pe_lc (own := [("_law_one", 4)]) (g := gName 4) (tt := _) rfl sc_l_are.nd (pi_sq (pv 3)) (blkOk_by (own := [("_law_one", 4)]) (N := ["_law_value", "_law_wide", "_law_prime", "_law_row", "_law_one"]) (sc := defScope s_l_are) (by decide +kernel))
            (fun _ _ _ _ _ => pg_name (i := 4) sc_l_are.nd rfl (Or.inl rfl)) (fun _ _ _ _ _ => pts_one (PW.pt (pw_or (pt_not (pt_val (pe_fx W1 hr (pa_cons (pv 4) pa_nil)))) (pw_or (pt_cmpR op_lt (pv 4) pe_int (nomark _)) (pw_or1 (pt_cmpR op_ge (pv 4) (pv 2) (nomark _))))))) (fun _ _ _ _ _ => pv 4)) (pe_lst pa_nil) (nomark _))
          (pss_one (ps_ret pe_bl)) pss_nil))))
      (pss_one (ps_ret pe_bl)))), ?_⟩
    refine ⟨_, rfl, .ref a, .ty "tuple", _, _, true, rfl, .ty _, .base (.tup eM), kit_ty (by decide +kernel), true, rfl, iteF ?_⟩
    refine ⟨_, rfl, a, vs, true, rfl, sqT eM, for_it walk_sq (fun i σ' H2 => Gr T H H2 ∧ ∃ v3 : Option V, σ' = [some (.ref a), some (.int (n : Int)), some (.int (p : Int)), v3, none]) ⟨.refl T H, none, rfl⟩ (fun i σ' H2 _ ⟨g, _⟩ => g.ext.sq (sqT eM)) ?_ (fun σ' H2 ⟨g, v3, e⟩ => k _ g)⟩
    rintro i x σ' H3' H3 hi ⟨g, v3, rfl⟩ ⟨rfl, hx⟩
    obtain ⟨r, hr1, ra, rfl, er0⟩ := aM.get hx
    have rng := hR r (List.mem_of_getElem? hr1)
    have er := er0.ext g.ext
    obtain ⟨ob, e1, e2⟩ := er
    have er : TupF H3 ra (r.map V.int) := ⟨ob, e1, e2⟩
    refine ⟨_, rfl, .ref ra, .ty "tuple", _, _, true, rfl, .ty _, .fTuple e1, kit_ty (by decide +kernel), true, rfl, iteF ?_⟩
    refine ⟨_, rfl, ra, _, rfl, er, _, rfl, rfl, _, rfl, ?_⟩
    rw [List.length_map, rng.1, decide_eq_true rfl]
    refine iteF ?_
    refine ⟨_, rfl, ra, _, true, rfl, er.sq, fun D hD => lc_filt (T := T) (r.map fun _ => (none : Option Nat)) NatV walk_sq (by rw [List.length_map, List.length_map]) (by rw [List.length_map, rng.1]; exact small1000 (by omega)) hD (show SqOf true K _ _ _ from er.sq) Ext.sqof (fun _ _ _ _ _ h => h) ?_ ?_⟩
    · rintro j y o H7 H8 Qc Nx hj ⟨rfl, hy⟩ hF g7 hacc kY kN
      obtain ⟨z, hz, rfl⟩ := row_at hy
      have hz0 := rng.2 z (List.mem_of_getElem? hz)
      rw [List.getElem?_map, hz] at hF
      refine ⟨rfl, ?_⟩
      refine ⟨_, rfl, .int z, "int", true, false, rfl, .base (.int _), by decide +kernel, by decide +kernel, true, rfl, iteF ?_⟩
      refine ⟨_, rfl, _, _, rfl, rfl, _, rfl, ?_⟩
      refine ite2 (fun h1 => ?_) (fun _ => ?_)
      · have h1 : z < 0 := of_decide_eq_true h1
        omega
      refine ⟨_, rfl, _, rfl, _, _, rfl, rfl, _, rfl, ?_⟩
      refine ite2 (fun h1 => ?_) (fun _ => ?_)
      · have h1 : (p : Int) ≤ z := of_decide_eq_true h1
        omega
      exact kN (Option.some.inj hF).symm _ (.refl T _)
    intro H7 ys hD7 hA7 g7
    have e0 : (r.map fun _ => (none : Option Nat)).filterMap id = [] := by
      rw [List.filterMap_map]
      exact List.filterMap_eq_nil_iff.mpr fun _ _ => rfl
    rw [e0] at hA7
    cases hA7
    refine ⟨(by show 0 ≤ sizeLine; exact Nat.zero_le _), fun q0 hq0 => ?_⟩
    have g8 : Gr T H7 (upd H7 q0 (.lst [])) := Gr.new hq0
    have hD8 := g8.ext _ _ hD7 (fun _ z => by cases z)
    refine ⟨_, _, dp_nil hD8, dp_nil upd_same, sh_list sh_nil, sh_list sh_nil, _, rfl, ?_⟩
    rw [eqv_list sh_nil]
    exact iteF ⟨(g.trans g7).trans g8, _, rfl⟩
end
end Z
set_option Elab.async false
set_option linter.all false
set_option maxRecDepth 100000
set_option maxHeartbeats 4000000
namespace Z
open PySem L2 PyProof.Rows ZX GX
/-! drawn rows -/
abbrev s_l_ints : Stmt := topS 36
theorem sc_l_ints : FnScope ["_law_pen_here", "_law_many", "_law_wide", "_law_prime", "_law_rows", "_law_k", "_law_row", "_law_by", "_law_one", "_law_other", "_law_shift", "_law_j", "_law_a", "_law_b"] ["_law_pen_here", "_law_many", "_law_wide", "_law_prime"] (defScope s_l_ints) := ⟨rfl, rfl, rfl, by decide +kernel, rfl, by decide +kernel, by decide +kernel⟩
theorem PT.nel {T : List Addr} {H : Hp} {p l : Addr} {n : Nat} (h : PT T H p l n) {q : Addr} (e : H q = none) : q ≠ l := fun z => by
  obtain ⟨c, hc, hp⟩ := h.pen
  obtain ⟨ns, a, d, f, e1, e2, e3⟩ := hp.ex
  rw [z, e2] at e
  cases e
theorem PT.upd {T : List Addr} {H : Hp} {p l q : Addr} {n : Nat} {ys : List V} {o : HO} (h : PT T H p l n) (e : H q = some (.lst ys)) (nl : q ≠ l) : PT T (upd H q o) p l n := by
  obtain ⟨c, hc, hp⟩ := h.pen
  obtain ⟨ns, a, d, f, e1, e2, e3⟩ := hp.ex
  have np : p ≠ q := fun z => by
    rw [← z, e1] at e
    cases e
  refine ⟨⟨c, hc, ⟨ns, a, d, f, by rw [upd_ne np]; exact e1, by rw [upd_ne nl.symm]; exact e2, e3⟩⟩, fun P hP => ?_⟩
  obtain ⟨ps, q2, t⟩ := h.tab P hP
  refine ⟨ps, ?_, t⟩
  rw [upd_ne]
  · exact q2
  · intro z
    rw [z, e] at q2
    cases q2
theorem mask_upd_ne {p q : Addr} {H : Hp} {o : HO} (h : q ≠ p) : mask p (upd H q o) = upd (mask p H) q o := by
  funext b
  by_cases z : b = q
  · rw [z, mask_ne h, upd_same, upd_same]
  · rw [upd_ne z]
    unfold mask
    split
    · rfl
    · exact upd_ne z
theorem Gr.of_eq {T : List Addr} {H H' : Hp} (h : H' = H) : Gr T H H' := by
  rw [h]
  exact .refl T H
def spInt (T : List Addr) : Sp := fun vs H Q _ => ∃ (p l : Addr) (n0 many wide : Nat) (pr : Int), vs = [.ref p, .int (many : Int), .int (wide : Int), .int pr] ∧ PT T H p l n0 ∧ n0 + 17 * many < 2 ^ 39 ∧ many ≤ 6 ∧ wide ≤ 6 ∧ 0 < pr ∧ pr < 1073741824 ∧
  ∀ (u : V) (R : List (List Int)) (H' : Hp), R.length = many → (∀ r ∈ R, r.length = wide) → MatL (mask p H') u R → PT T H' p l (n0 + 17 * many) → Gr T (mask p H) (mask p H') → Q u H'
theorem All2.of_mem {α β : Type} {P : α → β → Prop} {as : List α} {bs : List β} (h : All2 P as bs) {a : α} (m : a ∈ as) : ∃ b, b ∈ bs ∧ P a b := by
  obtain ⟨i, hi, e⟩ := List.mem_iff_getElem.mp m
  obtain ⟨b, hb, p⟩ := h.get (List.getElem?_eq_getElem hi)
  rw [e] at p
  exact ⟨b, List.mem_of_getElem? hb, p⟩
theorem RowL.un {p : Addr} {H : Hp} {v : V} {r : List Int} (h : RowL (Z.mask p H) v r) : RowL H v r := h.ext (mask_ext p H)
theorem RowL.at {p a : Addr} {H : Hp} {r : List Int} (e : H a = some (.lst (r.map V.int))) (n : a ≠ p) : RowL (Z.mask p H) (.ref a) r := ⟨a, rfl, by rw [mask_ne n]; exact e⟩
section
variable {P : Program} {w : World} {K : PySem.W.Frag} {mg : Str → Option Value} {base : Heap} {T : List Addr}
theorem ok_l_ints {f : Addr} {fd : FuncData} (F : Fun K "_law_integers" "_law_integers" s_l_ints f fd) (br : mg "range" = none) (bz : mg "zip" = none) (WD : Fx P w K mg base "_law_draw" 1 ["_law_pen_here", "_law_many"] (spDr T)) (WK : Fx P w K mg base "_law_pick" 2 ["_law_pen_here", "_law_some"] (spPk T K)) :
    FnOk P w K mg base CX0 3 f fd ["_law_pen_here", "_law_many", "_law_wide", "_law_prime"] (spInt T) := by
  refine F.ok sc_l_ints (fun vs H Q E h => ?_) (fun cdv A outer s H vs Q E hr h => ?_)
  · obtain ⟨p, l, n0, many, wide, pr, rfl, _⟩ := h
    rfl
  · obtain ⟨p, l, n0, many, wide, pr, rfl, hP, hn0, m6, w6, pr0, pr1, k⟩ := h
    refine ⟨_, (pss_cons (ps_set (i := 4) sc_l_ints.nd rfl (Or.inl rfl) (pe_lst pa_nil))
      (pss_cons (ps_for PassesOwn.never rfl (pi_range1 (by rfl) br (pa_cons (pv 1) pa_nil)) (pg_name (i := 5) sc_l_ints.nd rfl (Or.inl rfl))
        (pss_cons (ps_setLc (i := 6) (own := [("_law_j", 11)]) (g := gName 11) (tt := tYes) rfl sc_l_ints.nd rfl rfl (sw_true rfl rfl rfl (by decide +kernel)) (pi_range1 (by rfl) br (pa_cons (pv 2) pa_nil)) (blkOk_by (own := [("_law_j", 11)]) (N := ["_law_pen_here", "_law_many", "_law_wide", "_law_prime", "_law_rows", "_law_k", "_law_row", "_law_by", "_law_one", "_law_other", "_law_shift", "_law_j", "_law_a", "_law_b"]) (sc := defScope s_l_ints) (by decide +kernel))
            (fun _ _ _ _ _ => pg_name (i := 11) sc_l_ints.nd rfl (Or.inl rfl)) (fun _ _ _ _ _ => pts_nil) (fun _ _ _ _ _ => pe_fx WD (hr.mono (by decide)) (pa_cons (pv 0) (pa_cons (pe_fx WK hr (pa_cons (pv 0) (pa_cons (pe_lst (pa_cons pe_int (pa_cons pe_int (pa_cons (pv 3) pa_nil)))) pa_nil))) pa_nil))))
        (C8.pss_cut (ps_if (PW.pt (pw_and (pt_cmpR (op_neD hr.units) (pv 4) (pe_lst pa_nil) (nomark _)) (pw_and1 (pt_cmpR op_eq (pe_fx WD (hr.mono (by decide)) (pa_cons (pv 0) (pa_cons pe_int pa_nil))) pe_int (nomark _)))))
            (pss_cons (ps_asg (pe_tup (pa_cons (pe_op op_sub (pe_fx WD (hr.mono (by decide)) (pa_cons (pv 0) (pa_cons pe_int pa_nil))) pe_int) (pa_cons (pe_fx WK hr (pa_cons (pv 0) (pa_cons (pv 4) pa_nil))) (pa_cons (pe_fx WK hr (pa_cons (pv 0) (pa_cons (pv 4) pa_nil))) pa_nil))))
                (pg_tup rfl (pgs_cons (pg_name (i := 7) sc_l_ints.nd rfl (Or.inr rfl)) (pgs_cons (pg_name (i := 8) sc_l_ints.nd rfl (Or.inl rfl)) (pgs_cons (pg_name (i := 9) sc_l_ints.nd rfl (Or.inl rfl)) pgs_nil)))))
              (pss_one (ps_setLc (i := 6) (own := [("_law_a", 12), ("_law_b", 13)]) (g := gTup K 2 (gCons (gName 12) (gCons (gName 13) gNil))) (tt := tYes) rfl sc_l_ints.nd rfl rfl (sw_true rfl rfl rfl (by decide +kernel)) (pi_zx (by rfl) bz (pa_cons (pv 8) (pa_cons (pv 9) pa_nil))) (blkOk_by (own := [("_law_a", 12), ("_law_b", 13)]) (N := ["_law_pen_here", "_law_many", "_law_wide", "_law_prime", "_law_rows", "_law_k", "_law_row", "_law_by", "_law_one", "_law_other", "_law_shift", "_law_j", "_law_a", "_law_b"]) (sc := defScope s_l_ints) (by decide +kernel))
                (fun _ _ _ _ _ => pg_tup rfl (pgs_cons (pg_name (i := 12) sc_l_ints.nd rfl (Or.inl rfl)) (pgs_cons (pg_name (i := 13) sc_l_ints.nd rfl (Or.inl rfl)) pgs_nil))) (fun _ _ _ _ _ => pts_nil) (fun _ _ _ _ _ => pe_op op_add (pv 12) (pe_op op_mul (pv 7) (pv 13))))))
            pss_nil)
          (pss_cons (ps_set (i := 10) sc_l_ints.nd rfl (Or.inr rfl) (pe_op op_mul (pv 3) (pe_op op_sub (pe_fx WD (hr.mono (by decide)) (pa_cons (pv 0) (pa_cons pe_int pa_nil))) pe_int)))
          (pss_one (ps_expr (pe_bm PySem.F.plainAttrs_list PySem.F.slot_list_append PySem.F.type_list_append mt_append (pv 4) (pa_cons
            (pe_lc (own := [("_law_one", 8)]) (g := gName 8) (tt := tYes) rfl sc_l_ints.nd (pi_sq (pv 6)) (blkOk_by (own := [("_law_one", 8)]) (N := ["_law_pen_here", "_law_many", "_law_wide", "_law_prime", "_law_rows", "_law_k", "_law_row", "_law_by", "_law_one", "_law_other", "_law_shift", "_law_j", "_law_a", "_law_b"]) (sc := defScope s_l_ints) (by decide +kernel))
              (fun _ _ _ _ _ => pg_name (i := 8) sc_l_ints.nd rfl (Or.inl rfl)) (fun _ _ _ _ _ => pts_nil) (fun _ _ _ _ _ => pe_op op_add (pv 8) (pv 10))) pa_nil)))))))
        )
      (pss_one (ps_ret (pv 4))))), ?_⟩
    have lsz : ∀ {m : Nat}, m ≤ 500 → m < sizeLine := fun h => small1000 (by omega)
    refine ⟨(by show 0 ≤ sizeLine; exact Nat.zero_le _), fun ra hra => ?_⟩
    have nra : ra ≠ p := hP.fresh hra
    have nla : ra ≠ l := hP.nel hra
    have mra : mask p H ra = none := by rw [mask_ne nra]; exact hra
    have gb : Gr T H (upd H ra (.lst [])) := Gr.new hra
    refine ⟨_, rfl, _, rfl, by omega, by omega, ?_⟩
    rw [Int.toNat_natCast]
    refine for_range (lo := 0) (n := many) (fun i σ' H' => ∃ (vs : List V) (R : List (List Int)) (v5 v6 v7 v8 v9 v10 : Option V), σ' = [some (.ref p), some (.int (many : Int)), some (.int (wide : Int)), some (.int pr), some (.ref ra), v5, v6, v7, v8, v9, v10, none, none, none] ∧ R.length = i ∧ (∀ r ∈ R, r.length = wide) ∧ H' ra = some (.lst vs) ∧ All2 (RowL (mask ra (mask p H'))) vs R ∧ PT T H' p l (n0 + 17 * i) ∧ Gr T (mask p H) (mask p H'))
      ⟨[], [], none, none, none, none, none, none, rfl, rfl, (fun r hr => by cases hr), upd_same, .nil, hP.gr gb, gb.mask⟩ ?_ ?_
    · rintro i σ' H' hi ⟨vs, R, v5, v6, v7, v8, v9, v10, rfl, lR, wR, eR, aR, hPi, gi⟩
      have xs : ∀ {H1 H2 : Hp}, Gr T (mask p H1) (mask p H2) → All2 (RowL (mask ra (mask p H1))) vs R → All2 (RowL (mask ra (mask p H2))) vs R := fun g a => a.mono fun _ _ h => h.ext g.ext.mask
      have er : ∀ {H1 H2 : Hp}, Gr T (mask p H1) (mask p H2) → H1 ra = some (.lst vs) → H2 ra = some (.lst vs) := fun g e => by
        have := g.ext ra (.lst vs) (by rw [mask_ne nra]; exact e) (fun _ z => by cases z)
        rwa [mask_ne nra] at this
      have lvs : vs.length = i := by rw [aR.length, lR]
      -- a row is drawn
      refine ⟨_, rfl, _, rfl, by omega, by omega, ?_⟩
      rw [Int.toNat_natCast]
      refine fun D1 hD1 => lc_ints (T := T) (p := p) (l := l) (n0 + 17 * i) 2 (fun _ => True) walk_range (lsz (by omega)) hD1 (fun _ => True.intro) hPi ?_ ?_
      · rintro j y H7 H8 Qc Nx hj hy hP7 kY
        obtain ⟨rfl, rfl⟩ := hy
        refine ⟨rfl, ?_⟩
        dsimp only [tYes]
        refine iteT ?_
        refine ⟨_, rfl, _, rfl, _, rfl, (by show 3 ≤ sizeLine; exact Nat.le_of_lt (lsz (by decide))), fun q hq => ?_⟩
        have gq : Gr T H8 (upd H8 q (.lst [.int 2, .int 3, .int pr])) := Gr.new hq
        refine ⟨p, l, q, _, [.int 2, .int 3, .int pr], rfl, hP7.gr gq, by omega, .inl (SqL.of upd_same), (by show 0 < 3; decide), (by show 3 < 1000; decide), fun v H9 hv hP9 e9 => ?_⟩
        have fin : ∀ m : Int, 0 < m → m < 1073741824 → spDr T [.ref p, .int m] H9 (fun x H => Qc x H) E0 := fun m m0 m1 => by
          refine ⟨p, l, _, m, rfl, hP9, by omega, m0, m1, fun d H10 _ _ hP10 e10 => kY d H10 True.intro (hP10.mono (by omega)) ?_⟩
          rw [e10, e9]
          exact gq.mask
        rcases List.mem_cons.mp hv with rfl | hv
        · exact fin 2 (by decide) (by decide)
        rcases List.mem_cons.mp hv with rfl | hv
        · exact fin 3 (by decide) (by decide)
        rw [List.mem_singleton.mp hv]
        exact fin pr pr0 pr1
      intro H1 zs eD1 lz _ hP1 g1
      have n1 : D1 ≠ p := hPi.fresh hD1
      have n1a : D1 ≠ ra := fun z => by rw [z, eR] at hD1; cases hD1
      have gi1 := gi.trans g1
      refine ⟨fun σ' H2 => ∃ (u : V) (r : List Int) (v5 v7 v8 v9 v10 : Option V), σ' = [some (.ref p), some (.int (many : Int)), some (.int (wide : Int)), some (.int pr), some (.ref ra), v5, some u, v7, v8, v9, v10, none, none, none] ∧ RowL (mask p H2) u r ∧ r.length = wide ∧ H2 ra = some (.lst vs) ∧ All2 (RowL (mask ra (mask p H2))) vs R ∧ PT T H2 p l (n0 + 17 * i + 16) ∧ Gr T (mask p H) (mask p H2), ?_, ?_⟩
      · have row1 : RowL (mask p H1) (.ref D1) zs := RowL.at eD1 n1
        refine ⟨_, rfl, (by show 0 ≤ sizeLine; exact Nat.zero_le _), fun q0 hq0 => ?_⟩
        have g2 : Gr T H1 (upd H1 q0 (.lst [])) := Gr.new hq0
        generalize hH2 : upd H1 q0 (.lst []) = H2 at *
        have e0 : H2 q0 = some (.lst []) := by rw [← hH2]; exact upd_same
        have gi2 := gi1.trans g2.mask
        have a2 := xs (g1.trans g2.mask) aR
        have e2 := er (g1.trans g2.mask) eR
        have hP2 := hP1.gr g2
        refine ⟨_, _, dp_matL (R := R) ⟨ra, vs, rfl, e2, a2.mono fun _ _ h => (h.ext (mask_ext _ _)).un⟩, dp_nil e0, sh_list (sh_lists R), sh_list sh_nil, _, rfl, ?_⟩
        have mid0 : ∀ (v5 v7 v8 v9 v10 : Option V) (H3 : Hp) (m : Nat), m ≤ n0 + 17 * i + 16 → PT T H3 p l m → Gr T (mask p H2) (mask p H3) → ∃ (u : V) (r : List Int) (v5' v7' v8' v9' v10' : Option V), [some (.ref p), some (.int (many : Int)), some (.int (wide : Int)), some (.int pr), some (.ref ra), v5, some (.ref D1), v7, v8, v9, v10, none, none, none] = [some (.ref p), some (.int (many : Int)), some (.int (wide : Int)), some (.int pr), some (.ref ra), v5', some u, v7', v8', v9', v10', none, none, none] ∧ RowL (mask p H3) u r ∧ r.length = wide ∧ H3 ra = some (.lst vs) ∧ All2 (RowL (mask ra (mask p H3))) vs R ∧ PT T H3 p l (n0 + 17 * i + 16) ∧ Gr T (mask p H) (mask p H3) :=
          fun v5 v7 v8 v9 v10 H3 m hm hP3 g3 => ⟨_, zs, _, _, _, _, _, rfl, row1.ext (g2.mask.trans g3).ext, lz, er g3 e2, xs g3 a2, hP3.mono hm, gi2.trans g3⟩
        refine ite2 (fun hne => ?_) (fun _ => ?_)
        · have Rne : R ≠ [] := fun z => by
            rw [z] at hne
            exact absurd (show (!PyData.eqv (.list []) (.list [])) = true from hne) (by rw [eqv_list sh_nil]; decide)
          have vpos : 0 < vs.length := by
            rw [aR.length]
            exact List.length_pos_iff.mpr Rne
          refine ⟨_, rfl, p, l, _, 3, rfl, hP2, by omega, by decide, by decide, fun d H3 _ _ hP3 m3 => ?_⟩
          refine ⟨rfl, _, rfl, ?_⟩
          refine ite2 (fun _ => ?_) (fun _ => ?_)
          · refine ⟨_, rfl, p, l, _, 5, rfl, hP3, by omega, by decide, by decide, fun d5 H4 d50 d51 hP4 m4 => ?_⟩
            refine ⟨_, _, rfl, rfl, _, rfl, _, rfl, p, l, ra, _, vs, rfl, hP4, by omega, .inl (SqL.of (er (Gr.of_eq (m4.trans m3)) e2)), vpos, by omega, fun y1 H5 hy1 hP5 m5 => ?_⟩
            refine ⟨_, rfl, _, rfl, p, l, ra, _, vs, rfl, hP5, by omega, .inl (SqL.of (er (Gr.of_eq (m5.trans (m4.trans m3))) e2)), vpos, by omega, fun y2 H6 hy2 hP6 m6 => ?_⟩
            have m26 : mask p H6 = mask p H2 := m6.trans (m5.trans (m4.trans m3))
            refine ⟨(by show 3 ≤ sizeLine; exact Nat.le_of_lt (lsz (by decide))), fun qt hqt => ?_⟩
            have g7 : Gr T H6 (upd H6 qt (.tup [.int (d5 - 2), y1, y2])) := Gr.new hqt
            refine ⟨qt, _, rfl, SqT.of upd_same, rfl, _, _, rfl, _, _, rfl, _, _, rfl, rfl, ?_⟩
            generalize hH7 : upd H6 qt (.tup [.int (d5 - 2), y1, y2]) = H7 at *
            have g27 : Gr T (mask p H2) (mask p H7) := (Gr.of_eq m26).trans g7.mask
            have hP7 := hP6.gr g7
            obtain ⟨r1, hr1, q1⟩ := a2.of_mem hy1
            obtain ⟨r2, hr2, q2⟩ := a2.of_mem hy2
            obtain ⟨b1, rfl, f1⟩ := ((q1.ext (mask_ext _ _)).ext g27.ext).un
            obtain ⟨b2, rfl, f2⟩ := ((q2.ext (mask_ext _ _)).ext g27.ext).un
            have l12 : r1.length = r2.length := by rw [wR r1 hr1, wR r2 hr2]
            refine ⟨_, rfl, _, rfl, b1, b2, _, _, false, false, rfl, sqL f1, sqL f2, fun D2 hD2 => lc_map (T := T) (List.zipWith (fun x y => x + (d5 - 2) * y) r1 r2) IntV (walk_zx (by rw [List.length_map, List.length_map, l12])) (by rw [List.length_map, List.length_zipWith]; omega) (by rw [List.length_map, wR r1 hr1]; exact lsz (by omega)) hD2 ⟨sqL f1, sqL f2⟩
              (fun H H' x h => ⟨x.sq h.1, x.sq h.2⟩) (fun _ _ _ _ _ h => h) ?_ ?_⟩
            · rintro j x y H8 H9 Qc Nx hj ⟨Tp, x1, x2, rfl, hT, rfl, e1, e2⟩ hF g8 hacc kc
              obtain ⟨z1, hz1, rfl⟩ := row_at e1
              obtain ⟨z2, hz2, rfl⟩ := row_at e2
              refine ⟨Tp, _, rfl, SqT.of upd_same, rfl, _, _, rfl, _, _, rfl, rfl, ?_⟩
              refine ⟨rfl, ?_⟩
              dsimp only [tYes]
              refine iteT ?_
              refine ⟨_, rfl, _, rfl, _, rfl, _, _, rfl, rfl, .inl ⟨by omega, by omega⟩, _, _, rfl, rfl, kc _ _ (Gr.new hT) ?_⟩
              rw [List.getElem?_zipWith, hz1, hz2] at hF
              have := Option.some.inj hF
              show V.int _ = V.int _
              rw [← this]
            intro H8 ys hD8 hA8 g8
            have n2 : D2 ≠ p := hP7.fresh hD2
            have e8 : H8 D2 = some (.lst ((List.zipWith (fun x y => x + (d5 - 2) * y) r1 r2).map V.int)) := by rw [← all_int hA8]; exact hD8
            have g28 := g27.trans g8.mask
            exact ⟨_, _, _, _, _, _, _, rfl, RowL.at e8 n2, by rw [List.length_zipWith, wR r1 hr1, wR r2 hr2]; omega, er g28 e2, xs g28 a2, (hP7.gr g8).mono (by omega), gi2.trans g28⟩
          · exact mid0 _ _ _ _ _ H3 _ (by omega) hP3 (Gr.of_eq m3)
        · exact iteF (mid0 _ _ _ _ _ H2 _ (by omega) hP2 (.refl T _))
      · rintro σ' H2 ⟨u, r, v5, v7, v8, v9, v10, rfl, hu, lr, eR2, aR2, hP2, g2⟩
        refine ⟨_, rfl, _, rfl, p, l, _, 5, rfl, hP2, by omega, by decide, by decide, fun d H3 d0 d1 hP3 m3 => ?_⟩
        refine ⟨_, _, rfl, rfl, _, _, rfl, rfl, .inl ⟨by omega, by omega⟩, ?_⟩
        have g3 : Gr T (mask p H2) (mask p H3) := Gr.of_eq m3
        have eR3 := er g3 eR2
        obtain ⟨ua, rfl, eu⟩ := (hu.ext g3.ext).un
        refine ⟨_, rfl, .inl ⟨rfl, _, SqL.of eR3⟩, _, rfl, ua, _, false, rfl, sqL eu, fun D3 hD3 => lc_map (T := T) (r.map fun x => x + pr * (d - 2)) IntV walk_sq (by rw [List.length_map, List.length_map]) (by rw [List.length_map, lr]; exact lsz (by omega)) hD3 (sqL eu) Ext.sqof (fun _ _ _ _ _ h => h) ?_ ?_⟩
        · rintro j y z H8 H9 Qd Ny hj ⟨rfl, hy⟩ hG g9 hacc2 kd
          obtain ⟨z0, hz0, rfl⟩ := row_at hy
          refine ⟨rfl, ?_⟩
          dsimp only [tYes]
          refine iteT ?_
          refine ⟨_, rfl, _, rfl, _, _, rfl, rfl, kd _ _ (.refl T _) ?_⟩
          rw [List.getElem?_map, hz0] at hG
          show V.int _ = V.int _
          rw [← Option.some.inj hG]
        intro H8 ys hD8 hA8 g8
        have n3 : D3 ≠ p := hP3.fresh hD3
        have n3a : D3 ≠ ra := fun z => by rw [z, eR3] at hD3; cases hD3
        have e8 : H8 D3 = some (.lst ((r.map fun x => x + pr * (d - 2)).map V.int)) := by rw [← all_int hA8]; exact hD8
        have g38 := g3.trans g8.mask
        have eR8 := er g38 eR2
        have aR8 := xs g38 aR2
        refine ⟨ra, vs, _, rfl, rfl, eR8, lsz (by omega), ?_⟩
        refine ⟨vs ++ [.ref D3], R ++ [r.map fun x => x + pr * (d - 2)], _, _, _, _, _, _, rfl, by rw [List.length_append, lR]; rfl, fun q hq => ?_, upd_same, ?_, ((hP3.gr g8).upd eR8 nla).mono (by omega), ?_⟩
        · rcases List.mem_append.mp hq with hq | hq
          · exact wR q hq
          · rw [List.mem_singleton.mp hq, List.length_map]
            exact lr
        · rw [mask_upd_ne nra, mask_upd]
          exact aR8.snoc ⟨D3, rfl, by rw [mask_ne n3a, mask_ne n3]; exact e8⟩
        · rw [mask_upd_ne nra]
          exact (g2.trans g38).upd mra
    · rintro σ' H' ⟨vs, R, v5, v6, v7, v8, v9, v10, rfl, lR, wR, eR, aR, hPi, gi⟩
      exact ⟨_, rfl, k _ R H' lR wR ⟨ra, vs, rfl, by rw [mask_ne nra]; exact eR, aR.mono fun _ _ h => h.ext (mask_ext _ _)⟩ hPi gi⟩
end
end Z
set_option Elab.async false
set_option linter.all false
set_option maxRecDepth 100000
set_option maxHeartbeats 4000000
namespace Z
open PySem L2 PyProof.Rows ZX GX
/-! the law's look at an echelon -/
abbrev s_l_ech : Stmt := topS 37
theorem sc_l_ech : FnScope ["_law_told", "_law_rows", "_law_wide", "_law_prime", "_law_pivots", "_law_row", "_law_places", "_law_place", "_law_basis_here", "_law_k"] ["_law_told", "_law_rows", "_law_wide", "_law_prime"] (defScope s_l_ech) := ⟨rfl, rfl, rfl, by decide +kernel, rfl, by decide +kernel, by decide +kernel⟩
def spER (T : List Addr) : Sp := fun vs H Q _ => ∃ (v u : V) (R : List (List Int)) (n p : Nat), vs = [v, u, .int (n : Int), .int (p : Int)] ∧ MatT H v ((M2.stAt p R n).2.map (·.2)) ∧ MatL H u R ∧ (∀ r ∈ R, r.length = n) ∧ R.length ≤ 500 ∧ n ≤ 500 ∧ M2.Pr p ∧ p < 2 ^ 31 ∧ ∀ H', Gr T H H' → Q (.bl true) H'
/-- one place alone -/
def oneF {α : Type} (n i : Nat) (v : α) : List (Option α) := (List.range n).map fun j => if j = i then some v else none
theorem one_fm {α : Type} {n i : Nat} {v : α} (h : i < n) : (oneF n i v).filterMap id = [v] := by
  unfold oneF
  induction n with
  | zero => exact absurd h (Nat.not_lt_zero _)
  | succ n ih =>
    rw [List.range_succ, List.map_append, List.filterMap_append]
    rcases Nat.lt_or_ge i n with z | z
    · rw [ih z, List.map_singleton, if_neg (by omega)]
      rfl
    · have : i = n := by omega
      subst this
      rw [List.map_singleton, if_pos rfl]
      have e : ((List.range i).map fun j => if j = i then some v else none).filterMap id = [] := by
        rw [List.filterMap_map]
        refine List.filterMap_eq_nil_iff.mpr fun j hj => ?_
        have := List.mem_range.mp hj
        show (if j = i then some v else none) = none
        rw [if_neg (by omega)]
      rw [e]
      rfl
theorem nzs_head {q : List Int} {c : Nat} (hc : c < q.length) (h1 : M2.ev q c ≠ 0) (h0 : ∀ i, i < c → M2.ev q i = 0) : ∃ t, nzs q = c :: t := by
  cases e : nzs q with
  | nil =>
    exfalso
    have := (List.filter_eq_nil_iff.mp e) c (List.mem_range.mpr hc)
    exact this (by simpa using h1)
  | cons a t =>
    have fz := nzs_some e
    obtain ⟨a1, a2, a3⟩ := M2.nz_some fz
    rcases Nat.lt_trichotomy a c with z | z | z
    · exact absurd (h0 a z) a2
    · rw [z]
      exact ⟨t, rfl⟩
    · exact absurd (a3 c z) h1
def SameV (_ : Hp) (v b : V) : Prop := v = b
theorem all_same {H : Hp} : ∀ {ys bs : List V}, All2 (SameV H) ys bs → ys = bs
  | _, _, .nil => rfl
  | _, _, .cons (a := y) h t => by
    have h : y = _ := h
    rw [h, all_same t]
section
variable {P : Program} {w : World} {K : PySem.W.Frag} {mg : Str → Option Value} {base : Heap} {T : List Addr}
theorem ok_l_ech {f : Addr} {fd : FuncData} (F : Fun K "_law_echelon_right" "_law_echelon_right" s_l_ech f fd) (br : mg "range" = none) (bn : mg "len" = none) (WA : Fx P w K mg base "_law_are_rows" 2 ["_law_value", "_law_wide", "_law_prime"] (spAre T)) (WB : Fx P w K mg base "_law_basis" 2 ["_law_rows", "_law_prime"] (spBas T)) (WI : Fx P w K mg base "_law_inside" 2 ["_law_basis_here", "_law_row", "_law_prime"] (spIns T)) :
    FnOk P w K mg base CX0 3 f fd ["_law_told", "_law_rows", "_law_wide", "_law_prime"] (spER T) := by
  refine F.ok sc_l_ech (fun vs H Q E h => ?_) (fun cdv A outer s H vs Q E hr h => ?_)
  · obtain ⟨v, u, R, n, p, rfl, _⟩ := h
    rfl
  · obtain ⟨v, u, R, n, p, rfl, hT, hM, hn, hR5, hn5, pr, p3, k⟩ := h
    refine ⟨_, (pss_cons (ps_if (pt_not (pt_val (pe_fx WA hr (pa_cons (pv 0) (pa_cons (pv 2) (pa_cons (pv 3) pa_nil)))))) (pss_one (ps_ret pe_bl)) pss_nil)
      (pss_cons (ps_set (i := 4) sc_l_ech.nd rfl (Or.inl rfl) (pe_lst pa_nil))
      (pss_cons (ps_for PassesOwn.never rfl (pi_sq (pv 0)) (pg_name (i := 5) sc_l_ech.nd rfl (Or.inr rfl))
        (pss_cons (ps_setLc (i := 6) (own := [("_law_k", 9)]) (g := gName 9) (tt := _) rfl sc_l_ech.nd rfl rfl (sw_true rfl rfl rfl (by decide +kernel)) (pi_range1 (by rfl) br (pa_cons (pv 2) pa_nil)) (blkOk_by (own := [("_law_k", 9)]) (N := ["_law_told", "_law_rows", "_law_wide", "_law_prime", "_law_pivots", "_law_row", "_law_places", "_law_place", "_law_basis_here", "_law_k"]) (sc := defScope s_l_ech) (by decide +kernel))
            (fun _ _ _ _ _ => pg_name (i := 9) sc_l_ech.nd rfl (Or.inl rfl)) (fun _ _ _ _ _ => pts_one (pt_cmpR op_ne (pe_ix ixT (pv 5) (pv 9) (fun _ _ => rfl)) pe_int (nomark _))) (fun _ _ _ _ _ => pv 9))
        (C8.pss_cut (ps_if (PW.pt (pw_or (pt_cmpR (op_eqD hr.units) (pv 6) (pe_lst pa_nil) (nomark _)) (pw_or (pt_cmpR op_ne (pe_ix ixT (pv 5) (pe_ix ixH (pv 6) pe_int (fun _ _ => rfl)) (fun _ _ => rfl)) pe_int (nomark _)) (pw_or1 (PW.pt (pw_and (pt_cmpR (op_neD hr.units) (pv 4) (pe_lst pa_nil) (nomark _)) (pw_and1 (pt_cmpR op_le (pe_ix ixH (pv 6) pe_int (fun _ _ => rfl)) (pe_ix ix_list (pv 4) (pe_un un_neg pe_int) (fun _ _ => rfl)) (nomark _)))))))))
            (pss_one (ps_ret pe_bl)) pss_nil)
        (pss_one (ps_expr (pe_bm PySem.F.plainAttrs_list PySem.F.slot_list_append PySem.F.type_list_append mt_append (pv 4) (pa_cons (pe_ix ixH (pv 6) pe_int (fun _ _ => rfl)) pa_nil)))))))
      (pss_cons (ps_for PassesOwn.never rfl (pi_sq (pv 4)) (pg_name (i := 7) sc_l_ech.nd rfl (Or.inr rfl))
        (pss_one (ps_if (pt_cmpR (op_neD hr.units) (pe_lc (own := [("_law_row", 5)]) (g := gName 5) (tt := _) rfl sc_l_ech.nd (pi_sq (pv 0)) (blkOk_by (own := [("_law_row", 5)]) (N := ["_law_told", "_law_rows", "_law_wide", "_law_prime", "_law_pivots", "_law_row", "_law_places", "_law_place", "_law_basis_here", "_law_k"]) (sc := defScope s_l_ech) (by decide +kernel))
              (fun _ _ _ _ _ => pg_name (i := 5) sc_l_ech.nd rfl (Or.inl rfl)) (fun _ _ _ _ _ => pts_one (pt_cmpR op_ne (pe_ix ixT (pv 5) (pv 7) (fun _ _ => rfl)) pe_int (nomark _))) (fun _ _ _ _ _ => pv 5))
            (pe_lst (pa_cons (pe_ix ixH (pv 0) (pe_bm PySem.F.plainAttrs_list PySem.F.slot_list_index PySem.F.type_list_index mt_index (pv 4) (pa_cons (pv 7) pa_nil)) (fun _ _ => rfl)) pa_nil)) (nomark _))
          (pss_one (ps_ret pe_bl)) pss_nil)))
      (pss_cons (ps_set (i := 8) sc_l_ech.nd rfl (Or.inr rfl) (pe_fx WB hr (pa_cons (pv 1) (pa_cons (pv 3) pa_nil))))
      (pss_cons (ps_if (pt_cmpR op_ne (pe_callB lenH (by rfl) bn (by decide +kernel) (pa_cons (pv 8) pa_nil)) (pe_callB lenH (by rfl) bn (by decide +kernel) (pa_cons (pv 0) pa_nil)) (nomark _)) (pss_one (ps_ret pe_bl)) pss_nil)
      (pss_one (ps_ret (pe_cmpR (op_eqD hr.units) (pe_lc (own := [("_law_row", 5)]) (g := gName 5) (tt := _) rfl sc_l_ech.nd (pi_sq (pv 0)) (blkOk_by (own := [("_law_row", 5)]) (N := ["_law_told", "_law_rows", "_law_wide", "_law_prime", "_law_pivots", "_law_row", "_law_places", "_law_place", "_law_basis_here", "_law_k"]) (sc := defScope s_l_ech) (by decide +kernel))
              (fun _ _ _ _ _ => pg_name (i := 5) sc_l_ech.nd rfl (Or.inl rfl)) (fun _ _ _ _ _ => pts_one (pt_not (pt_val (pe_fx WI hr (pa_cons (pv 8) (pa_cons (pv 5) (pa_cons (pv 3) pa_nil))))))) (fun _ _ _ _ _ => pv 5)) (pe_lst pa_nil) (nomark _)))))))))), ?_⟩
    have ec := M2.ech pr hn
    generalize hD : (M2.stAt p R n).2 = D at *
    have p2 := pr.1
    have hp : 0 < p := by omega
    have lsz : ∀ {m : Nat}, m ≤ 500 → m < sizeLine := fun h => small1000 (by omega)
    obtain ⟨ta, us, rfl, eT, aT⟩ := hT
    have lus : us.length = D.length := by rw [aT.length, List.length_map]
    have lD : D.length ≤ 500 := by
      have := asc_len (l := D.map (·.1)) (lo := 0) (n := n) ec.asc fun x hx => by
        obtain ⟨d, hd, rfl⟩ := List.mem_map.mp hx
        exact ⟨Nat.zero_le _, (ec.pv d hd).1⟩
      rw [List.length_map] at this
      omega
    -- what stands at place i of what was told
    have told : ∀ {i : Nat} {x : V}, us[i]? = some x → ∃ (hi : i < D.length) (qa : Addr), x = .ref qa ∧ TupF H qa (D[i].2.map V.int) := fun {i x} hx => by
      obtain ⟨q, hq1, qa, rfl, eq0⟩ := aT.get hx
      have hi : i < D.length := by
        have := (List.getElem?_eq_some_iff.mp hx).1
        omega
      rw [List.getElem?_map, List.getElem?_eq_getElem hi] at hq1
      refine ⟨hi, qa, rfl, ?_⟩
      rw [show D[i].2 = q from Option.some.inj hq1]
      exact eq0
    refine ⟨_, rfl, _, rfl, _, rfl, .ref ta, _, n, p, rfl, ⟨ta, us, rfl, eT, aT⟩, (fun r hr => by
      obtain ⟨d, hd, rfl⟩ := List.mem_map.mp hr
      exact ec.rd d hd), hn5, fun H1 g1 => ⟨true, rfl, iteF ?_⟩⟩
    refine ⟨(by show 0 ≤ sizeLine; exact Nat.zero_le _), fun pa hpa => ?_⟩
    have hpaH : H pa = none := g1.stay _ hpa
    have g2 : Gr T H (upd H1 pa (.lst [])) := g1.trans (Gr.new hpa)
    have ax : ∀ {H' : Hp}, Gr T H H' → H' ta = some (.tup us) := fun g => g.ext _ _ eT (fun _ z => by cases z)
    refine ⟨_, rfl, ta, us, true, rfl, sqT (ax g2), for_it walk_sq (fun i σ' H' => ∃ v5 v6 : Option V, σ' = [some (.ref ta), some u, some (.int (n : Int)), some (.int (p : Int)), some (.ref pa), v5, v6, none, none, none] ∧ Gr T H H' ∧ H' pa = some (.lst (((D.take i).map (·.1)).map fun k : Nat => V.int (k : Int))))
      ⟨none, none, rfl, g2, upd_same⟩ (fun i σ' H' _ ⟨_, _, _, g, _⟩ => sqT (ax g)) ?_ ?_⟩
    · rintro i x σ' H3' H3 hi ⟨v5, v6, rfl, g, ep⟩ ⟨rfl, hx⟩
      obtain ⟨hiD, qa, rfl, eq0⟩ := told hx
      have hmem := List.getElem_mem hiD
      obtain ⟨c1, c2, c3⟩ := ec.pv _ hmem
      have rq := ec.rd _ hmem
      have asc : ∀ j, (hj : j < i) → D[j].1 < D[i].1 := fun j hj => by
        have a := ec.asc
        rw [List.pairwise_map] at a
        exact List.pairwise_iff_getElem.mp a j i (by omega) hiD hj
      generalize hd : D[i] = d at *
      obtain ⟨c, q⟩ := d
      have lq : q.length = n := rq.1
      have c1 : c < n := c1
      have c2 : M2.ev q c = 1 := c2
      have eq3 : TupF H3 qa (q.map V.int) := eq0.ext g.ext
      obtain ⟨t, hz⟩ := nzs_head (q := q) (c := c) (by omega) (by rw [c2]; decide) c3
      refine ⟨_, rfl, _, rfl, by omega, by omega, ?_⟩
      rw [Int.toNat_natCast]
      refine fun D1 hD1 => lc_filt (T := T) (nzF q) NatV walk_range (by unfold nzF; rw [List.length_map, List.length_range, lq]) (lsz hn5) hD1 True.intro (fun _ _ _ _ => True.intro) (fun _ _ _ _ _ h => h) ?_ ?_
      · rintro j y o H7 H8 Qc Nx hj hy hF g7 hacc kY kN
        obtain ⟨rfl, rfl⟩ := hy
        dsimp only
        rw [show (0 : Int) + (j : Int) = (j : Int) by omega]
        have hj2 : j < q.length := by omega
        refine ⟨rfl, ?_⟩
        refine ⟨_, rfl, _, rfl, qa, _, j, _, rfl, rfl, eq3.ext g7.ext, ev_get hj2, rfl, _, rfl, ?_⟩
        unfold nzF at hF
        rw [List.getElem?_map, List.getElem?_range hj2] at hF
        have hF : (if M2.ev q j = 0 then none else some j) = o := Option.some.inj hF
        refine ite2 (fun h1 => ?_) (fun h1 => ?_)
        · have h1 : M2.ev q j ≠ 0 := fun z => by
            rw [z] at h1
            simp at h1
          rw [if_neg h1] at hF
          exact ⟨_, rfl, kY j hF.symm _ _ (.refl T _) rfl⟩
        · have h1 : M2.ev q j = 0 := Classical.byContradiction fun z => h1 (by simpa using z)
          rw [if_pos h1] at hF
          exact kN hF.symm _ (.refl T _)
      intro H7 ks hD7 hA7 g7
      have ek := all_nat hA7
      rw [nz_fm, hz] at ek
      rw [ek] at hD7
      have ep7 := g7.ext _ _ ep (fun _ z => by cases z)
      have eq7 := eq3.ext g7.ext
      have nD1 : D1 ≠ pa := fun z => by rw [z, ep] at hD1; cases hD1
      have dk : ∀ (H : Hp) (a : Addr) (ks : List Nat), H a = some (.lst (ks.map fun k : Nat => V.int (k : Int))) → Dp K H (.ref a) (.list (dI (ks.map fun k : Nat => (k : Int)))) := fun H a ks e => dp_rowL ⟨a, rfl, by rw [e, List.map_map]; rfl⟩
      refine ⟨fun σ' H4 => σ' = [some (.ref ta), some u, some (.int (n : Int)), some (.int (p : Int)), some (.ref pa), some (.ref qa), some (.ref D1), none, none, none] ∧ Gr T H7 H4, ?_, ?_⟩
      · refine ⟨_, rfl, (by show 0 ≤ sizeLine; exact Nat.zero_le _), fun q0 hq0 => ?_⟩
        have g8 : Gr T H7 (upd H7 q0 (.lst [])) := Gr.new hq0
        have hD8 := g8.ext _ _ hD7 (fun _ z => by cases z)
        refine ⟨_, _, dk _ _ _ hD8, dp_nil upd_same, sh_list (sh_dI _), sh_list sh_nil, _, rfl, ?_⟩
        rw [show dI ((c :: t).map fun k : Nat => (k : Int)) = PyData.int c :: dI (t.map fun k : Nat => (k : Int)) from rfl, eqv_nil]
        refine iteF ?_
        refine ⟨_, rfl, _, rfl, false, D1, _, 0, _, rfl, rfl, hD8, rfl, qa, _, c, _, rfl, rfl, eq7.ext g8.ext, ev_get (by omega), rfl, _, rfl, ?_⟩
        refine ite2 (fun h1 => ?_) (fun _ => ?_)
        · exfalso
          rw [c2] at h1
          simp at h1
        have ep8 := g8.ext _ _ ep7 (fun _ z => by cases z)
        refine ⟨_, rfl, (by show 0 ≤ sizeLine; exact Nat.zero_le _), fun q1 hq1 => ?_⟩
        have g9 := g8.trans (Gr.new (o := .lst []) hq1)
        have ep9 := g9.ext _ _ ep7 (fun _ z => by cases z)
        have hD9 := g9.ext _ _ hD7 (fun _ z => by cases z)
        refine ⟨_, _, dk _ _ _ ep9, dp_nil upd_same, sh_list (sh_dI _), sh_list sh_nil, _, rfl, ?_⟩
        refine ite2 (fun hne => ?_) (fun _ => ?_)
        · have i0 : 0 < i := by
            rcases Nat.eq_zero_or_pos i with z | z
            · rw [z] at hne
              exact absurd (show (!PyData.eqv (.list []) (.list [])) = true from hne) (by rw [eqv_list sh_nil]; decide)
            · exact z
          have hpl : i - 1 < D.length := by omega
          have lastp : ((D.take i).map (·.1)).map (fun k : Nat => V.int (k : Int)) = ((D.take (i - 1)).map (·.1)).map (fun k : Nat => V.int (k : Int)) ++ [V.int ((D[i - 1].1 : Nat) : Int)] := by
            have := take_snoc (List.getElem?_eq_getElem hpl)
            rw [show i - 1 + 1 = i by omega] at this
            rw [this, List.map_append, List.map_append]
            rfl
          have lt := asc (i - 1) (by omega)
          refine ⟨_, rfl, false, D1, _, 0, _, rfl, rfl, hD9, rfl, _, rfl, _, rfl, pa, _, _, _, rfl, rfl, SqL.of ep9, by rw [lastp]; exact atI_last _ _, _, _, rfl, rfl, _, rfl, ?_⟩
          refine ite2 (fun h1 => ?_) (fun _ => ⟨rfl, g9⟩)
          have h1 := of_decide_eq_true h1
          have lt : D[i - 1].1 < c := lt
          omega
        · exact iteF ⟨rfl, g9⟩
      · rintro σ' H4 ⟨rfl, g4⟩
        have ep4 := g4.ext _ _ ep7 (fun _ z => by cases z)
        have hD4 := g4.ext _ _ hD7 (fun _ z => by cases z)
        refine ⟨_, rfl, .inl ⟨rfl, _, SqL.of ep4⟩, _, rfl, false, D1, _, 0, _, rfl, rfl, hD4, rfl, pa, _, _, rfl, rfl, ep4, ?_, ?_⟩
        · rw [List.length_map, List.length_map, List.length_take]
          exact lsz (by omega)
        · refine ⟨_, _, rfl, ((g.trans g7).trans g4).upd hpaH, ?_⟩
          rw [upd_same, take_snoc (List.getElem?_eq_getElem hiD), List.map_append, List.map_append, hd]
          rfl
    · rintro σ' H3 ⟨v5, v6, rfl, g, ep⟩
      rw [lus, List.take_length] at ep
      have axK : ∀ {H' : Hp}, Gr T H3 H' → H' ta = some (.tup us) := fun g' => ax (g.trans g')
      have epK : ∀ {H' : Hp}, Gr T H3 H' → H' pa = some (.lst ((D.map (·.1)).map fun k : Nat => V.int (k : Int))) := fun g' => g'.ext _ _ ep (fun _ z => by cases z)
      refine ⟨_, rfl, pa, _, false, rfl, sqL ep, for_it walk_sq (fun i σ' H' => ∃ v5 v6 v7 : Option V, σ' = [some (.ref ta), some u, some (.int (n : Int)), some (.int (p : Int)), some (.ref pa), v5, v6, v7, none, none] ∧ Gr T H3 H')
        ⟨_, _, _, rfl, .refl T H3⟩ (fun i σ' H' _ ⟨_, _, _, _, g'⟩ => sqL (epK g')) ?_ ?_⟩
      · rintro i x σ' H4' H4 hi ⟨v5, v6, v7, rfl, g4⟩ ⟨rfl, hx⟩
        have hiD : i < D.length := by
          rw [List.length_map, List.length_map] at hi
          exact hi
        have ex : x = V.int ((D[i].1 : Nat) : Int) := by
          rw [List.getElem?_map, List.getElem?_map, List.getElem?_eq_getElem hiD] at hx
          exact (Option.some.inj hx).symm
        subst ex
        have hiu : i < us.length := by omega
        have pl := (ec.pv _ (List.getElem_mem hiD)).1
        have nod : ∀ j, (hj : j < D.length) → j ≠ i → D[j].1 ≠ D[i].1 := fun j hj ne => by
          have a := ec.asc
          rw [List.pairwise_map] at a
          rcases Nat.lt_or_ge j i with z | z
          · have := List.pairwise_iff_getElem.mp a j i hj hiD z
            omega
          · have := List.pairwise_iff_getElem.mp a i j hiD hj (by omega)
            omega
        have val : ∀ j, (hj : j < D.length) → M2.ev D[j].2 D[i].1 = if j = i then 1 else 0 := fun j hj => by
          split
          · next z =>
            subst z
            exact (ec.pv _ (List.getElem_mem hiD)).2.1
          · next z => exact ec.fl _ (List.getElem_mem hiD) _ (List.getElem_mem hj) (Ne.symm (nod j hj z))
        refine ⟨_, rfl, ta, us, true, rfl, sqT (axK g4), fun D4 hD4 => lc_filt (T := T) (oneF us.length i us[i]) SameV walk_sq (by unfold oneF; rw [List.length_map, List.length_range]) (lsz (by omega)) hD4 (sqT (axK g4)) Ext.sqof (fun _ _ _ _ _ h => h) ?_ ?_⟩
        · rintro j y o H7 H8 Qc Nx hj ⟨rfl, hy⟩ hF g7 hacc kY kN
          obtain ⟨hjD, qa, rfl, eq0⟩ := told hy
          have eq7 := eq0.ext ((g.trans g4).trans g7).ext
          have lq : D[j].2.length = n := (ec.rd _ (List.getElem_mem hjD)).1
          unfold oneF at hF
          rw [List.getElem?_map, List.getElem?_range hj] at hF
          have hF : (if j = i then some us[i] else none) = o := Option.some.inj hF
          refine ⟨rfl, ?_⟩
          refine ⟨_, rfl, _, rfl, qa, _, D[i].1, _, rfl, rfl, eq7, ev_get (by omega), rfl, _, rfl, ?_⟩
          rw [val j hjD]
          by_cases z : j = i
          · rw [if_pos z] at hF ⊢
            refine ite2 (fun _ => ?_) (fun h1 => ?_)
            · refine ⟨_, rfl, kY us[i] hF.symm _ _ (.refl T _) ?_⟩
              subst z
              rw [List.getElem?_eq_getElem hj] at hy
              exact (Option.some.inj hy).symm
            · exact absurd (show (!decide (V.int 1 = V.int 0)) = true by decide) h1
          · rw [if_neg z] at hF ⊢
            refine ite2 (fun h1 => ?_) (fun _ => kN hF.symm _ (.refl T _))
            exact absurd h1 (by simp)
        intro H7 ys hD7 hA7 g7
        have ey := all_same hA7
        rw [one_fm hiu] at ey
        rw [ey] at hD7
        have g47 := g4.trans g7
        obtain ⟨_, qi, ei, eqi⟩ := told (List.getElem?_eq_getElem hiu)
        refine ⟨_, rfl, _, rfl, .inl ⟨rfl, _, SqL.of (epK g47)⟩, _, rfl, pa, _, V.int ((D[i].1 : Nat) : Int), i, V.int ((D[i].1 : Nat) : Int), rfl, rfl, SqL.of (epK g47), rfl, ?_, ?_, ?_, ?_, ?_⟩
        · rw [List.all_map, List.all_map]
          exact List.all_eq_true.mpr fun _ _ => rfl
        · rw [List.getElem?_map, List.getElem?_map, List.getElem?_eq_getElem hiD]
          rfl
        · show decide _ = true
          simp
        · intro m z' hm hz'
          have hmD : m < D.length := by omega
          rw [List.getElem?_map, List.getElem?_map, List.getElem?_eq_getElem hmD] at hz'
          rw [← Option.some.inj hz']
          show decide _ = false
          have := nod m hmD (by omega)
          simp
          omega
        refine ⟨true, ta, us, i, us[i], rfl, rfl, axK g47, List.getElem?_eq_getElem hiu, (by show 1 ≤ sizeLine; exact Nat.le_of_lt (lsz (by decide))), fun q1 hq1 => ?_⟩
        have g8 : Gr T H7 (upd H7 q1 (.lst [us[i]])) := Gr.new hq1
        have e7 := g8.ext _ _ hD7 (fun _ z => by cases z)
        have dp1 : ∀ (a : Addr), upd H7 q1 (.lst [us[i]]) a = some (.lst [us[i]]) → Dp K (upd H7 q1 (.lst [us[i]])) (.ref a) (.list ([D[i].2].map fun r => .tuple (dI r))) := fun a e => .lst (SqL.of e) (.cons (dp_rowT ⟨qi, ei, eqi.ext ((g.trans g47).trans g8).ext⟩) .nil)
        refine ⟨_, _, dp1 _ e7, dp1 _ upd_same, sh_list (sh_tups _), sh_list (sh_tups _), _, rfl, ?_⟩
        rw [eqv_list (sh_tups _)]
        exact iteF ⟨_, _, _, rfl, g47.trans g8⟩
      · rintro σ' H4 ⟨v5, v6, v7, rfl, g4⟩
        have gH4 := g.trans g4
        refine ⟨_, rfl, _, rfl, u, R, n, p, rfl, hM.v.ext gH4.ext, hn, hR5, hn5, pr, p3, fun H5 ub g5 hB => ?_⟩
        have gH5 := gH4.trans g5
        have lb := M2.bas_ok pr hn
        have bok := bas_good pr p3 hn hR5 hn5
        have same := M2.rank_same pr lb ec
        generalize hBB : M2.basL p R = B at *
        obtain ⟨ba, bs, rfl, eB, aB⟩ := id hB
        refine ⟨_, rfl, false, ba, bs, rfl, eB, _, rfl, true, ta, us, rfl, ax gH5, rfl, _, rfl, ?_⟩
        rw [aB.length, same, ← lus, decide_eq_true rfl]
        refine iteF ?_
        refine ⟨_, rfl, ta, us, true, rfl, sqT (ax gH5), fun D6 hD6 => lc_filt (T := T) (us.map fun _ => (none : Option V)) SameV walk_sq (by rw [List.length_map]) (lsz (by omega)) hD6 (sqT (ax gH5)) Ext.sqof (fun _ _ _ _ _ h => h) ?_ ?_⟩
        · rintro j y o H7 H8 Qc Nx hj ⟨rfl, hy⟩ hF g7 hacc kY kN
          obtain ⟨hjD, qa, rfl, eq0⟩ := told hy
          have rq := ec.rd _ (List.getElem_mem hjD)
          rw [List.getElem?_map, hy] at hF
          refine ⟨rfl, ?_⟩
          refine ⟨_, rfl, _, rfl, _, rfl, .ref ba, .ref qa, B, D[j].2, n, p, rfl, hB.ext g7.ext, ⟨qa, rfl, eq0.ext (gH5.trans g7).ext⟩, bok, rq, M2.inside_zero pr lb rq ((ec.sp _).mp (.mem (by rw [M2.bas_snd]; exact List.mem_map.mpr ⟨_, List.getElem_mem hjD, rfl⟩))), fun H9 g9 => ⟨true, rfl, iteF (kN (Option.some.inj hF).symm _ g9)⟩⟩
        intro H7 ys hD7 hA7 g7
        have e0 : (us.map fun _ => (none : Option V)).filterMap id = [] := by
          rw [List.filterMap_map]
          exact List.filterMap_eq_nil_iff.mpr fun _ _ => rfl
        rw [e0] at hA7
        cases hA7
        refine ⟨(by show 0 ≤ sizeLine; exact Nat.zero_le _), fun q0 hq0 => ?_⟩
        have g8 : Gr T H7 (upd H7 q0 (.lst [])) := Gr.new hq0
        have hD8 := g8.ext _ _ hD7 (fun _ z => by cases z)
        refine ⟨_, _, dp_nil hD8, dp_nil upd_same, sh_list sh_nil, sh_list sh_nil, ?_⟩
        rw [eqv_list sh_nil]
        exact k _ ((gH5.trans g7).trans g8)
end
end Z
set_option Elab.async false
set_option linter.all false
set_option maxRecDepth 100000
set_option maxHeartbeats 4000000
namespace Z
open PySem L2 PyProof.Rows ZX GX
/-! what the law's own text needs beside -/
section
variable {X : Cx}
theorem call_listK (K : PySem.W.Frag) (hK : X.K = K := by rfl) : CallR X (.type "list") (fun xs H Q => ∃ p ys, xs = [.ref p] ∧ (SqL K H p ys ∨ SqT K H p ys) ∧ ∀ l, H l = none → Q (.ref l) (upd H l (.lst ys))) := by
  subst hK
  exact call_list_of
def rTupOf (K : PySem.W.Frag) : List V → Hp → VK → Prop := fun xs H Q => ∃ p ys, xs = [.ref p] ∧ ((SqL K H p ys ∧ ∀ l, H l = none → Q (.ref l) (upd H l (.tup ys))) ∨ (SqT K H p ys ∧ Q (.ref p) H))
theorem call_tupK (K : PySem.W.Frag) (hK : X.K = K := by rfl) : CallR X (.type "tuple") (rTupOf K) := by
  subst hK
  exact call_tuple_of
theorem cr_sumK (K : PySem.W.Frag) (hc : X.calm = true) (hK : X.K = K := by rfl) : CallR X (.builtin "sum") (rSum K) := by
  subst hK
  exact cr_sum hc
/-- xs[k] by values -/
theorem get_list (K : PySem.W.Frag) (hK : X.K = K := by rfl) : PGet X (fun o i H Q => ∃ (p : Addr) (xs : List V) (k : Nat) (v : V), o = .ref p ∧ i = .int (k : Int) ∧ SqL K H p xs ∧ xs[k]? = some v ∧ Q v H) := by
  subst hK
  intro pins s σ H o i ov iv Q I ro ri h
  obtain ⟨p, xs, k, z, rfl, rfl, hq, he, q⟩ := h
  cases ro
  obtain ⟨t, rfl⟩ := ri
  obtain ⟨its, r, pl, hz⟩ := I.list hq
  obtain ⟨w, ew, rw'⟩ := r.get he
  have hl := r.length
  have hn := line63
  have hk : k < its.length := (List.getElem?_eq_some_iff.mp ew).1
  exact wpAny_getItem_list pl.isList (Int.natCast_nonneg k) (by omega) (by rw [Int.toNat_natCast]; simpa using ew) ⟨z, H, I, rw', q⟩
end
/-! beside the pen -/
theorem MatT.mask {T : List Addr} {H : Hp} {p l : Addr} {n : Nat} {v : V} {R : List (List Int)} (h : MatT H v R) (hP : PT T H p l n) : MatT (Z.mask p H) v R := by
  obtain ⟨a, vs, rfl, e, hA⟩ := h
  refine ⟨a, vs, rfl, by rw [mask_ne (hP.ne e (fun _ z => by cases z))]; exact e, hA.mono fun x r ⟨b, ex, ob, e1, e2⟩ => ⟨b, ex, ob, by rw [mask_ne (hP.ne e1 (fun _ z => by cases z))]; exact e1, e2⟩⟩
theorem RowT.mask {T : List Addr} {H : Hp} {p l : Addr} {n : Nat} {v : V} {r : List Int} (h : RowT H v r) (hP : PT T H p l n) : RowT (Z.mask p H) v r := by
  obtain ⟨b, ex, ob, e1, e2⟩ := h
  exact ⟨b, ex, ob, by rw [mask_ne (hP.ne e1 (fun _ z => by cases z))]; exact e1, e2⟩
theorem MatL.mask {T : List Addr} {H : Hp} {p l : Addr} {n : Nat} {v : V} {R : List (List Int)} (h : MatL H v R) (hP : PT T H p l n) : MatL (Z.mask p H) v R := by
  obtain ⟨a, vs, rfl, e, hA⟩ := h
  refine ⟨a, vs, rfl, by rw [mask_ne (hP.ne e (fun _ z => by cases z))]; exact e, hA.mono fun x r ⟨b, ex, e1⟩ => ⟨b, ex, by rw [mask_ne (hP.ne e1 (fun _ z => by cases z))]; exact e1⟩⟩
theorem RowL.msk {T : List Addr} {H : Hp} {p l : Addr} {n : Nat} {v : V} {r : List Int} (h : RowL H v r) (hP : PT T H p l n) : RowL (Z.mask p H) v r := by
  obtain ⟨b, ex, e1⟩ := h
  exact ⟨b, ex, by rw [mask_ne (hP.ne e1 (fun _ z => by cases z))]; exact e1⟩
theorem RowV.mask {T : List Addr} {H : Hp} {p l : Addr} {n : Nat} {v : V} {r : List Int} (h : RowV H v r) (hP : PT T H p l n) : RowV (Z.mask p H) v r := by
  obtain ⟨b, t, ex, e1⟩ := h
  refine ⟨b, t, ex, ?_⟩
  unfold SqH at e1 ⊢
  rw [mask_ne (hP.ne e1 (fun _ z => by cases t <;> cases z))]
  exact e1
theorem MatV.mask {T : List Addr} {H : Hp} {p l : Addr} {n : Nat} {v : V} {R : List (List Int)} (h : MatV H v R) (hP : PT T H p l n) : MatV (Z.mask p H) v R := by
  obtain ⟨a, t, vs, ex, e1, hA⟩ := h
  refine ⟨a, t, vs, ex, ?_, hA.mono fun _ _ h => h.mask hP⟩
  unfold SqH at e1 ⊢
  rw [mask_ne (hP.ne e1 (fun _ z => by cases t <;> cases z))]
  exact e1
theorem prime_mem {v : V} (h : v ∈ [V.int 2, V.int 3, V.int 5, V.int 7, V.int 101, V.int 1000000007]) : ∃ q : Nat, v = .int (q : Int) ∧ M2.Pr q ∧ q ≤ 1000000007 := by
  have g : ∀ q : Nat, q ∈ M2.primes → ∃ q' : Nat, V.int (q : Int) = .int (q' : Int) ∧ M2.Pr q' ∧ q' ≤ 1000000007 := fun q hq => ⟨q, rfl, M2.pr_mem hq, by
    unfold M2.primes at hq
    simp only [List.mem_cons, List.not_mem_nil, or_false] at hq
    omega⟩
  simp only [List.mem_cons, List.not_mem_nil, or_false] at h
  rcases h with rfl | rfl | rfl | rfl | rfl | rfl
  · exact g 2 (by decide)
  · exact g 3 (by decide)
  · exact g 5 (by decide)
  · exact g 7 (by decide)
  · exact g 101 (by decide)
  · exact g 1000000007 (by decide)
def forBody : Stmt → List Stmt
  | .For _ _ b _ _ => b
  | _ => []
def binL : Expr → Expr
  | .BinOp l _ _ _ => l
  | e => e
abbrev s_law : Stmt := topS 38
def stL (k : Nat) : Stmt := (forBody (bodyAt s_law 1)).getD k (.Pass ⟨0, 0, 0, 0⟩)
theorem sc_law : FnScope ["_law_script", "_law_pen_here", "_law_turn", "_law_prime", "_law_many", "_law_wide", "_law_rows", "_law_row", "_law_kept", "_law_told", "_law_led", "_law_spot", "_law_right", "_law_found", "_law_side", "_law_longer", "_law_a", "_law_b", "_law_k", "_law_one", "_law_two"] ["_law_script"] (defScope s_law) := ⟨rfl, rfl, rfl, by decide +kernel, rfl, by decide +kernel, by decide +kernel⟩
structure TL (P : Program) (w : World) (K : PySem.W.Frag) (mg : Str → Option Value) (base : Heap) (T : List Addr) : Prop where
  pen : Fx P w K mg base "_law_pen" 1 ["_law_script"] (spPen K)
  draw : Fx P w K mg base "_law_draw" 1 ["_law_pen_here", "_law_many"] (spDr T)
  pick : Fx P w K mg base "_law_pick" 2 ["_law_pen_here", "_law_some"] (spPk T K)
  drawn : Fx P w K mg base "_law_integers" 3 ["_law_pen_here", "_law_many", "_law_wide", "_law_prime"] (spInt T)
  rank : Fx P w K mg base "_law_rank" 3 ["_law_rows", "_law_prime"] (spLRk T)
  ech : Fx P w K mg base "_law_echelon_right" 3 ["_law_told", "_law_rows", "_law_wide", "_law_prime"] (spER T)
  are : Fx P w K mg base "_law_are_rows" 2 ["_law_value", "_law_wide", "_law_prime"] (spAre T)
  echelon : Fx P w K mg base "echelon" 7 ["rows", "prime"] (spEc T)
  rank_of : Fx P w K mg base "rank_of" 7 ["rows", "prime"] (spRk T)
  solved : Fx P w K mg base "solved" 7 ["rows", "right", "prime"] (spSv T)
  b_range : mg "range" = none
  b_zip : mg "zip" = none
  b_list : mg "list" = none
  b_tuple : mg "tuple" = none
  b_sum : mg "sum" = none
  b_int : mg "int" = none
def spLaw (K : PySem.W.Frag) (T : List Addr) : Sp := fun vs H Q _ => ∃ (a : Addr) (ns : List Int), vs = [.ref a] ∧ SqL K H a (ns.map V.int) ∧ ns.length ≤ 63 ∧ Tabs T H ∧ ∀ H', Q (.bl true) H'
end Z
set_option Elab.async false
set_option linter.all false
set_option maxRecDepth 100000
set_option maxHeartbeats 8000000
namespace Z
open PySem L2 PyProof.Rows ZX GX
/-! the law -/
theorem pi_zxK {X : Cx} (K : PySem.W.Frag) {e e2 : Expr} {ta : TA} {p pos tpos : Pos} {elts : List Expr} {kk : Nat} (hg : Gl X "zip") (hm : X.mg "zip" = none) (ha : PA X [e, e2] ta) (hs : starEach [e, e2] X.env = (false, eval e X.env) :: starEach [e2] X.env := by rfl) (hpl : (backTo pos (starEach [e2] X.env)).any (·.1) = false := by rfl) (hK : X.K = K := by rfl) : PI X (.Tuple elts kk tpos) (.Call (.Name "zip" p) [e, e2] [] pos) (iZx K ta) := by
  subst hK
  exact pi_zx hg hm ha hs hpl
abbrev sg (a p : Addr) (v2 v3 v4 v5 v6 v7 v8 v9 v10 v11 v12 v13 v14 v15 : Option V) : L2.St := [some (.ref a), some (.ref p), v2, v3, v4, v5, v6, v7, v8, v9, v10, v11, v12, v13, v14, v15, none, none, none, none, none]
section
variable {P : Program} {w : World} {K : PySem.W.Frag} {mg : Str → Option Value} {base : Heap} {T : List Addr}
theorem ok_law {f : Addr} {fd : FuncData} (F : Fun K "law" "law" s_law f fd) (T0 : TL P w K mg base T) : FnOk P w K mg base CX0 8 f fd ["_law_script"] (spLaw K T) := by
  refine F.ok sc_law (fun vs H Q E h => ?_) (fun cdv A outer s H vs Q E hr h => ?_)
  · obtain ⟨a, ns, rfl, _⟩ := h
    rfl
  · obtain ⟨a, ns, rfl, hS, hl, tb, k⟩ := h
    refine ⟨_, (pss_cons (ps_set (i := 1) sc_law.nd rfl (Or.inr rfl) (pe_fx T0.pen (hr.mono (by decide)) (pa_cons (pv 0) pa_nil)))
      (pss_cons (ps_for PassesOwn.never rfl (pi_range1 (by rfl) T0.b_range (pa_cons pe_int pa_nil)) (pg_name (i := 2) sc_law.nd rfl (Or.inl rfl))
          (C8.pss_cut (ps_set (i := 3) sc_law.nd rfl (Or.inr rfl) (pe_fx T0.pick (hr.mono (by decide)) (pa_cons (pv 1) (pa_cons (pe_lst (pa_cons pe_int (pa_cons pe_int (pa_cons pe_int (pa_cons pe_int (pa_cons pe_int (pa_cons pe_int pa_nil))))))) pa_nil))))
          (C8.pss_cut (ps_par (i := 4) (j := 5) (by rfl) sc_law.nd rfl rfl (by decide) rfl rfl (pa_cons (pe_op op_add pe_int (pe_fx T0.draw (hr.mono (by decide)) (pa_cons (pv 1) (pa_cons pe_int pa_nil)))) (pa_cons (pe_op op_add pe_int (pe_fx T0.draw (hr.mono (by decide)) (pa_cons (pv 1) (pa_cons pe_int pa_nil)))) pa_nil)) (by rfl))
          (C8.pss_cut (ps_set (i := 6) sc_law.nd rfl (Or.inl rfl) (pe_fx T0.drawn (hr.mono (by decide)) (pa_cons (pv 1) (pa_cons (pv 4) (pa_cons (pv 5) (pa_cons (pv 3) pa_nil))))))
          (C8.pss_cut (ps_set (i := 8) sc_law.nd rfl (Or.inr rfl) (pe_lc (own := [("_law_row", 7)]) (g := gName 7) (tt := tYes) rfl sc_law.nd (pi_sqK K (pv 6)) (blkOk_by (own := [("_law_row", 7)]) (N := ["_law_script", "_law_pen_here", "_law_turn", "_law_prime", "_law_many", "_law_wide", "_law_rows", "_law_row", "_law_kept", "_law_told", "_law_led", "_law_spot", "_law_right", "_law_found", "_law_side", "_law_longer", "_law_a", "_law_b", "_law_k", "_law_one", "_law_two"]) (sc := defScope s_law) (by decide +kernel)) (fun _ _ _ _ _ => pg_name (i := 7) sc_law.nd rfl (Or.inl rfl)) (fun _ _ _ _ _ => pts_nil) (fun _ _ _ _ _ => (pe_callTy (call_listK K) (by rfl) T0.b_list (by decide +kernel) (pa_cons (pv 7) pa_nil)))))
          (C8.pss_cut (ps_if (pt_cmpR op_eq (pe_fx T0.draw (hr.mono (by decide)) (pa_cons (pv 1) (pa_cons pe_int pa_nil))) pe_int (nomark _)) (pss_one (ps_set (i := 6) sc_law.nd rfl (Or.inl rfl) (pe_callTy (call_tupK K) (by rfl) T0.b_tuple PySem.Pv.boot_tuple (pa_cons (pe_lc (own := [("_law_row", 7)]) (g := gName 7) (tt := tYes) rfl sc_law.nd (pi_sqK K (pv 6)) (blkOk_by (own := [("_law_row", 7)]) (N := ["_law_script", "_law_pen_here", "_law_turn", "_law_prime", "_law_many", "_law_wide", "_law_rows", "_law_row", "_law_kept", "_law_told", "_law_led", "_law_spot", "_law_right", "_law_found", "_law_side", "_law_longer", "_law_a", "_law_b", "_law_k", "_law_one", "_law_two"]) (sc := defScope s_law) (by decide +kernel)) (fun _ _ _ _ _ => pg_name (i := 7) sc_law.nd rfl (Or.inl rfl)) (fun _ _ _ _ _ => pts_nil) (fun _ _ _ _ _ => (pe_callTy (call_tupK K) (by rfl) T0.b_tuple PySem.Pv.boot_tuple (pa_cons (pv 7) pa_nil)))) pa_nil)))) pss_nil)
          (C8.pss_cut (ps_set (i := 9) sc_law.nd rfl (Or.inl rfl) (pe_fx T0.echelon (hr.mono (by decide)) (pa_cons (pv 6) (pa_cons (pv 3) pa_nil))))
          (C8.pss_cut (ps_if (PW.pt (pw_or (pt_cmpR op_ne (pe_fx T0.rank_of (hr.mono (by decide)) (pa_cons (pv 6) (pa_cons (pv 3) pa_nil))) (pe_fx T0.rank (hr.mono (by decide)) (pa_cons (pv 8) (pa_cons (pv 3) pa_nil))) (nomark _)) (pw_or1 (pt_not (pt_val (pe_fx T0.ech (hr.mono (by decide)) (pa_cons (pv 9) (pa_cons (pv 8) (pa_cons (pv 5) (pa_cons (pv 3) pa_nil)))))))))) (pss_one (ps_ret pe_bl)) pss_nil)
          (C8.pss_cut (ps_set (i := 10) sc_law.nd rfl (Or.inl rfl) (pe_op op_cat (pe_lc (own := [("_law_row", 7)]) (g := gName 7) (tt := tYes) rfl sc_law.nd (pi_sqK K (pe_slice sl_list (pv 8) (po_some pe_int) po_none)) (blkOk_by (own := [("_law_row", 7)]) (N := ["_law_script", "_law_pen_here", "_law_turn", "_law_prime", "_law_many", "_law_wide", "_law_rows", "_law_row", "_law_kept", "_law_told", "_law_led", "_law_spot", "_law_right", "_law_found", "_law_side", "_law_longer", "_law_a", "_law_b", "_law_k", "_law_one", "_law_two"]) (sc := defScope s_law) (by decide +kernel)) (fun _ _ _ _ _ => pg_name (i := 7) sc_law.nd rfl (Or.inl rfl)) (fun _ _ _ _ _ => pts_nil) (fun _ _ _ _ _ => (pe_lc (own := [("_law_a", 16), ("_law_b", 17)]) (g := gTup K 2 (gCons (gName 16) (gCons (gName 17) gNil))) (tt := tYes) rfl sc_law.nd (pi_zxK K (by rfl) T0.b_zip (pa_cons (pv 7) (pa_cons (pe_ix ixH (pv 8) pe_int (fun _ _ => rfl)) pa_nil))) (blkOk_by (own := [("_law_a", 16), ("_law_b", 17)]) (N := ["_law_script", "_law_pen_here", "_law_turn", "_law_prime", "_law_many", "_law_wide", "_law_rows", "_law_row", "_law_kept", "_law_told", "_law_led", "_law_spot", "_law_right", "_law_found", "_law_side", "_law_longer", "_law_a", "_law_b", "_law_k", "_law_one", "_law_two"]) (sc := relS (lcSc (binL (valOf (stL 7)))) (defScope s_law)) (by decide +kernel)) (fun _ _ _ _ _ => pg_tup rfl (pgs_cons (pg_name (i := 16) sc_law.nd rfl (Or.inl rfl)) (pgs_cons (pg_name (i := 17) sc_law.nd rfl (Or.inl rfl)) pgs_nil))) (fun _ _ _ _ _ => pts_nil) (fun _ _ _ _ _ => (pe_op op_add (pv 16) (pe_op op_mul pe_int (pv 17))))))) (pe_lst (pa_cons (pe_ix ixH (pv 8) pe_int (fun _ _ => rfl)) pa_nil))))
          (C8.pss_cut (ps_if (pt_cmpR (op_neD hr.units) (pe_fx T0.echelon (hr.mono (by decide)) (pa_cons (pv 10) (pa_cons (pv 3) pa_nil))) (pv 9) (nomark _)) (pss_one (ps_ret pe_bl)) pss_nil)
          (C8.pss_cut (ps_set (i := 11) sc_law.nd rfl (Or.inr rfl) (pe_lc (own := [("_law_k", 18)]) (g := gName 18) (tt := tYes) rfl sc_law.nd (pi_range1 (by rfl) T0.b_range (pa_cons (pv 5) pa_nil)) (blkOk_by (own := [("_law_k", 18)]) (N := ["_law_script", "_law_pen_here", "_law_turn", "_law_prime", "_law_many", "_law_wide", "_law_rows", "_law_row", "_law_kept", "_law_told", "_law_led", "_law_spot", "_law_right", "_law_found", "_law_side", "_law_longer", "_law_a", "_law_b", "_law_k", "_law_one", "_law_two"]) (sc := defScope s_law) (by decide +kernel)) (fun _ _ _ _ _ => pg_name (i := 18) sc_law.nd rfl (Or.inl rfl)) (fun _ _ _ _ _ => pts_nil) (fun _ _ _ _ _ => (pe_fx T0.draw (hr.mono (by decide)) (pa_cons (pv 1) (pa_cons (pv 3) pa_nil))))))
          (C8.pss_cut (ps_setLc (i := 12) (own := [("_law_row", 7)]) (g := gName 7) (tt := tYes) rfl sc_law.nd rfl rfl (sw_true rfl rfl rfl (by decide +kernel)) (pi_sqK K (pv 8)) (blkOk_by (own := [("_law_row", 7)]) (N := ["_law_script", "_law_pen_here", "_law_turn", "_law_prime", "_law_many", "_law_wide", "_law_rows", "_law_row", "_law_kept", "_law_told", "_law_led", "_law_spot", "_law_right", "_law_found", "_law_side", "_law_longer", "_law_a", "_law_b", "_law_k", "_law_one", "_law_two"]) (sc := defScope s_law) (by decide +kernel)) (fun _ _ _ _ _ => pg_name (i := 7) sc_law.nd rfl (Or.inl rfl)) (fun _ _ _ _ _ => pts_nil) (fun _ _ _ _ _ => (pe_callB (cr_sumK K (by rfl)) (by rfl) T0.b_sum (by decide +kernel) (pa_cons (pe_lc (own := [("_law_one", 19), ("_law_two", 20)]) (g := gTup K 2 (gCons (gName 19) (gCons (gName 20) gNil))) (tt := tYes) rfl sc_law.nd (pi_zxK K (by rfl) T0.b_zip (pa_cons (pv 7) (pa_cons (pv 11) pa_nil))) (blkOk_by (own := [("_law_one", 19), ("_law_two", 20)]) (N := ["_law_script", "_law_pen_here", "_law_turn", "_law_prime", "_law_many", "_law_wide", "_law_rows", "_law_row", "_law_kept", "_law_told", "_law_led", "_law_spot", "_law_right", "_law_found", "_law_side", "_law_longer", "_law_a", "_law_b", "_law_k", "_law_one", "_law_two"]) (sc := relS (lcSc (valOf (stL 10))) (defScope s_law)) (by decide +kernel)) (fun _ _ _ _ _ => pg_tup rfl (pgs_cons (pg_name (i := 19) sc_law.nd rfl (Or.inl rfl)) (pgs_cons (pg_name (i := 20) sc_law.nd rfl (Or.inl rfl)) pgs_nil))) (fun _ _ _ _ _ => pts_nil) (fun _ _ _ _ _ => (pe_op op_mul (pv 19) (pv 20)))) pa_nil))))
          (C8.pss_cut (ps_if (pt_cmpR op_eq (pe_fx T0.draw (hr.mono (by decide)) (pa_cons (pv 1) (pa_cons pe_int pa_nil))) pe_int (nomark _)) (pss_one (ps_augS (pv 12) (pe_fx T0.draw (hr.mono (by decide)) (pa_cons (pv 1) (pa_cons (pv 4) pa_nil))) (get_list K) pe_int ip_add set_list)) pss_nil)
          (C8.pss_cut (ps_set (i := 13) sc_law.nd rfl (Or.inl rfl) (pe_fx T0.solved (hr.mono (by decide)) (pa_cons (pv 6) (pa_cons (pe_fx T0.pick (hr.mono (by decide)) (pa_cons (pv 1) (pa_cons (pe_lst (pa_cons (pv 12) (pa_cons (pe_callTy (call_tupK K) (by rfl) T0.b_tuple PySem.Pv.boot_tuple (pa_cons (pv 12) pa_nil)) pa_nil))) pa_nil))) (pa_cons (pv 3) pa_nil)))))
          (C8.pss_cut (ps_setLc (i := 15) (own := [("_law_row", 7), ("_law_side", 14)]) (g := gTup K 2 (gCons (gName 7) (gCons (gName 14) gNil))) (tt := tYes) rfl sc_law.nd rfl rfl (sw_true rfl rfl rfl (by decide +kernel)) (pi_zxK K (by rfl) T0.b_zip (pa_cons (pv 8) (pa_cons (pv 12) pa_nil))) (blkOk_by (own := [("_law_row", 7), ("_law_side", 14)]) (N := ["_law_script", "_law_pen_here", "_law_turn", "_law_prime", "_law_many", "_law_wide", "_law_rows", "_law_row", "_law_kept", "_law_told", "_law_led", "_law_spot", "_law_right", "_law_found", "_law_side", "_law_longer", "_law_a", "_law_b", "_law_k", "_law_one", "_law_two"]) (sc := defScope s_law) (by decide +kernel)) (fun _ _ _ _ _ => pg_tup rfl (pgs_cons (pg_name (i := 7) sc_law.nd rfl (Or.inl rfl)) (pgs_cons (pg_name (i := 14) sc_law.nd rfl (Or.inl rfl)) pgs_nil))) (fun _ _ _ _ _ => pts_nil) (fun _ _ _ _ _ => (pe_op op_cat (pv 7) (pe_lst (pa_cons (pv 14) pa_nil)))))
          (C8.pss_cut (ps_if (pt_cmpR op_ne (pe_cmpR op_notN1 (pv 13) pe_non (nomark _)) (pe_cmpR op_eq (pe_fx T0.rank (hr.mono (by decide)) (pa_cons (pv 15) (pa_cons (pv 3) pa_nil))) (pe_fx T0.rank (hr.mono (by decide)) (pa_cons (pv 8) (pa_cons (pv 3) pa_nil))) (nomark _)) (nomark _)) (pss_one (ps_ret pe_bl)) pss_nil)
          (C8.pss_cut (ps_if (pt_cmpR op_notN1 (pv 13) pe_non (nomark _)) (pss_cons (ps_if (pt_not (pt_val (pe_fx T0.are (hr.mono (by decide)) (pa_cons (pe_tup (pa_cons (pv 13) pa_nil)) (pa_cons (pv 5) (pa_cons (pv 3) pa_nil)))))) (pss_one (ps_ret pe_bl)) pss_nil) (pss_one (ps_for PassesOwn.never rfl (pi_zxK K (by rfl) T0.b_zip (pa_cons (pv 8) (pa_cons (pv 12) pa_nil))) (pg_tup rfl (pgs_cons (pg_name (i := 7) sc_law.nd rfl (Or.inl rfl)) (pgs_cons (pg_name (i := 14) sc_law.nd rfl (Or.inl rfl)) pgs_nil))) (pss_one (ps_if (pt_cmpR op_ne (pe_op op_mod (pe_callTy call_int1 (by rfl) T0.b_int (by decide +kernel) (pa_cons (pe_op op_sub (pe_callB (cr_sumK K (by rfl)) (by rfl) T0.b_sum (by decide +kernel) (pa_cons (pe_lc (own := [("_law_one", 19), ("_law_two", 20)]) (g := gTup K 2 (gCons (gName 19) (gCons (gName 20) gNil))) (tt := tYes) rfl sc_law.nd (pi_zxK K (by rfl) T0.b_zip (pa_cons (pv 7) (pa_cons (pv 13) pa_nil))) (blkOk_by (own := [("_law_one", 19), ("_law_two", 20)]) (N := ["_law_script", "_law_pen_here", "_law_turn", "_law_prime", "_law_many", "_law_wide", "_law_rows", "_law_row", "_law_kept", "_law_told", "_law_led", "_law_spot", "_law_right", "_law_found", "_law_side", "_law_longer", "_law_a", "_law_b", "_law_k", "_law_one", "_law_two"]) (sc := defScope s_law) (by decide +kernel)) (fun _ _ _ _ _ => pg_tup rfl (pgs_cons (pg_name (i := 19) sc_law.nd rfl (Or.inl rfl)) (pgs_cons (pg_name (i := 20) sc_law.nd rfl (Or.inl rfl)) pgs_nil))) (fun _ _ _ _ _ => pts_nil) (fun _ _ _ _ _ => (pe_op op_mul (pv 19) (pv 20)))) pa_nil)) (pv 14)) pa_nil)) (pv 3)) pe_int (nomark _)) (pss_one (ps_ret pe_bl)) pss_nil))))) pss_nil)
          (pss_one (ps_if (pt_cmpR (op_neD hr.units) (pe_lc (own := [("_law_row", 7)]) (g := gName 7) (tt := tYes) rfl sc_law.nd (pi_sqK K (pv 6)) (blkOk_by (own := [("_law_row", 7)]) (N := ["_law_script", "_law_pen_here", "_law_turn", "_law_prime", "_law_many", "_law_wide", "_law_rows", "_law_row", "_law_kept", "_law_told", "_law_led", "_law_spot", "_law_right", "_law_found", "_law_side", "_law_longer", "_law_a", "_law_b", "_law_k", "_law_one", "_law_two"]) (sc := defScope s_law) (by decide +kernel)) (fun _ _ _ _ _ => pg_name (i := 7) sc_law.nd rfl (Or.inl rfl)) (fun _ _ _ _ _ => pts_nil) (fun _ _ _ _ _ => (pe_callTy (call_listK K) (by rfl) T0.b_list (by decide +kernel) (pa_cons (pv 7) pa_nil)))) (pv 8) (nomark _)) (pss_one (ps_ret pe_bl)) pss_nil)))))))))))))))))))
      (pss_one (ps_ret (pe_and (pe_cmpR op_eq (pe_fx T0.rank_of (hr.mono (by decide)) (pa_cons (pe_lst pa_nil) (pa_cons pe_int pa_nil))) pe_int (nomark _)) (pe_and (pe_cmpR (op_eqD hr.units) (pe_fx T0.echelon (hr.mono (by decide)) (pa_cons (pe_lst pa_nil) (pa_cons pe_int pa_nil))) (pe_tup pa_nil) (nomark _)) (pe_one (pe_cmpR op_eq (pe_fx T0.rank_of (hr.mono (by decide)) (pa_cons (pe_lst (pa_cons (pe_tup (pa_cons pe_int (pa_cons pe_int pa_nil))) pa_nil)) (pa_cons pe_int pa_nil))) pe_int (nomark _))))))))), ?_⟩
    have lsz : ∀ {m : Nat}, m ≤ 500 → m < sizeLine := fun h => small1000 (by omega)
    refine ⟨_, rfl, a, ns, rfl, hS, hl, fun p l Hp hp0 hl0 s1 hPen => ?_⟩
    have hPp : PT T Hp p l 0 := ⟨⟨0, Nat.le_refl _, hPen⟩, (Gr.same (T := T) s1).tabs tb⟩
    refine ⟨_, rfl, by decide, by decide, ?_⟩
    refine for_range (lo := 0) (n := 3) (fun i σ' H' => ∃ v2 v3 v4 v5 v6 v7 v8 v9 v10 v11 v12 v13 v14 v15 : Option V, σ' = sg a p v2 v3 v4 v5 v6 v7 v8 v9 v10 v11 v12 v13 v14 v15 ∧ PT T H' p l (i * 200))
      ⟨none, none, none, none, none, none, none, none, none, none, none, none, none, none, rfl, hPp⟩ ?_ ?_
    · rintro i σ' H0 hi ⟨v2, v3, v4, v5, v6, v7, v8, v9, v10, v11, v12, v13, v14, v15, rfl, hP0⟩
      -- the prime
      refine ⟨fun σ' H' => ∃ (v2 : Option V) (q : Nat), σ' = sg a p v2 (some (.int (q : Int))) v4 v5 v6 v7 v8 v9 v10 v11 v12 v13 v14 v15 ∧ M2.Pr q ∧ q ≤ 1000000007 ∧ PT T H' p l (i * 200 + 1), ?_, ?_⟩
      · refine ⟨_, rfl, (by show 6 ≤ sizeLine; exact Nat.le_of_lt (lsz (by decide))), fun l6 hl6 => ?_⟩
        refine ⟨p, l, l6, _, _, rfl, hP0.gr (Gr.new hl6), by omega, .inl (SqL.of upd_same), (by show 0 < 6; decide), (by show 6 < 1000; decide), fun v H' hv hP' e' => ?_⟩
        obtain ⟨q, rfl, pr, top⟩ := prime_mem hv
        exact ⟨_, q, rfl, pr, top, hP'⟩
      rintro σ' H1 ⟨v2, q, rfl, pr, top, hP1⟩
      have q2 := pr.1
      -- how many, how wide
      refine ⟨fun σ' H' => ∃ m n : Nat, σ' = sg a p v2 (some (.int (q : Int))) (some (.int (m : Int))) (some (.int (n : Int))) v6 v7 v8 v9 v10 v11 v12 v13 v14 v15 ∧ 1 ≤ m ∧ m ≤ 6 ∧ 1 ≤ n ∧ n ≤ 6 ∧ PT T H' p l (i * 200 + 3), ?_, ?_⟩
      · refine ⟨_, rfl, p, l, _, 6, rfl, hP1, by omega, by decide, by decide, fun d H2 d0 d1 hP2 e2 => ?_⟩
        refine ⟨_, _, rfl, rfl, _, rfl, p, l, _, 6, rfl, hP2, by omega, by decide, by decide, fun d' H3 d0' d1' hP3 e3 => ?_⟩
        refine ⟨_, _, rfl, rfl, _, _, rfl, (1 + d).toNat, (1 + d').toNat, ?_, by omega, by omega, by omega, by omega, hP3⟩
        rw [show (((1 + d).toNat : Nat) : Int) = 1 + d by omega, show (((1 + d').toNat : Nat) : Int) = 1 + d' by omega]
        rfl
      rintro σ' H2 ⟨m, n, rfl, m1, m6, n1, n6, hP2⟩
      -- the rows
      refine ⟨fun σ' H' => ∃ (u6 : V) (R : List (List Int)), σ' = sg a p v2 (some (.int (q : Int))) (some (.int (m : Int))) (some (.int (n : Int))) (some u6) v7 v8 v9 v10 v11 v12 v13 v14 v15 ∧ R.length = m ∧ (∀ r ∈ R, r.length = n) ∧ MatL (mask p H') u6 R ∧ PT T H' p l (i * 200 + 105), ?_, ?_⟩
      · refine ⟨_, rfl, _, rfl, _, rfl, _, rfl, p, l, _, m, n, q, rfl, hP2, by omega, m6, n6, by omega, by omega, fun u R H' lR wR hM hP' g' => ?_⟩
        exact ⟨u, R, rfl, lR, wR, hM, hP'.mono (by omega)⟩
      rintro σ' H3 ⟨u6, R, rfl, lR, wR, hM3, hP3⟩
      have inp : Inp R n q := ⟨wR, by omega, by omega, pr, top⟩
      -- what is kept
      refine ⟨fun σ' H' => ∃ u8 : V, σ' = sg a p v2 (some (.int (q : Int))) (some (.int (m : Int))) (some (.int (n : Int))) (some u6) v7 (some u8) v9 v10 v11 v12 v13 v14 v15 ∧ MatL (mask p H') u6 R ∧ MatL (mask p H') u8 R ∧ PT T H' p l (i * 200 + 105), ?_, ?_⟩
      · obtain ⟨a6, vs6, rfl, e6, A6⟩ := id hM3
        have e6' := un_mask e6
        refine ⟨_, rfl, a6, vs6, false, rfl, sqL e6', fun D hD => lc_map (T := T) R (fun H v b => RowL (mask p H) v b) walk_sq (by rw [A6.length]) (by rw [A6.length, lR]; exact lsz (by omega)) hD (sqL e6') Ext.sqof (fun _ _ _ _ x h => h.ext x.mask) ?_ ?_⟩
        · rintro j x r H4 H5 Qc Nx hj ⟨rfl, hx⟩ hF g4 hacc kc
          obtain ⟨r', hr', rb, rfl, erb⟩ := A6.get hx
          have er : r' = r := by
            rw [hr'] at hF
            exact Option.some.inj hF
          subst er
          have e5 := g4.ext _ _ (un_mask erb) (fun _ z => by cases z)
          refine ⟨rfl, ?_⟩
          dsimp only [tYes]
          refine iteT ?_
          refine ⟨_, rfl, rb, _, rfl, .inl (SqL.of e5), fun l2 hl2 => kc _ _ (Gr.new hl2) ⟨l2, rfl, ?_⟩⟩
          obtain ⟨acc, ea⟩ := hacc
          rw [mask_ne ((hP3.gr g4).fresh hl2), mask_ne (fun z => by rw [z, ea] at hl2; cases hl2)]
          exact upd_same
        intro H4 ys hD4 hA4 g4
        have nD : D ≠ p := hP3.fresh hD
        exact ⟨_, rfl, hM3.ext g4.mask.ext, ⟨D, ys, rfl, by rw [mask_ne nD]; exact hD4, hA4⟩, hP3.gr g4⟩
      rintro σ' H4 ⟨u8, rfl, hM4, hK4, hP4⟩
      -- perhaps tuples
      refine ⟨fun σ' H' => ∃ u6 : V, σ' = sg a p v2 (some (.int (q : Int))) (some (.int (m : Int))) (some (.int (n : Int))) (some u6) v7 (some u8) v9 v10 v11 v12 v13 v14 v15 ∧ MatV (mask p H') u6 R ∧ MatL (mask p H') u8 R ∧ PT T H' p l (i * 200 + 106), ?_, ?_⟩
      · refine ⟨_, rfl, p, l, _, 2, rfl, hP4, by omega, by decide, by decide, fun d H5 _ _ hP5 e5 => ?_⟩
        refine ⟨rfl, _, rfl, ?_⟩
        have hM5 : MatL (mask p H5) u6 R := by rw [e5]; exact hM4
        have hK5 : MatL (mask p H5) u8 R := by rw [e5]; exact hK4
        refine ite2 (fun _ => ?_) (fun _ => ⟨u6, rfl, hM5.v, hK5, hP5⟩)
        obtain ⟨a6, vs6, rfl, e6, A6⟩ := id hM5
        have e6' := un_mask e6
        refine ⟨_, rfl, a6, vs6, false, rfl, sqL e6', fun D hD => lc_map (T := T) R (fun H v b => RowV (mask p H) v b) walk_sq (by rw [A6.length]) (by rw [A6.length, lR]; exact lsz (by omega)) hD (sqL e6') Ext.sqof (fun _ _ _ _ x h => h.ext x.mask) ?_ ?_⟩
        · rintro j x r H6 H7 Qc Nx hj ⟨rfl, hx⟩ hF g4 hacc kc
          obtain ⟨r', hr', rb, rfl, erb⟩ := A6.get hx
          have er : r' = r := by
            rw [hr'] at hF
            exact Option.some.inj hF
          subst er
          have e7 := g4.ext _ _ (un_mask erb) (fun _ z => by cases z)
          refine ⟨rfl, ?_⟩
          dsimp only [tYes]
          refine iteT ?_
          refine ⟨_, rfl, rb, _, rfl, .inl ⟨SqL.of e7, fun l2 hl2 => kc _ _ (Gr.new hl2) ⟨l2, true, rfl, ?_⟩⟩⟩
          obtain ⟨acc, ea⟩ := hacc
          show mask p (mask D _) l2 = _
          rw [mask_ne ((hP5.gr g4).fresh hl2), mask_ne (fun z => by rw [z, ea] at hl2; cases hl2)]
          exact upd_same
        intro H6 ys hD6 hA6 g6
        have hP6 := hP5.gr g6
        refine ⟨D, ys, rfl, .inl ⟨SqL.of hD6, fun l2 hl2 => ?_⟩⟩
        have g7 : Gr T H6 (upd H6 l2 (.tup ys)) := Gr.new hl2
        refine ⟨_, rfl, ⟨l2, true, ys, rfl, ?_, hA6.mono fun _ _ h => h.ext g7.mask.ext⟩, (hK5.ext g6.mask.ext).ext g7.mask.ext, hP6.gr g7⟩
        show mask p _ l2 = _
        rw [mask_ne (hP6.fresh hl2)]
        exact upd_same
      rintro σ' H5 ⟨u6, rfl, hM5, hK5, hP5⟩
      -- the echelon
      refine ⟨fun σ' H' => ∃ ut : V, σ' = sg a p v2 (some (.int (q : Int))) (some (.int (m : Int))) (some (.int (n : Int))) (some u6) v7 (some u8) (some ut) v10 v11 v12 v13 v14 v15 ∧ MatT (mask p H') ut ((M2.stAt q R n).2.map (·.2)) ∧ Gr T (mask p H5) (mask p H') ∧ PT T H' p l (i * 200 + 106), ?_, ?_⟩
      · refine ⟨_, rfl, _, rfl, u6, R, n, q, rfl, hM5.ext (mask_ext _ _), inp, hP5.tab, fun H' ut g hT => ?_⟩
        exact ⟨ut, rfl, hT.mask (hP5.gr g), g.mask, hP5.gr g⟩
      rintro σ' H6 ⟨ut, rfl, hT6, g6, hP6⟩
      have hM6 := hM5.ext g6.ext
      have hK6 := hK5.ext g6.ext
      have pr31 : q < 2 ^ 31 := by omega
      have ec := M2.ech pr wR
      have lb := M2.bas_ok pr wR
      -- ranks, and the look at it
      refine ⟨fun σ' H' => σ' = sg a p v2 (some (.int (q : Int))) (some (.int (m : Int))) (some (.int (n : Int))) (some u6) v7 (some u8) (some ut) v10 v11 v12 v13 v14 v15 ∧ Gr T (mask p H6) (mask p H') ∧ PT T H' p l (i * 200 + 106), ?_, ?_⟩
      · refine ⟨_, rfl, _, rfl, u6, R, n, q, rfl, hM6.ext (mask_ext _ _), inp, hP6.tab, fun H' g => ?_⟩
        have hP7 := hP6.gr g
        refine ⟨_, rfl, _, rfl, u8, R, n, q, rfl, (hK6.ext g.mask.ext).v.ext (mask_ext _ _), wR, by omega, by omega, pr, pr31, fun H'' g' => ?_⟩
        have g2 := g.trans g'
        refine ⟨rfl, _, rfl, ?_⟩
        rw [M2.rank_same pr lb ec, decide_eq_true rfl]
        refine iteF ?_
        refine ⟨_, rfl, _, rfl, _, rfl, _, rfl, ut, u8, R, n, q, rfl, (hT6.ext g2.mask.ext).ext (mask_ext _ _), (hK6.ext g2.mask.ext).ext (mask_ext _ _), wR, by omega, by omega, pr, pr31, fun H3' g3 => ⟨true, rfl, iteF ⟨rfl, (g2.trans g3).mask, hP6.gr (g2.trans g3)⟩⟩⟩
      rintro σ' H7 ⟨rfl, g7, hP7⟩
      have hM7 := hM6.ext g7.ext
      have hK7 := hK6.ext g7.ext
      have hT7 := hT6.ext g7.ext
      -- led rows
      refine ⟨fun σ' H' => ∃ ul : V, σ' = sg a p v2 (some (.int (q : Int))) (some (.int (m : Int))) (some (.int (n : Int))) (some u6) v7 (some u8) (some ut) (some ul) v11 v12 v13 v14 v15 ∧ MatL (mask p H') ul (ledR R) ∧ Gr T (mask p H7) (mask p H') ∧ PT T H' p l (i * 200 + 106), ?_, ?_⟩
      · obtain ⟨a8, vs8, rfl, e8, A8⟩ := id hK7
        have e8' := un_mask e8
        cases A8 with
        | nil => exact absurd lR (by rw [List.length_nil]; omega)
        | @cons x0 r0 xs R' h0 t0 =>
          obtain ⟨b0, rfl, eb0⟩ := h0
          have eb0' := un_mask eb0
          have lt0 := t0.length
          rw [List.length_cons] at lR
          have w0 := wR r0 List.mem_cons_self
          have cutT : cutV (V.ref b0 :: xs) (some 1) none = xs := by
            unfold cutV
            rw [HT.sIx_none, show (1 : Int) = ((1 : Nat) : Int) from rfl, HT.sIx_nat]
            show ((V.ref b0 :: xs).drop (min 1 (xs.length + 1))).take (xs.length + 1 - min 1 (xs.length + 1)) = xs
            rw [show min 1 (xs.length + 1) = 1 by omega]
            show xs.take _ = xs
            exact List.take_of_length_le (by omega)
          refine ⟨_, rfl, _, rfl, a8, _, rfl, SqL.of e8', fun sl hsl => ?_⟩
          rw [cutT]
          have gs : Gr T H7 (upd H7 sl (.lst xs)) := Gr.new hsl
          have hP8 := hP7.gr gs
          refine ⟨sl, xs, false, rfl, sqL upd_same, fun D hD => lc_map (T := T) (R'.map fun r => List.zipWith (fun x y => x + 3 * y) r r0) (fun H v b => RowL (mask p H) v b) walk_sq (by rw [List.length_map]; exact lt0) (lsz (by omega)) hD (sqL upd_same) Ext.sqof (fun _ _ _ _ x h => h.ext x.mask) ?_ ?_⟩
          · rintro j x r H8 H9 Qc Nx hj ⟨rfl, hx⟩ hF g4 ⟨acc, ea⟩ kc
            obtain ⟨r', hr', rb, rfl, erb⟩ := t0.get hx
            have wr := wR r' (List.mem_cons_of_mem _ (List.mem_of_getElem? hr'))
            have er : List.zipWith (fun x y => x + 3 * y) r' r0 = r := by
              rw [List.getElem?_map, hr'] at hF
              exact Option.some.inj hF
            have er1 := (gs.trans g4).ext _ _ (un_mask erb) (fun _ z => by cases z)
            have er2 := (gs.trans g4).ext _ _ eb0' (fun _ z => by cases z)
            have er3 := (gs.trans g4).ext _ _ e8' (fun _ z => by cases z)
            refine ⟨rfl, ?_⟩
            dsimp only [tYes]
            refine iteT ?_
            refine ⟨_, rfl, _, rfl, false, a8, _, 0, _, rfl, rfl, er3, rfl, rb, b0, _, _, false, false, rfl, sqL er1, sqL er2, fun D2 hD2 => lc_map (T := T) r IntV (walk_zx (by rw [List.length_map, List.length_map, wr, w0])) (by rw [← er, List.length_map, List.length_zipWith]; omega) (by rw [List.length_map, wr]; exact lsz (by omega)) hD2 ⟨sqL er1, sqL er2⟩
              (fun H H' x h => ⟨x.sq h.1, x.sq h.2⟩) (fun _ _ _ _ _ h => h) ?_ ?_⟩
            · rintro k2 x y H10 H11 Qd Ny hk ⟨Tp, x1, x2, rfl, hT, rfl, e1, e2⟩ hG g5 hacc2 kd
              obtain ⟨z1, hz1, rfl⟩ := row_at e1
              obtain ⟨z2, hz2, rfl⟩ := row_at e2
              refine ⟨Tp, _, rfl, SqT.of upd_same, rfl, _, _, rfl, _, _, rfl, rfl, ?_⟩
              refine ⟨rfl, ?_⟩
              dsimp only [tYes]
              refine iteT ?_
              refine ⟨_, rfl, _, rfl, _, _, rfl, rfl, .inl ⟨by decide, by decide⟩, _, _, rfl, rfl, kd _ _ (Gr.new hT) ?_⟩
              rw [← er, List.getElem?_zipWith, hz1, hz2] at hG
              have := Option.some.inj hG
              show V.int _ = V.int _
              rw [← this]
            · intro H10 ys hD10 hA10 g10
              have nD2 : D2 ≠ p := (hP8.gr g4).fresh hD2
              refine kc _ _ g10 ⟨D2, rfl, ?_⟩
              rw [mask_ne nD2, mask_ne (fun z => by rw [z, ea] at hD2; cases hD2), ← all_int hA10]
              exact hD10
          intro H8 ys hD8 hA8 g8
          have gg := gs.trans g8
          have hP9 := hP8.gr g8
          have e9 := gg.ext _ _ e8' (fun _ z => by cases z)
          refine ⟨_, rfl, false, a8, _, 0, _, rfl, rfl, e9, rfl, (by show 1 ≤ sizeLine; exact Nat.le_of_lt (lsz (by decide))), fun q1 hq1 => ?_⟩
          have g9 : Gr T H8 (upd H8 q1 (.lst [.ref b0])) := Gr.new hq1
          have e10 := g9.ext _ _ hD8 (fun _ z => by cases z)
          have ly := hA8.length
          rw [List.length_map] at ly
          refine ⟨D, q1, ys, [.ref b0], rfl, rfl, e10, upd_same, ?_, fun q2 hq2 => ?_⟩
          · rw [List.length_singleton]
            exact Nat.le_of_lt (lsz (by omega))
          have g10 : Gr T (upd H8 q1 (.lst [.ref b0])) (upd (upd H8 q1 (.lst [.ref b0])) q2 (.lst (ys ++ [.ref b0]))) := Gr.new hq2
          have nq2 : q2 ≠ p := (hP9.gr g9).fresh hq2
          refine ⟨_, rfl, ⟨q2, _, rfl, by rw [mask_ne nq2]; exact upd_same, ?_⟩, ((gg.trans g9).trans g10).mask, (hP9.gr g9).gr g10⟩
          refine All2.app (hA8.mono fun _ _ h => h.ext (g9.trans g10).mask.ext) (.cons ?_ .nil)
          exact (show RowL (mask p H7) (.ref b0) r0 from ⟨b0, rfl, eb0⟩).ext ((gg.trans g9).trans g10).mask.ext
      rintro σ' H8 ⟨ul, rfl, hL8, g8, hP8⟩
      have hM8 := hM7.ext g8.ext
      have hK8 := hK7.ext g8.ext
      have hT8 := hT7.ext g8.ext
      -- the same echelon
      refine ⟨fun σ' H' => σ' = sg a p v2 (some (.int (q : Int))) (some (.int (m : Int))) (some (.int (n : Int))) (some u6) v7 (some u8) (some ut) (some ul) v11 v12 v13 v14 v15 ∧ Gr T (mask p H8) (mask p H') ∧ PT T H' p l (i * 200 + 106), ?_, ?_⟩
      · have lled : (ledR R).length ≤ 500 := by
          cases R with
          | nil => exact Nat.zero_le _
          | cons r0 R' =>
            show (R'.map _ ++ [r0]).length ≤ 500
            rw [List.length_append, List.length_map, List.length_singleton]
            rw [List.length_cons] at lR
            omega
        refine ⟨_, rfl, _, rfl, ul, ledR R, n, q, rfl, hL8.v.ext (mask_ext _ _), ⟨ledR_len wR, lled, by omega, pr, top⟩, hP8.tab, fun H' ue g hE => ?_⟩
        rw [led_same pr wR] at hE
        refine ⟨_, rfl, _, _, dp_matT hE, dp_matT ((hT8.ext g.mask.ext).ext (mask_ext _ _)), sh_tup (sh_tups _), sh_tup (sh_tups _), _, rfl, ?_⟩
        rw [eqv_tup (sh_tups _)]
        exact iteF ⟨rfl, g.mask, hP8.gr g⟩
      rintro σ' H9 ⟨rfl, g9, hP9⟩
      have hM9 := hM8.ext g9.ext
      have hK9 := hK8.ext g9.ext
      -- a spot
      refine ⟨fun σ' H' => ∃ (us : V) (sp : List Int), σ' = sg a p v2 (some (.int (q : Int))) (some (.int (m : Int))) (some (.int (n : Int))) (some u6) v7 (some u8) (some ut) (some ul) (some us) v12 v13 v14 v15 ∧ RowL (mask p H') us sp ∧ sp.length = n ∧ (∀ z ∈ sp, 0 ≤ z ∧ z < (q : Int)) ∧ Gr T (mask p H9) (mask p H') ∧ PT T H' p l (i * 200 + 112), ?_, ?_⟩
      · refine ⟨_, rfl, _, rfl, by omega, by omega, ?_⟩
        rw [Int.toNat_natCast]
        refine fun D1 hD1 => lc_ints (T := T) (p := p) (l := l) (i * 200 + 106) 1 (fun z => 0 ≤ z ∧ z < (q : Int)) walk_range (lsz (by omega)) hD1 (fun _ => True.intro) hP9 ?_ ?_
        · rintro j y H10 H11 Qc Nx hj hy hP10 kY
          obtain ⟨rfl, rfl⟩ := hy
          refine ⟨rfl, ?_⟩
          dsimp only [tYes]
          refine iteT ?_
          refine ⟨_, rfl, _, rfl, p, l, _, q, rfl, hP10, by omega, by omega, by omega, fun d H12 d0 d1 hP12 e12 => kY d H12 ⟨d0, d1⟩ (hP12.mono (by omega)) (Gr.of_eq e12)⟩
        intro H10 zs eD1 lz cz hP10 g10
        have nD1 : D1 ≠ p := hP9.fresh hD1
        exact ⟨_, zs, rfl, RowL.at eD1 nD1, lz, cz, g10, hP10.mono (by omega)⟩
      rintro σ' H10 ⟨us, sp, rfl, hS10, lsp, csp, g10, hP10⟩
      have hM10 := hM9.ext g10.ext
      have hK10 := hK9.ext g10.ext
      -- right sides
      refine ⟨fun σ' H' => ∃ (ur : Addr) (b : List Int), σ' = sg a p v2 (some (.int (q : Int))) (some (.int (m : Int))) (some (.int (n : Int))) (some u6) v7 (some u8) (some ut) (some ul) (some us) (some (.ref ur)) v13 v14 v15 ∧ mask p H' ur = some (.lst (b.map V.int)) ∧ b.length = m ∧ mask p H10 ur = none ∧ ur ≠ p ∧ ur ≠ l ∧ Gr T (mask p H10) (mask p H') ∧ PT T H' p l (i * 200 + 112), ?_, ?_⟩
      · obtain ⟨a8, vs8, rfl, e8, A8⟩ := id hK10
        have e8' := un_mask e8
        obtain ⟨as, rfl, es⟩ := id hS10
        have es' := un_mask es
        refine ⟨_, rfl, a8, vs8, false, rfl, sqL e8', fun D hD => lc_map (T := T) (R.map fun r => dotL r sp) IntV walk_sq (by rw [List.length_map, A8.length]) (by rw [A8.length, lR]; exact lsz (by omega)) hD (sqL e8') Ext.sqof (fun _ _ _ _ _ h => h) ?_ ?_⟩
        · rintro j x r H11 H12 Qc Nx hj ⟨rfl, hx⟩ hF g4 ⟨acc, ea⟩ kc
          obtain ⟨r', hr', rb, rfl, erb⟩ := A8.get hx
          have wr := wR r' (List.mem_of_getElem? hr')
          have er : dotL r' sp = r := by
            rw [List.getElem?_map, hr'] at hF
            exact Option.some.inj hF
          have er1 := g4.ext _ _ (un_mask erb) (fun _ z => by cases z)
          have er2 := g4.ext _ _ es' (fun _ z => by cases z)
          refine ⟨rfl, ?_⟩
          dsimp only [tYes]
          refine iteT ?_
          refine ⟨_, rfl, _, rfl, rb, as, _, _, false, false, rfl, sqL er1, sqL er2, fun D2 hD2 => lc_map (T := T) (List.zipWith (· * ·) r' sp) IntV (walk_zx (by rw [List.length_map, List.length_map, wr, lsp])) (by rw [List.length_map, List.length_zipWith]; omega) (by rw [List.length_map, wr]; exact lsz (by omega)) hD2 ⟨sqL er1, sqL er2⟩
            (fun H H' x h => ⟨x.sq h.1, x.sq h.2⟩) (fun _ _ _ _ _ h => h) ?_ ?_⟩
          · rintro k2 x y H13 H14 Qd Ny hk ⟨Tp, x1, x2, rfl, hT, rfl, e1, e2⟩ hG g5 hacc2 kd
            obtain ⟨z1, hz1, rfl⟩ := row_at e1
            obtain ⟨z2, hz2, rfl⟩ := row_at e2
            have cz := csp z2 (List.mem_of_getElem? hz2)
            refine ⟨Tp, _, rfl, SqT.of upd_same, rfl, _, _, rfl, _, _, rfl, rfl, ?_⟩
            refine ⟨rfl, ?_⟩
            dsimp only [tYes]
            refine iteT ?_
            refine ⟨_, rfl, _, rfl, _, _, rfl, rfl, .inr ⟨by omega, by omega⟩, kd _ _ (Gr.new hT) ?_⟩
            rw [List.getElem?_zipWith, hz1, hz2] at hG
            have := Option.some.inj hG
            show V.int _ = V.int _
            rw [← this]
          · intro H13 ys hD13 hA13 g13
            rw [all_int hA13] at hD13
            refine ⟨D2, _, rfl, SqL.of hD13, kc _ _ g13 ?_⟩
            show V.int _ = V.int _
            rw [← er]
            rfl
        intro H11 ys hD11 hA11 g11
        have nD : D ≠ p := hP10.fresh hD
        rw [all_int hA11] at hD11
        exact ⟨D, R.map fun r => dotL r sp, rfl, by rw [mask_ne nD]; exact hD11, by rw [List.length_map]; exact lR, by rw [mask_ne nD]; exact hD, nD, hP10.nel hD, g11.mask, hP10.gr g11⟩
      rintro σ' H11 ⟨ur, b, rfl, hB11, lb11, ur0, urp, url, g11, hP11⟩
      have hM11 := hM10.ext g11.ext
      have hK11 := hK10.ext g11.ext
      -- perhaps moved by one
      refine ⟨fun σ' H' => ∃ b : List Int, σ' = sg a p v2 (some (.int (q : Int))) (some (.int (m : Int))) (some (.int (n : Int))) (some u6) v7 (some u8) (some ut) (some ul) (some us) (some (.ref ur)) v13 v14 v15 ∧ mask p H' ur = some (.lst (b.map V.int)) ∧ b.length = m ∧ Gr T (mask p H10) (mask p H') ∧ PT T H' p l (i * 200 + 114), ?_, ?_⟩
      · refine ⟨_, rfl, p, l, _, 2, rfl, hP11, by omega, by decide, by decide, fun d H12 _ _ hP12 e12 => ?_⟩
        refine ⟨rfl, _, rfl, ?_⟩
        refine ite2 (fun _ => ?_) (fun _ => ⟨b, rfl, by rw [e12]; exact hB11, lb11, by rw [e12]; exact g11, hP12.mono (by omega)⟩)
        refine ⟨_, rfl, _, rfl, _, rfl, p, l, _, m, rfl, hP12, by omega, by omega, by omega, fun d H13 d0 d1 hP13 e13 => ?_⟩
        have e1 : mask p H13 ur = some (.lst (b.map V.int)) := by rw [e13, e12]; exact hB11
        have e2 := un_mask e1
        have hk : d.toNat < b.length := by omega
        refine ⟨ur, _, d.toNat, _, rfl, by rw [Int.toNat_of_nonneg d0], SqL.of e2, by rw [List.getElem?_map, List.getElem?_eq_getElem hk]; rfl, _, _, rfl, rfl, ur, _, d, d.toNat, rfl, rfl, e2, ?_, ?_⟩
        · unfold ixN
          rw [List.length_map, if_pos d0, if_pos (by omega)]
        refine ⟨b.set d.toNat (b[d.toNat] + 1), rfl, ?_, by rw [List.length_set]; exact lb11, ?_, (hP13.upd e2 url).mono (by omega)⟩
        · rw [mask_ne urp, upd_same, List.map_set]
        · rw [mask_upd_ne urp, e13, e12]
          exact g11.upd ur0
      clear hB11 lb11 b
      rintro σ' H12 ⟨b, rfl, hB12, lb12, g1012, hP12⟩
      have hM12 := hM10.ext g1012.ext
      have hK12 := hK10.ext g1012.ext
      have lbR : b.length = R.length := by omega
      have Rne : R ≠ [] := fun z => by
        rw [z, List.length_nil] at lR
        omega
      have ecA := M2.ech pr (aug_len (b := b) wR)
      have lbA := M2.bas_ok pr (aug_len (b := b) wR)
      have lenA : (aug R b).length ≤ 500 := by
        unfold aug
        rw [List.length_zipWith]
        omega
      have nIff := none_iff pr wR lbR ecA ec
      have rkA := M2.rank_same pr lbA ecA
      have rk0 := M2.rank_same pr lb ec
      -- an answer
      refine ⟨fun σ' H' => ∃ uf : V, σ' = sg a p v2 (some (.int (q : Int))) (some (.int (m : Int))) (some (.int (n : Int))) (some u6) v7 (some u8) (some ut) (some ul) (some us) (some (.ref ur)) (some uf) v14 v15 ∧ ((uf = .non ∧ ∃ d ∈ (M2.stAt q (aug R b) (n + 1)).2, d.1 = n) ∨ ∃ xs, (∀ d ∈ (M2.stAt q (aug R b) (n + 1)).2, d.1 ≠ n) ∧ RowT (mask p H') uf xs ∧ Ans (M2.stAt q (aug R b) (n + 1)).2 n xs) ∧ Gr T (mask p H12) (mask p H') ∧ PT T H' p l (i * 200 + 115), ?_, ?_⟩
      · have eb := un_mask hB12
        refine ⟨_, rfl, _, rfl, _, rfl, _, rfl, ur, _, rfl, .inl ⟨SqL.of eb, fun lt hlt => ?_⟩⟩
        have gt : Gr T H12 (upd H12 lt (.tup (b.map V.int))) := Gr.new hlt
        refine ⟨(by show 2 ≤ sizeLine; exact Nat.le_of_lt (lsz (by decide))), fun ll hll => ?_⟩
        have gt2 : Gr T (upd H12 lt (.tup (b.map V.int))) (upd (upd H12 lt (.tup (b.map V.int))) ll (.lst [.ref ur, .ref lt])) := Gr.new hll
        refine ⟨p, l, ll, _, _, rfl, (hP12.gr gt).gr gt2, by omega, .inl (SqL.of upd_same), (by show 0 < 2; decide), (by show 2 < 1000; decide), fun vb Hb hvb hPb eb' => ?_⟩
        have gtb : Gr T (mask p H12) (mask p Hb) := by
          rw [eb']
          exact (gt.trans gt2).mask
        have rowb : RowV (mask p Hb) vb b := by
          rw [eb']
          refine RowV.ext gt2.mask.ext ?_
          rcases List.mem_cons.mp hvb with rfl | hvb
          · exact ⟨ur, false, rfl, gt.mask.ext _ _ hB12 (fun _ z => by cases z)⟩
          · rw [List.mem_singleton.mp hvb]
            refine ⟨lt, true, rfl, ?_⟩
            show mask p _ lt = _
            rw [mask_ne (hP12.fresh hlt)]
            exact upd_same
        refine ⟨_, rfl, u6, vb, R, b, n, q, rfl, (hM12.ext gtb.ext).ext (mask_ext _ _), rowb.ext (mask_ext _ _), lbR, Rne, inp, hPb.tab, fun H' g ex => ?_, fun H' u xs g no hu an => ?_⟩
        · exact ⟨.non, rfl, .inl ⟨rfl, ex⟩, gtb.trans g.mask, (hPb.gr g).mono (by omega)⟩
        · exact ⟨u, rfl, .inr ⟨xs, no, hu.mask (hPb.gr g), an⟩, gtb.trans g.mask, (hPb.gr g).mono (by omega)⟩
      rintro σ' H13 ⟨uf, rfl, hF13, g13, hP13⟩
      have hM13 := hM12.ext g13.ext
      have hK13 := hK12.ext g13.ext
      have hB13 := g13.ext _ _ hB12 (fun _ z => by cases z)
      -- longer rows
      refine ⟨fun σ' H' => ∃ ug : V, σ' = sg a p v2 (some (.int (q : Int))) (some (.int (m : Int))) (some (.int (n : Int))) (some u6) v7 (some u8) (some ut) (some ul) (some us) (some (.ref ur)) (some uf) v14 (some ug) ∧ MatL (mask p H') ug (aug R b) ∧ Gr T (mask p H13) (mask p H') ∧ PT T H' p l (i * 200 + 115), ?_, ?_⟩
      · obtain ⟨a8, vs8, rfl, e8, A8⟩ := id hK13
        have e8' := un_mask e8
        have eb' := un_mask hB13
        refine ⟨_, rfl, _, rfl, a8, ur, _, _, false, false, rfl, sqL e8', sqL eb', fun D hD => lc_map (T := T) (aug R b) (fun H v b => RowL (mask p H) v b) (walk_zx (by rw [List.length_map, A8.length, lbR])) (by unfold aug; rw [List.length_zipWith, A8.length, lbR]; omega) (by rw [A8.length]; exact lsz (by omega)) hD ⟨sqL e8', sqL eb'⟩ (fun H H' x h => ⟨x.sq h.1, x.sq h.2⟩) (fun _ _ _ _ x h => h.ext x.mask) ?_ ?_⟩
        · rintro j x y H14 H15 Qc Nx hj ⟨Tp, x1, x2, rfl, hT, rfl, e1, e2⟩ hF g4 ⟨acc, ea⟩ kc
          obtain ⟨r, hr1, rb, rfl, erb⟩ := A8.get e1
          obtain ⟨z, hz, rfl⟩ := row_at e2
          have wr := wR r (List.mem_of_getElem? hr1)
          have gT : Gr T H14 (upd H14 Tp (.tup [.ref rb, .int z])) := Gr.new hT
          have er := (g4.trans gT).ext _ _ (un_mask erb) (fun _ z => by cases z)
          refine ⟨Tp, _, rfl, SqT.of upd_same, rfl, _, _, rfl, _, _, rfl, rfl, ?_⟩
          refine ⟨rfl, ?_⟩
          dsimp only [tYes]
          refine iteT ?_
          refine ⟨_, rfl, _, rfl, (by show 1 ≤ sizeLine; exact Nat.le_of_lt (lsz (by decide))), fun q1 hq1 => ?_⟩
          have g5 : Gr T (upd H14 Tp (.tup [.ref rb, .int z])) (upd (upd H14 Tp (.tup [.ref rb, .int z])) q1 (.lst [.int z])) := Gr.new hq1
          refine ⟨rb, q1, _, _, rfl, rfl, g5.ext _ _ er (fun _ z => by cases z), upd_same, ?_, fun q2 hq2 => ?_⟩
          · rw [List.length_map, wr]
            exact Nat.le_of_lt (lsz (by show n + 1 ≤ 500; omega))
          have gT5 := gT.trans g5
          refine kc _ _ (gT5.trans (Gr.new hq2)) ⟨q2, rfl, ?_⟩
          have e5 := gT5.ext _ _ ea (fun _ z => by cases z)
          rw [mask_ne (((hP13.gr g4).gr gT5).fresh hq2), mask_ne (fun z => by rw [z, e5] at hq2; cases hq2), upd_same]
          unfold aug at hF
          rw [List.getElem?_zipWith, hr1, hz] at hF
          rw [← Option.some.inj hF, List.map_append]
          rfl
        intro H14 ys hD14 hA14 g14
        have nD : D ≠ p := hP13.fresh hD
        exact ⟨_, rfl, ⟨D, ys, rfl, by rw [mask_ne nD]; exact hD14, hA14⟩, g14.mask, hP13.gr g14⟩
      rintro σ' H14 ⟨ug, rfl, hG14, g14, hP14⟩
      have hM14 := hM13.ext g14.ext
      have hK14 := hK13.ext g14.ext
      have hB14 := g14.ext _ _ hB13 (fun _ z => by cases z)
      -- none exactly if the rank is raised
      refine ⟨fun σ' H' => σ' = sg a p v2 (some (.int (q : Int))) (some (.int (m : Int))) (some (.int (n : Int))) (some u6) v7 (some u8) (some ut) (some ul) (some us) (some (.ref ur)) (some uf) v14 (some ug) ∧ Gr T (mask p H14) (mask p H') ∧ PT T H' p l (i * 200 + 115), ?_, ?_⟩
      · refine ⟨_, rfl, rfl, _, rfl, _, rfl, ug, aug R b, n + 1, q, rfl, hG14.v.ext (mask_ext _ _), aug_len wR, lenA, by omega, pr, pr31, fun H' g => ?_⟩
        refine ⟨_, rfl, _, rfl, u8, R, n, q, rfl, (hK14.ext g.mask.ext).v.ext (mask_ext _ _), wR, by omega, by omega, pr, pr31, fun H'' g' => ?_⟩
        refine ⟨rfl, rfl, _, rfl, ?_⟩
        rw [rkA, rk0]
        have val : (!decide (uf = .non)) = decide (V.int (((M2.stAt q (aug R b) (n + 1)).2.length : Nat) : Int) = V.int (((M2.stAt q R n).2.length : Nat) : Int)) := by
          rcases hF13 with ⟨rfl, ex⟩ | ⟨xs, no, ⟨af, rfl, _⟩, _⟩
          · have ne := nIff.mp ex
            rw [decide_eq_true rfl, decide_eq_false (fun z => ne (by injection z with z; omega))]
            rfl
          · have e : (M2.stAt q (aug R b) (n + 1)).2.length = (M2.stAt q R n).2.length := Classical.byContradiction fun z => by
              obtain ⟨d, hd, e⟩ := nIff.mpr z
              exact no d hd e
            rw [e, decide_eq_true rfl, decide_eq_false (fun z => by cases z)]
            rfl
        rw [val, decide_eq_true rfl]
        exact iteF ⟨rfl, (g.trans g').mask, hP14.gr (g.trans g')⟩
      rintro σ' H15 ⟨rfl, g15, hP15⟩
      have hM15 := hM14.ext g15.ext
      have hK15 := hK14.ext g15.ext
      have hB15 := g15.ext _ _ hB14 (fun _ z => by cases z)
      -- the answer put in
      refine ⟨fun σ' H' => ∃ v7 v14 : Option V, σ' = sg a p v2 (some (.int (q : Int))) (some (.int (m : Int))) (some (.int (n : Int))) (some u6) v7 (some u8) (some ut) (some ul) (some us) (some (.ref ur)) (some uf) v14 (some ug) ∧ Gr T (mask p H15) (mask p H') ∧ PT T H' p l (i * 200 + 115), ?_, ?_⟩
      · refine ⟨_, rfl, rfl, _, rfl, ?_⟩
        rcases hF13 with ⟨rfl, ex⟩ | ⟨xs, no, hX, an⟩
        · rw [decide_eq_true rfl]
          exact iteF ⟨_, _, rfl, .refl T _, hP15⟩
        have hX15 := (hX.ext g14.ext).ext g15.ext
        obtain ⟨ax, rfl, tx⟩ := id hX15
        rw [decide_eq_false (fun z => by cases z)]
        refine iteT ?_
        have rx := sol_rng (by omega) ecA an
        have tx' := tx.ext (mask_ext _ _)
        refine ⟨_, rfl, (by show 1 ≤ sizeLine; exact Nat.le_of_lt (lsz (by decide))), fun q1 hq1 => ?_⟩
        have g1 : Gr T H15 (upd H15 q1 (.tup [.ref ax])) := Gr.new hq1
        refine ⟨_, rfl, _, rfl, .ref q1, [xs], n, q, rfl, ⟨q1, _, rfl, upd_same, .cons ⟨ax, rfl, tx'.ext g1.ext⟩ .nil⟩, (fun r hr => by rw [List.mem_singleton.mp hr]; exact rx), by omega, fun H16 g16 => ⟨true, rfl, iteF ?_⟩⟩
        have gg := g1.trans g16
        obtain ⟨a8, vs8, rfl, e8, A8⟩ := id hK15
        have e8' := gg.ext _ _ (un_mask e8) (fun _ z => by cases z)
        have eb' := gg.ext _ _ (un_mask hB15) (fun _ z => by cases z)
        refine ⟨_, rfl, _, rfl, a8, ur, _, _, false, false, rfl, sqL e8', sqL eb', for_it (walk_zx (by rw [List.length_map, A8.length, lbR])) (fun j σ' H' => ∃ v7 v14 : Option V, σ' = sg a p v2 (some (.int (q : Int))) (some (.int (m : Int))) (some (.int (n : Int))) (some u6) v7 (some (.ref a8)) (some ut) (some ul) (some us) (some (.ref ur)) (some (.ref ax)) v14 (some ug) ∧ Gr T H15 H')
          ⟨_, _, rfl, gg⟩ (fun j σ' H' _ ⟨_, _, _, g⟩ => ⟨sqL (g.ext _ _ (un_mask e8) (fun _ z => by cases z)), sqL (g.ext _ _ (un_mask hB15) (fun _ z => by cases z))⟩) ?_ (fun σ' H' ⟨v7, v14, e, g⟩ => ⟨v7, v14, e, g.mask, hP15.gr g⟩)⟩
        rintro j x σ' H17 H18 hj ⟨v7, v14, rfl, g17⟩ ⟨Tp, x1, x2, rfl, hT, rfl, e1, e2⟩
        obtain ⟨r, hr1, rb, rfl, erb⟩ := A8.get e1
        obtain ⟨z, hz, rfl⟩ := row_at e2
        have jR := (List.getElem?_eq_some_iff.mp hr1).1
        have jb := (List.getElem?_eq_some_iff.mp hz).1
        have erj : R[j] = r := (List.getElem?_eq_some_iff.mp hr1).2
        have ezj : b[j] = z := (List.getElem?_eq_some_iff.mp hz).2
        have wr := wR r (List.mem_of_getElem? hr1)
        have gT : Gr T H17 (upd H17 Tp (.tup [.ref rb, .int z])) := Gr.new hT
        have g18 := g17.trans gT
        have er := g18.ext _ _ (un_mask erb) (fun _ z => by cases z)
        have tx18 := tx'.ext g18.ext
        refine ⟨Tp, _, rfl, SqT.of upd_same, rfl, _, _, rfl, _, _, rfl, rfl, ?_⟩
        refine ⟨_, rfl, _, rfl, rb, ax, _, _, false, true, rfl, sqL er, tx18.sq, fun D hD => lc_map (T := T) (List.zipWith (· * ·) r xs) IntV (walk_zx (by rw [List.length_map, List.length_map, wr, an.len])) (by rw [List.length_map, List.length_zipWith, wr, an.len]; omega) (by rw [List.length_map, wr]; exact lsz (by omega)) hD ⟨sqL er, (show SqOf true K _ _ _ from tx18.sq)⟩
          (fun H H' x h => ⟨x.sq h.1, x.sq h.2⟩) (fun _ _ _ _ _ h => h) ?_ ?_⟩
        · rintro k2 x y H13 H14 Qd Ny hk ⟨Tp, x1, x2, rfl, hT, rfl, e1, e2⟩ hG g5 hacc2 kd
          obtain ⟨z1, hz1, rfl⟩ := row_at e1
          obtain ⟨z2, hz2, rfl⟩ := row_at e2
          have cz := rx.2 z2 (List.mem_of_getElem? hz2)
          refine ⟨Tp, _, rfl, SqT.of upd_same, rfl, _, _, rfl, _, _, rfl, rfl, ?_⟩
          refine ⟨rfl, ?_⟩
          dsimp only [tYes]
          refine iteT ?_
          refine ⟨_, rfl, _, rfl, _, _, rfl, rfl, .inr ⟨by omega, by omega⟩, kd _ _ (Gr.new hT) ?_⟩
          rw [List.getElem?_zipWith, hz1, hz2] at hG
          have := Option.some.inj hG
          show V.int _ = V.int _
          rw [← this]
        intro H19 ys hD19 hA19 g19
        rw [all_int hA19] at hD19
        have dv := sol_ok wR lbR ecA no an jR jb
        rw [erj, ezj] at dv
        refine ⟨D, _, rfl, SqL.of hD19, _, rfl, _, _, rfl, rfl, .inl ⟨_, rfl, ?_⟩⟩
        refine ⟨_, rfl, _, _, rfl, rfl, (by omega), rfl, _, rfl, ?_⟩
        refine ite2 (fun h1 => ?_) (fun _ => ⟨_, _, rfl, g18.trans g19⟩)
        exfalso
        have e0 : (dotL r xs - z) % (q : Int) = 0 := Int.emod_eq_zero_of_dvd dv
        have h1 : (!decide (V.int ((dotL r xs - z) % (q : Int)) = V.int 0)) = true := h1
        rw [e0] at h1
        exact absurd h1 (by decide)
      rintro σ' H16 ⟨v7, v14, rfl, g16, hP16⟩
      have hM16 := hM15.ext g16.ext
      have hK16 := hK15.ext g16.ext
      -- what was passed stays
      obtain ⟨a6, t6, vs6, rfl, e6, A6⟩ := hM16.ext (mask_ext _ _)
      refine ⟨_, rfl, a6, vs6, t6, rfl, e6.sq, fun D hD => lc_map (T := T) R RowL walk_sq (by rw [A6.length]) (by rw [A6.length, lR]; exact lsz (by omega)) hD e6.sq Ext.sqof (fun _ _ _ _ x h => h.ext x) ?_ ?_⟩
      · rintro j x r H17 H18 Qc Nx hj ⟨rfl, hx⟩ hF g4 hacc kc
        obtain ⟨r', hr', rb, t7, rfl, erb⟩ := A6.get hx
        have er : r' = r := by
          rw [hr'] at hF
          exact Option.some.inj hF
        subst er
        have e5 := g4.ext.sqh erb
        refine ⟨rfl, ?_⟩
        dsimp only [tYes]
        refine iteT ?_
        refine ⟨_, rfl, rb, r'.map V.int, rfl, ?_, fun l2 hl2 => kc _ _ (Gr.new hl2) ⟨l2, rfl, ?_⟩⟩
        · cases t7
          · exact .inl (SqL.of e5)
          · exact .inr (SqT.of e5)
        obtain ⟨acc, ea⟩ := hacc
        rw [mask_ne (fun z => by rw [z, ea] at hl2; cases hl2)]
        exact upd_same
      intro H17 ys hD17 hA17 g17
      refine ⟨_, rfl, _, _, dp_matL ⟨D, ys, rfl, hD17, hA17⟩, dp_matL ((hK16.ext g17.mask.ext).ext (mask_ext _ _)), sh_list (sh_lists _), sh_list (sh_lists _), _, rfl, ?_⟩
      rw [eqv_list (sh_lists _)]
      exact iteF ⟨_, _, _, _, _, _, _, _, _, _, _, _, _, _, rfl, (hP16.gr g17).mono (by omega)⟩
    · rintro σ' H1 ⟨v2, v3, v4, v5, v6, v7, v8, v9, v10, v11, v12, v13, v14, v15, rfl, hP1⟩
      have inp5 : Inp [] 0 5 := ⟨(fun r hr => by cases hr), by decide, by decide, M2.pr5, by decide⟩
      refine ⟨(by show 0 ≤ sizeLine; exact Nat.zero_le _), fun q0 hq0 => ?_⟩
      have g0 : Gr T H1 (upd H1 q0 (.lst [])) := Gr.new hq0
      refine ⟨.ref q0, [], 0, 5, rfl, ⟨q0, false, [], rfl, upd_same, .nil⟩, inp5, (hP1.gr g0).tab, fun H2 g2 => ⟨rfl, true, rfl, iteT ?_⟩⟩
      have g02 := g0.trans g2
      refine ⟨(by show 0 ≤ sizeLine; exact Nat.zero_le _), fun q1 hq1 => ?_⟩
      have g3 : Gr T H2 (upd H2 q1 (.lst [])) := Gr.new hq1
      refine ⟨.ref q1, [], 0, 5, rfl, ⟨q1, false, [], rfl, upd_same, .nil⟩, inp5, ((hP1.gr g02).gr g3).tab, fun H4 ue g4 hE => ?_⟩
      have g04 := (g02.trans g3).trans g4
      refine ⟨(by show 0 ≤ sizeLine; exact Nat.zero_le _), fun q2 hq2 => ?_⟩
      have g5 : Gr T H4 (upd H4 q2 (.tup [])) := Gr.new hq2
      refine ⟨_, _, dp_matT (hE.ext g5.ext), .tup (SqT.of upd_same) .nil, sh_tup (sh_tups _), sh_tup sh_nil, true, ?_, iteT ?_⟩
      · show V.bl (PyData.eqv (.tuple []) (.tuple [])) = V.bl true
        rw [eqv_tup sh_nil]
      have g06 := g04.trans g5
      refine ⟨(by show 2 ≤ sizeLine; exact Nat.le_of_lt (lsz (by decide))), fun q3 hq3 => ⟨(by show 1 ≤ sizeLine; exact Nat.le_of_lt (lsz (by decide))), fun q4 hq4 => ?_⟩⟩
      have g7 : Gr T (upd H4 q2 (.tup [])) (upd (upd H4 q2 (.tup [])) q3 (.tup [.int 0, .int 0])) := Gr.new hq3
      have g8 : Gr T (upd (upd H4 q2 (.tup [])) q3 (.tup [.int 0, .int 0])) (upd (upd (upd H4 q2 (.tup [])) q3 (.tup [.int 0, .int 0])) q4 (.lst [.ref q3])) := Gr.new hq4
      refine ⟨.ref q4, [[0, 0]], 2, 2, rfl, ⟨q4, false, _, rfl, upd_same, .cons ⟨q3, true, rfl, g8.ext _ _ upd_same (fun _ z => by cases z)⟩ .nil⟩, ⟨(fun r hr => by rw [List.mem_singleton.mp hr]; rfl), by decide, by decide, M2.pr2, by decide⟩, (((hP1.gr g06).gr g7).gr g8).tab, fun H5 g9 => ⟨rfl, ?_⟩⟩
      have e0 : (M2.stAt 2 [[0, 0]] 2).2.length = 0 := by decide +kernel
      rw [e0]
      exact k H5
end
end Z
set_option Elab.async false
set_option linter.all false
set_option maxRecDepth 100000
set_option maxHeartbeats 4000000
namespace Z
open PySem L2 PyProof.Rows ZX GX
/-! the end: the tables of the code objects come from the program's own top -/
theorem tabIn_mk {K : PySem.W.Frag} {x : Str} {f c P : Addr} {oc e : Value} {od dd : Option Addr} {fd : FuncData} {sl sm : Array (Option Value)} {vs : Array Value} (n : PySem.W.nsIn K mainGlobals x = some (some (.ref f))) (l : K.lookup f = some ⟨oc, od, .func fd, sl⟩)
    (hc : fd.code = .ref c) (lc : K.lookup c = some ⟨e, dd, .fields vs, sm⟩) (t : vs[11]? = some (.ref P)) : PySem.W.tabIn K x = some (c, P) := by
  unfold PySem.W.tabIn
  rw [n]
  dsimp only
  rw [l]
  dsimp only
  rw [hc]
  dsimp only
  rw [lc]
  dsimp only
  rw [t]
theorem no_tab {K : PySem.W.Frag} {h : Heap} {P : Addr} (X : K.In h) (hn : PySem.W.noTabs K = true) (hP : h.get? P = some (PySem.W.tabObj #[])) : K.lookup P = none := by
  cases e : K.lookup P with
  | none => rfl
  | some o =>
    have g := X P o e
    rw [hP] at g
    cases g
    have := List.all_eq_true.mp hn _ (PySem.W.mem_of_lookupK e)
    exact absurd (show false = true from this) Bool.false_ne_true
theorem walkTb {l : PySem.W.OpenLaw} {n k : Nat} {q : Program} {loose : List Str} {XP : (Str → Option Value) → Heap → Prop} {YP : World → Heap → Prop} {d : DefRec} {K : Params → PySem.W.Frag} {x : Str} (ys : List Str)
    (hn : l.most = some n) (hn2 : n ≤ sizeLine) (hdf : d.params.defaults = []) (room : Room k callerA) (hrec : ∀ y ∈ ys, ((recsOf q).find? fun e => e.name == y).isSome = true) (hY : ∀ (w : World) (h : Heap), YP w h → (K w.params).In h)
    (F : ∀ (w : World) (mg : Str → Option Value) (fa : Addr) (h : Heap), (K w.params).In h → h.Ns mainGlobals mg → mg d.name = some (.ref fa) → (∀ y c P, y ∈ ys → PySem.W.tabIn (K w.params) y = some (c, P) → PySem.W.CodeHd h c P ∧ h.get? P = some (PySem.W.tabObj #[])) → LamX.LawAtS l w (K w.params) CX0 k n x mg fa h) :
    PySem.W.WalkO q loose XP YP l.row.toRowW d [] (fun f vs => PySem.call f vs) := by
  refine Att.attach_callB hn hdf fun w s₀ s₁ mg mb fa o pm cd doc a vs ns G Y ho hd hcd hmg hobj hints hlen hbits hg => ?_
  have KX := hY w _ Y
  have tabs : ∀ y c P, y ∈ ys → PySem.W.tabIn (K w.params) y = some (c, P) → PySem.W.CodeHd s₁.heap c P ∧ s₁.heap.get? P = some (PySem.W.tabObj #[]) := fun y c P hy ht => by
    cases e : (recsOf q).find? fun e => e.name == y with
    | none =>
      have := hrec y hy
      rw [e] at this
      cases this
    | some d' => exact PySem.W.tab_of G.T KX e ht
  obtain ⟨fd, cs, sp, hT, nT, C, hb, hsp, hF⟩ := F w mg fa _ KX G.T.g hmg tabs
  exact LamX.law_callTs KX G.T.g G.T.b G.T.builtins G.T.nolimit hg hT nT C G.T.bmain hobj hints (Nat.le_trans hlen hn2) room hF hb (fun H hH hS => hsp H a ns hlen hbits hH hS) fun H e s' h => h
theorem all_mk {l : PySem.W.OpenLaw} {w : World} {K : PySem.W.Frag} {h : Heap} {mg : Str → Option Value} {fa : Addr} (X : K.In h) (G : h.Ns mainGlobals mg) (hfa : mg "law" = some (.ref fa))
    (tabs : ∀ y c P, y ∈ (["is_prime", "are_integers", "reduced"] : List Str) → PySem.W.tabIn K y = some (c, P) → PySem.W.CodeHd h c P ∧ h.get? P = some (PySem.W.tabObj #[]))
    {g_is_whole : Addr} {od_is_whole an_is_whole : Option Addr} {sl_is_whole : Array (Option Value)} {oc_is_whole kV_is_whole dc_is_whole pm_is_whole cd_is_whole ct_is_whole : Value}
    {g_is_list : Addr} {od_is_list an_is_list : Option Addr} {sl_is_list : Array (Option Value)} {oc_is_list kV_is_list dc_is_list pm_is_list cd_is_list ct_is_list : Value}
    {g_is_prime c_is_prime P_is_prime : Addr} {od_is_prime an_is_prime dd_is_prime : Option Addr} {sl_is_prime sm_is_prime : Array (Option Value)} {vs_is_prime : Array Value} {oc_is_prime kV_is_prime dc_is_prime pm_is_prime ct_is_prime e_is_prime : Value}
    {g_passes : Addr} {od_passes an_passes : Option Addr} {sl_passes : Array (Option Value)} {oc_passes kV_passes dc_passes pm_passes cd_passes ct_passes : Value}
    {g_power : Addr} {od_power an_power : Option Addr} {sl_power : Array (Option Value)} {oc_power kV_power dc_power pm_power cd_power ct_power : Value}
    {g_inverse : Addr} {od_inverse an_inverse : Option Addr} {sl_inverse : Array (Option Value)} {oc_inverse kV_inverse dc_inverse pm_inverse cd_inverse ct_inverse : Value}
    {g_check_prime : Addr} {od_check_prime an_check_prime : Option Addr} {sl_check_prime : Array (Option Value)} {oc_check_prime kV_check_prime dc_check_prime pm_check_prime cd_check_prime ct_check_prime : Value}
    {g_are_rows : Addr} {od_are_rows an_are_rows : Option Addr} {sl_are_rows : Array (Option Value)} {oc_are_rows kV_are_rows dc_are_rows pm_are_rows cd_are_rows ct_are_rows : Value}
    {g_are_integers c_are_integers P_are_integers : Addr} {od_are_integers an_are_integers dd_are_integers : Option Addr} {sl_are_integers sm_are_integers : Array (Option Value)} {vs_are_integers : Array Value} {oc_are_integers kV_are_integers dc_are_integers pm_are_integers ct_are_integers e_are_integers : Value}
    {g_check_rows : Addr} {od_check_rows an_check_rows : Option Addr} {sl_check_rows : Array (Option Value)} {oc_check_rows kV_check_rows dc_check_rows pm_check_rows cd_check_rows ct_check_rows : Value}
    {g_rank_of : Addr} {od_rank_of an_rank_of : Option Addr} {sl_rank_of : Array (Option Value)} {oc_rank_of kV_rank_of dc_rank_of pm_rank_of cd_rank_of ct_rank_of : Value}
    {g_echelon : Addr} {od_echelon an_echelon : Option Addr} {sl_echelon : Array (Option Value)} {oc_echelon kV_echelon dc_echelon pm_echelon cd_echelon ct_echelon : Value}
    {g_solved : Addr} {od_solved an_solved : Option Addr} {sl_solved : Array (Option Value)} {oc_solved kV_solved dc_solved pm_solved cd_solved ct_solved : Value}
    {g_width_of : Addr} {od_width_of an_width_of : Option Addr} {sl_width_of : Array (Option Value)} {oc_width_of kV_width_of dc_width_of pm_width_of cd_width_of ct_width_of : Value}
    {g_reduced c_reduced P_reduced : Addr} {od_reduced an_reduced dd_reduced : Option Addr} {sl_reduced sm_reduced : Array (Option Value)} {vs_reduced : Array Value} {oc_reduced kV_reduced dc_reduced pm_reduced ct_reduced e_reduced : Value}
    {g_row_with : Addr} {od_row_with an_row_with : Option Addr} {sl_row_with : Array (Option Value)} {oc_row_with kV_row_with dc_row_with pm_row_with cd_row_with ct_row_with : Value}
    {g_scaled : Addr} {od_scaled an_scaled : Option Addr} {sl_scaled : Array (Option Value)} {oc_scaled kV_scaled dc_scaled pm_scaled cd_scaled ct_scaled : Value}
    {g_cleared : Addr} {od_cleared an_cleared : Option Addr} {sl_cleared : Array (Option Value)} {oc_cleared kV_cleared dc_cleared pm_cleared cd_cleared ct_cleared : Value}
    {g_l_pen : Addr} {od_l_pen an_l_pen : Option Addr} {sl_l_pen : Array (Option Value)} {oc_l_pen kV_l_pen dc_l_pen pm_l_pen cd_l_pen ct_l_pen : Value}
    {g_l_draw : Addr} {od_l_draw an_l_draw : Option Addr} {sl_l_draw : Array (Option Value)} {oc_l_draw kV_l_draw dc_l_draw pm_l_draw cd_l_draw ct_l_draw : Value}
    {g_l_pick : Addr} {od_l_pick an_l_pick : Option Addr} {sl_l_pick : Array (Option Value)} {oc_l_pick kV_l_pick dc_l_pick pm_l_pick cd_l_pick ct_l_pick : Value}
    {g_l_whole : Addr} {od_l_whole an_l_whole : Option Addr} {sl_l_whole : Array (Option Value)} {oc_l_whole kV_l_whole dc_l_whole pm_l_whole cd_l_whole ct_l_whole : Value}
    {g_l_pow : Addr} {od_l_pow an_l_pow : Option Addr} {sl_l_pow : Array (Option Value)} {oc_l_pow kV_l_pow dc_l_pow pm_l_pow cd_l_pow ct_l_pow : Value}
    {g_l_rest : Addr} {od_l_rest an_l_rest : Option Addr} {sl_l_rest : Array (Option Value)} {oc_l_rest kV_l_rest dc_l_rest pm_l_rest cd_l_rest ct_l_rest : Value}
    {g_l_basis : Addr} {od_l_basis an_l_basis : Option Addr} {sl_l_basis : Array (Option Value)} {oc_l_basis kV_l_basis dc_l_basis pm_l_basis cd_l_basis ct_l_basis : Value}
    {g_l_rank : Addr} {od_l_rank an_l_rank : Option Addr} {sl_l_rank : Array (Option Value)} {oc_l_rank kV_l_rank dc_l_rank pm_l_rank cd_l_rank ct_l_rank : Value}
    {g_l_inside : Addr} {od_l_inside an_l_inside : Option Addr} {sl_l_inside : Array (Option Value)} {oc_l_inside kV_l_inside dc_l_inside pm_l_inside cd_l_inside ct_l_inside : Value}
    {g_l_are : Addr} {od_l_are an_l_are : Option Addr} {sl_l_are : Array (Option Value)} {oc_l_are kV_l_are dc_l_are pm_l_are cd_l_are ct_l_are : Value}
    {g_l_ints : Addr} {od_l_ints an_l_ints : Option Addr} {sl_l_ints : Array (Option Value)} {oc_l_ints kV_l_ints dc_l_ints pm_l_ints cd_l_ints ct_l_ints : Value}
    {g_l_ech : Addr} {od_l_ech an_l_ech : Option Addr} {sl_l_ech : Array (Option Value)} {oc_l_ech kV_l_ech dc_l_ech pm_l_ech cd_l_ech ct_l_ech : Value}
    {g_law : Addr} {od_law an_law : Option Addr} {sl_law : Array (Option Value)} {oc_law kV_law dc_law pm_law cd_law ct_law : Value}
    {aW : Addr} {ddW : Option Addr} {nW : Nat} {slW : Array (Option Value)} {tL u0 u1 u2 u3 u4 u5 u6 u7 u8 u9 u10 u11 u12 : Tok}
    (n_is_whole : PySem.W.nsIn K mainGlobals "is_whole" = some (some (.ref g_is_whole)))
    (l_is_whole : K.lookup g_is_whole = some ⟨oc_is_whole, od_is_whole, .func (PySem.W.fnOf "is_whole" "is_whole" (defArgs s_is_whole) (defBody s_is_whole) (defScope s_is_whole) .none kV_is_whole dc_is_whole pm_is_whole an_is_whole cd_is_whole ct_is_whole), sl_is_whole⟩)
    (c_is_whole_ : PySem.W.codeIn K cd_is_whole "is_whole" = true)
    (k_is_whole : PySem.W.keepIn K (.ref g_is_whole) = true)
    (n_is_list : PySem.W.nsIn K mainGlobals "is_list" = some (some (.ref g_is_list)))
    (l_is_list : K.lookup g_is_list = some ⟨oc_is_list, od_is_list, .func (PySem.W.fnOf "is_list" "is_list" (defArgs s_is_list) (defBody s_is_list) (defScope s_is_list) .none kV_is_list dc_is_list pm_is_list an_is_list cd_is_list ct_is_list), sl_is_list⟩)
    (c_is_list_ : PySem.W.codeIn K cd_is_list "is_list" = true)
    (k_is_list : PySem.W.keepIn K (.ref g_is_list) = true)
    (n_is_prime : PySem.W.nsIn K mainGlobals "is_prime" = some (some (.ref g_is_prime)))
    (l_is_prime : K.lookup g_is_prime = some ⟨oc_is_prime, od_is_prime, .func (PySem.W.fnOf "is_prime" "is_prime" (defArgs s_is_prime) (defBody s_is_prime) (defScope s_is_prime) .none kV_is_prime dc_is_prime pm_is_prime an_is_prime (.ref c_is_prime) ct_is_prime), sl_is_prime⟩)
    (c_is_prime_ : PySem.W.codeIn K (.ref c_is_prime) "is_prime" = true)
    (k_is_prime : PySem.W.keepIn K (.ref g_is_prime) = true)
    (lc_is_prime : K.lookup c_is_prime = some ⟨e_is_prime, dd_is_prime, .fields vs_is_prime, sm_is_prime⟩)
    (tp_is_prime : vs_is_prime[11]? = some (.ref P_is_prime))
    (n_passes : PySem.W.nsIn K mainGlobals "passes" = some (some (.ref g_passes)))
    (l_passes : K.lookup g_passes = some ⟨oc_passes, od_passes, .func (PySem.W.fnOf "passes" "passes" (defArgs s_passes) (defBody s_passes) (defScope s_passes) .none kV_passes dc_passes pm_passes an_passes cd_passes ct_passes), sl_passes⟩)
    (c_passes_ : PySem.W.codeIn K cd_passes "passes" = true)
    (k_passes : PySem.W.keepIn K (.ref g_passes) = true)
    (n_power : PySem.W.nsIn K mainGlobals "power" = some (some (.ref g_power)))
    (l_power : K.lookup g_power = some ⟨oc_power, od_power, .func (PySem.W.fnOf "power" "power" (defArgs s_power) (defBody s_power) (defScope s_power) .none kV_power dc_power pm_power an_power cd_power ct_power), sl_power⟩)
    (c_power_ : PySem.W.codeIn K cd_power "power" = true)
    (k_power : PySem.W.keepIn K (.ref g_power) = true)
    (n_inverse : PySem.W.nsIn K mainGlobals "inverse" = some (some (.ref g_inverse)))
    (l_inverse : K.lookup g_inverse = some ⟨oc_inverse, od_inverse, .func (PySem.W.fnOf "inverse" "inverse" (defArgs s_inverse) (defBody s_inverse) (defScope s_inverse) .none kV_inverse dc_inverse pm_inverse an_inverse cd_inverse ct_inverse), sl_inverse⟩)
    (c_inverse_ : PySem.W.codeIn K cd_inverse "inverse" = true)
    (k_inverse : PySem.W.keepIn K (.ref g_inverse) = true)
    (n_check_prime : PySem.W.nsIn K mainGlobals "check_prime" = some (some (.ref g_check_prime)))
    (l_check_prime : K.lookup g_check_prime = some ⟨oc_check_prime, od_check_prime, .func (PySem.W.fnOf "check_prime" "check_prime" (defArgs s_check_prime) (defBody s_check_prime) (defScope s_check_prime) .none kV_check_prime dc_check_prime pm_check_prime an_check_prime cd_check_prime ct_check_prime), sl_check_prime⟩)
    (c_check_prime_ : PySem.W.codeIn K cd_check_prime "check_prime" = true)
    (k_check_prime : PySem.W.keepIn K (.ref g_check_prime) = true)
    (n_are_rows : PySem.W.nsIn K mainGlobals "are_rows" = some (some (.ref g_are_rows)))
    (l_are_rows : K.lookup g_are_rows = some ⟨oc_are_rows, od_are_rows, .func (PySem.W.fnOf "are_rows" "are_rows" (defArgs s_are_rows) (defBody s_are_rows) (defScope s_are_rows) .none kV_are_rows dc_are_rows pm_are_rows an_are_rows cd_are_rows ct_are_rows), sl_are_rows⟩)
    (c_are_rows_ : PySem.W.codeIn K cd_are_rows "are_rows" = true)
    (k_are_rows : PySem.W.keepIn K (.ref g_are_rows) = true)
    (n_are_integers : PySem.W.nsIn K mainGlobals "are_integers" = some (some (.ref g_are_integers)))
    (l_are_integers : K.lookup g_are_integers = some ⟨oc_are_integers, od_are_integers, .func (PySem.W.fnOf "are_integers" "are_integers" (defArgs s_are_integers) (defBody s_are_integers) (defScope s_are_integers) .none kV_are_integers dc_are_integers pm_are_integers an_are_integers (.ref c_are_integers) ct_are_integers), sl_are_integers⟩)
    (c_are_integers_ : PySem.W.codeIn K (.ref c_are_integers) "are_integers" = true)
    (k_are_integers : PySem.W.keepIn K (.ref g_are_integers) = true)
    (lc_are_integers : K.lookup c_are_integers = some ⟨e_are_integers, dd_are_integers, .fields vs_are_integers, sm_are_integers⟩)
    (tp_are_integers : vs_are_integers[11]? = some (.ref P_are_integers))
    (n_check_rows : PySem.W.nsIn K mainGlobals "check_rows" = some (some (.ref g_check_rows)))
    (l_check_rows : K.lookup g_check_rows = some ⟨oc_check_rows, od_check_rows, .func (PySem.W.fnOf "check_rows" "check_rows" (defArgs s_check_rows) (defBody s_check_rows) (defScope s_check_rows) .none kV_check_rows dc_check_rows pm_check_rows an_check_rows cd_check_rows ct_check_rows), sl_check_rows⟩)
    (c_check_rows_ : PySem.W.codeIn K cd_check_rows "check_rows" = true)
    (k_check_rows : PySem.W.keepIn K (.ref g_check_rows) = true)
    (n_rank_of : PySem.W.nsIn K mainGlobals "rank_of" = some (some (.ref g_rank_of)))
    (l_rank_of : K.lookup g_rank_of = some ⟨oc_rank_of, od_rank_of, .func (PySem.W.fnOf "rank_of" "rank_of" (defArgs s_rank_of) (defBody s_rank_of) (defScope s_rank_of) .none kV_rank_of dc_rank_of pm_rank_of an_rank_of cd_rank_of ct_rank_of), sl_rank_of⟩)
    (c_rank_of_ : PySem.W.codeIn K cd_rank_of "rank_of" = true)
    (k_rank_of : PySem.W.keepIn K (.ref g_rank_of) = true)
    (n_echelon : PySem.W.nsIn K mainGlobals "echelon" = some (some (.ref g_echelon)))
    (l_echelon : K.lookup g_echelon = some ⟨oc_echelon, od_echelon, .func (PySem.W.fnOf "echelon" "echelon" (defArgs s_echelon) (defBody s_echelon) (defScope s_echelon) .none kV_echelon dc_echelon pm_echelon an_echelon cd_echelon ct_echelon), sl_echelon⟩)
    (c_echelon_ : PySem.W.codeIn K cd_echelon "echelon" = true)
    (k_echelon : PySem.W.keepIn K (.ref g_echelon) = true)
    (n_solved : PySem.W.nsIn K mainGlobals "solved" = some (some (.ref g_solved)))
    (l_solved : K.lookup g_solved = some ⟨oc_solved, od_solved, .func (PySem.W.fnOf "solved" "solved" (defArgs s_solved) (defBody s_solved) (defScope s_solved) .none kV_solved dc_solved pm_solved an_solved cd_solved ct_solved), sl_solved⟩)
    (c_solved_ : PySem.W.codeIn K cd_solved "solved" = true)
    (k_solved : PySem.W.keepIn K (.ref g_solved) = true)
    (n_width_of : PySem.W.nsIn K mainGlobals "width_of" = some (some (.ref g_width_of)))
    (l_width_of : K.lookup g_width_of = some ⟨oc_width_of, od_width_of, .func (PySem.W.fnOf "width_of" "width_of" (defArgs s_width_of) (defBody s_width_of) (defScope s_width_of) .none kV_width_of dc_width_of pm_width_of an_width_of cd_width_of ct_width_of), sl_width_of⟩)
    (c_width_of_ : PySem.W.codeIn K cd_width_of "width_of" = true)
    (k_width_of : PySem.W.keepIn K (.ref g_width_of) = true)
    (n_reduced : PySem.W.nsIn K mainGlobals "reduced" = some (some (.ref g_reduced)))
    (l_reduced : K.lookup g_reduced = some ⟨oc_reduced, od_reduced, .func (PySem.W.fnOf "reduced" "reduced" (defArgs s_reduced) (defBody s_reduced) (defScope s_reduced) .none kV_reduced dc_reduced pm_reduced an_reduced (.ref c_reduced) ct_reduced), sl_reduced⟩)
    (c_reduced_ : PySem.W.codeIn K (.ref c_reduced) "reduced" = true)
    (k_reduced : PySem.W.keepIn K (.ref g_reduced) = true)
    (lc_reduced : K.lookup c_reduced = some ⟨e_reduced, dd_reduced, .fields vs_reduced, sm_reduced⟩)
    (tp_reduced : vs_reduced[11]? = some (.ref P_reduced))
    (n_row_with : PySem.W.nsIn K mainGlobals "row_with" = some (some (.ref g_row_with)))
    (l_row_with : K.lookup g_row_with = some ⟨oc_row_with, od_row_with, .func (PySem.W.fnOf "row_with" "row_with" (defArgs s_row_with) (defBody s_row_with) (defScope s_row_with) .none kV_row_with dc_row_with pm_row_with an_row_with cd_row_with ct_row_with), sl_row_with⟩)
    (c_row_with_ : PySem.W.codeIn K cd_row_with "row_with" = true)
    (k_row_with : PySem.W.keepIn K (.ref g_row_with) = true)
    (n_scaled : PySem.W.nsIn K mainGlobals "scaled" = some (some (.ref g_scaled)))
    (l_scaled : K.lookup g_scaled = some ⟨oc_scaled, od_scaled, .func (PySem.W.fnOf "scaled" "scaled" (defArgs s_scaled) (defBody s_scaled) (defScope s_scaled) .none kV_scaled dc_scaled pm_scaled an_scaled cd_scaled ct_scaled), sl_scaled⟩)
    (c_scaled_ : PySem.W.codeIn K cd_scaled "scaled" = true)
    (k_scaled : PySem.W.keepIn K (.ref g_scaled) = true)
    (n_cleared : PySem.W.nsIn K mainGlobals "cleared" = some (some (.ref g_cleared)))
    (l_cleared : K.lookup g_cleared = some ⟨oc_cleared, od_cleared, .func (PySem.W.fnOf "cleared" "cleared" (defArgs s_cleared) (defBody s_cleared) (defScope s_cleared) .none kV_cleared dc_cleared pm_cleared an_cleared cd_cleared ct_cleared), sl_cleared⟩)
    (c_cleared_ : PySem.W.codeIn K cd_cleared "cleared" = true)
    (k_cleared : PySem.W.keepIn K (.ref g_cleared) = true)
    (n_l_pen : PySem.W.nsIn K mainGlobals "_law_pen" = some (some (.ref g_l_pen)))
    (l_l_pen : K.lookup g_l_pen = some ⟨oc_l_pen, od_l_pen, .func (PySem.W.fnOf "_law_pen" "_law_pen" (defArgs s_l_pen) (defBody s_l_pen) (defScope s_l_pen) .none kV_l_pen dc_l_pen pm_l_pen an_l_pen cd_l_pen ct_l_pen), sl_l_pen⟩)
    (c_l_pen_ : PySem.W.codeIn K cd_l_pen "_law_pen" = true)
    (k_l_pen : PySem.W.keepIn K (.ref g_l_pen) = true)
    (n_l_draw : PySem.W.nsIn K mainGlobals "_law_draw" = some (some (.ref g_l_draw)))
    (l_l_draw : K.lookup g_l_draw = some ⟨oc_l_draw, od_l_draw, .func (PySem.W.fnOf "_law_draw" "_law_draw" (defArgs s_l_draw) (defBody s_l_draw) (defScope s_l_draw) .none kV_l_draw dc_l_draw pm_l_draw an_l_draw cd_l_draw ct_l_draw), sl_l_draw⟩)
    (c_l_draw_ : PySem.W.codeIn K cd_l_draw "_law_draw" = true)
    (k_l_draw : PySem.W.keepIn K (.ref g_l_draw) = true)
    (n_l_pick : PySem.W.nsIn K mainGlobals "_law_pick" = some (some (.ref g_l_pick)))
    (l_l_pick : K.lookup g_l_pick = some ⟨oc_l_pick, od_l_pick, .func (PySem.W.fnOf "_law_pick" "_law_pick" (defArgs s_l_pick) (defBody s_l_pick) (defScope s_l_pick) .none kV_l_pick dc_l_pick pm_l_pick an_l_pick cd_l_pick ct_l_pick), sl_l_pick⟩)
    (c_l_pick_ : PySem.W.codeIn K cd_l_pick "_law_pick" = true)
    (k_l_pick : PySem.W.keepIn K (.ref g_l_pick) = true)
    (n_l_whole : PySem.W.nsIn K mainGlobals "_law_is_whole" = some (some (.ref g_l_whole)))
    (l_l_whole : K.lookup g_l_whole = some ⟨oc_l_whole, od_l_whole, .func (PySem.W.fnOf "_law_is_whole" "_law_is_whole" (defArgs s_l_whole) (defBody s_l_whole) (defScope s_l_whole) .none kV_l_whole dc_l_whole pm_l_whole an_l_whole cd_l_whole ct_l_whole), sl_l_whole⟩)
    (c_l_whole_ : PySem.W.codeIn K cd_l_whole "_law_is_whole" = true)
    (k_l_whole : PySem.W.keepIn K (.ref g_l_whole) = true)
    (n_l_pow : PySem.W.nsIn K mainGlobals "_law_power_mod" = some (some (.ref g_l_pow)))
    (l_l_pow : K.lookup g_l_pow = some ⟨oc_l_pow, od_l_pow, .func (PySem.W.fnOf "_law_power_mod" "_law_power_mod" (defArgs s_l_pow) (defBody s_l_pow) (defScope s_l_pow) .none kV_l_pow dc_l_pow pm_l_pow an_l_pow cd_l_pow ct_l_pow), sl_l_pow⟩)
    (c_l_pow_ : PySem.W.codeIn K cd_l_pow "_law_power_mod" = true)
    (k_l_pow : PySem.W.keepIn K (.ref g_l_pow) = true)
    (n_l_rest : PySem.W.nsIn K mainGlobals "_law_rest" = some (some (.ref g_l_rest)))
    (l_l_rest : K.lookup g_l_rest = some ⟨oc_l_rest, od_l_rest, .func (PySem.W.fnOf "_law_rest" "_law_rest" (defArgs s_l_rest) (defBody s_l_rest) (defScope s_l_rest) .none kV_l_rest dc_l_rest pm_l_rest an_l_rest cd_l_rest ct_l_rest), sl_l_rest⟩)
    (c_l_rest_ : PySem.W.codeIn K cd_l_rest "_law_rest" = true)
    (k_l_rest : PySem.W.keepIn K (.ref g_l_rest) = true)
    (n_l_basis : PySem.W.nsIn K mainGlobals "_law_basis" = some (some (.ref g_l_basis)))
    (l_l_basis : K.lookup g_l_basis = some ⟨oc_l_basis, od_l_basis, .func (PySem.W.fnOf "_law_basis" "_law_basis" (defArgs s_l_basis) (defBody s_l_basis) (defScope s_l_basis) .none kV_l_basis dc_l_basis pm_l_basis an_l_basis cd_l_basis ct_l_basis), sl_l_basis⟩)
    (c_l_basis_ : PySem.W.codeIn K cd_l_basis "_law_basis" = true)
    (k_l_basis : PySem.W.keepIn K (.ref g_l_basis) = true)
    (n_l_rank : PySem.W.nsIn K mainGlobals "_law_rank" = some (some (.ref g_l_rank)))
    (l_l_rank : K.lookup g_l_rank = some ⟨oc_l_rank, od_l_rank, .func (PySem.W.fnOf "_law_rank" "_law_rank" (defArgs s_l_rank) (defBody s_l_rank) (defScope s_l_rank) .none kV_l_rank dc_l_rank pm_l_rank an_l_rank cd_l_rank ct_l_rank), sl_l_rank⟩)
    (c_l_rank_ : PySem.W.codeIn K cd_l_rank "_law_rank" = true)
    (k_l_rank : PySem.W.keepIn K (.ref g_l_rank) = true)
    (n_l_inside : PySem.W.nsIn K mainGlobals "_law_inside" = some (some (.ref g_l_inside)))
    (l_l_inside : K.lookup g_l_inside = some ⟨oc_l_inside, od_l_inside, .func (PySem.W.fnOf "_law_inside" "_law_inside" (defArgs s_l_inside) (defBody s_l_inside) (defScope s_l_inside) .none kV_l_inside dc_l_inside pm_l_inside an_l_inside cd_l_inside ct_l_inside), sl_l_inside⟩)
    (c_l_inside_ : PySem.W.codeIn K cd_l_inside "_law_inside" = true)
    (k_l_inside : PySem.W.keepIn K (.ref g_l_inside) = true)
    (n_l_are : PySem.W.nsIn K mainGlobals "_law_are_rows" = some (some (.ref g_l_are)))
    (l_l_are : K.lookup g_l_are = some ⟨oc_l_are, od_l_are, .func (PySem.W.fnOf "_law_are_rows" "_law_are_rows" (defArgs s_l_are) (defBody s_l_are) (defScope s_l_are) .none kV_l_are dc_l_are pm_l_are an_l_are cd_l_are ct_l_are), sl_l_are⟩)
    (c_l_are_ : PySem.W.codeIn K cd_l_are "_law_are_rows" = true)
    (k_l_are : PySem.W.keepIn K (.ref g_l_are) = true)
    (n_l_ints : PySem.W.nsIn K mainGlobals "_law_integers" = some (some (.ref g_l_ints)))
    (l_l_ints : K.lookup g_l_ints = some ⟨oc_l_ints, od_l_ints, .func (PySem.W.fnOf "_law_integers" "_law_integers" (defArgs s_l_ints) (defBody s_l_ints) (defScope s_l_ints) .none kV_l_ints dc_l_ints pm_l_ints an_l_ints cd_l_ints ct_l_ints), sl_l_ints⟩)
    (c_l_ints_ : PySem.W.codeIn K cd_l_ints "_law_integers" = true)
    (k_l_ints : PySem.W.keepIn K (.ref g_l_ints) = true)
    (n_l_ech : PySem.W.nsIn K mainGlobals "_law_echelon_right" = some (some (.ref g_l_ech)))
    (l_l_ech : K.lookup g_l_ech = some ⟨oc_l_ech, od_l_ech, .func (PySem.W.fnOf "_law_echelon_right" "_law_echelon_right" (defArgs s_l_ech) (defBody s_l_ech) (defScope s_l_ech) .none kV_l_ech dc_l_ech pm_l_ech an_l_ech cd_l_ech ct_l_ech), sl_l_ech⟩)
    (c_l_ech_ : PySem.W.codeIn K cd_l_ech "_law_echelon_right" = true)
    (k_l_ech : PySem.W.keepIn K (.ref g_l_ech) = true)
    (n_law : PySem.W.nsIn K mainGlobals "law" = some (some (.ref g_law)))
    (l_law : K.lookup g_law = some ⟨oc_law, od_law, .func (PySem.W.fnOf "law" "law" (defArgs s_law) (defBody s_law) (defScope s_law) .none kV_law dc_law pm_law an_law cd_law ct_law), sl_law⟩)
    (c_law_ : PySem.W.codeIn K cd_law "law" = true)
    (k_law : PySem.W.keepIn K (.ref g_law) = true)
    (gL_ : PySem.W.nsIn K mainGlobals "LARGEST_PRIME" = some (some (.int 1000000007 tL)))
    (gW_ : PySem.W.nsIn K mainGlobals "WITNESSES" = some (some (.ref aW)))
    (lW_ : K.lookup aW = some ⟨.type "tuple", ddW, .seq #[.int 2 u0, .int 3 u1, .int 5 u2, .int 7 u3, .int 11 u4, .int 13 u5, .int 17 u6, .int 19 u7, .int 23 u8, .int 29 u9, .int 31 u10, .int 37 u11, .int 41 u12] nW, slW⟩)
    (b_int : PySem.W.nsIn K mainGlobals "int" = some none)
    (b_bool : PySem.W.nsIn K mainGlobals "bool" = some none)
    (b_len : PySem.W.nsIn K mainGlobals "len" = some none)
    (b_list : PySem.W.nsIn K mainGlobals "list" = some none)
    (b_range : PySem.W.nsIn K mainGlobals "range" = some none)
    (b_isinstance : PySem.W.nsIn K mainGlobals "isinstance" = some none)
    (b_tuple : PySem.W.nsIn K mainGlobals "tuple" = some none)
    (b_all : PySem.W.nsIn K mainGlobals "all" = some none)
    (b_zip : PySem.W.nsIn K mainGlobals "zip" = some none)
    (b_enumerate : PySem.W.nsIn K mainGlobals "enumerate" = some none)
    (b_sum : PySem.W.nsIn K mainGlobals "sum" = some none)
    (ntb : PySem.W.noTabs K = true)
    : LamX.LawAtS l w K CX0 8 63 "_law_script" mg fa h := by
  have e := hfa.symm.trans (PySem.W.mg_of X G n_law)
  cases e
  have B_int := PySem.W.mg_none_of X G b_int
  have B_bool := PySem.W.mg_none_of X G b_bool
  have B_len := PySem.W.mg_none_of X G b_len
  have B_list := PySem.W.mg_none_of X G b_list
  have B_range := PySem.W.mg_none_of X G b_range
  have B_isinstance := PySem.W.mg_none_of X G b_isinstance
  have B_tuple := PySem.W.mg_none_of X G b_tuple
  have B_all := PySem.W.mg_none_of X G b_all
  have B_zip := PySem.W.mg_none_of X G b_zip
  have B_enumerate := PySem.W.mg_none_of X G b_enumerate
  have B_sum := PySem.W.mg_none_of X G b_sum
  have F_is_whole := fun_mk (st := s_is_whole) l_is_whole c_is_whole_ k_is_whole
  have D_is_whole := F_is_whole.binds (ps := ["value"]) fun _ _ _ _ _ _ us hl => match us, hl with | [_], _ => rfl
  have m_is_whole := PySem.W.mg_of X G n_is_whole
  have F_is_list := fun_mk (st := s_is_list) l_is_list c_is_list_ k_is_list
  have D_is_list := F_is_list.binds (ps := ["value"]) fun _ _ _ _ _ _ us hl => match us, hl with | [_], _ => rfl
  have m_is_list := PySem.W.mg_of X G n_is_list
  have F_is_prime := fun_mk (st := s_is_prime) l_is_prime c_is_prime_ k_is_prime
  have D_is_prime := F_is_prime.binds (ps := ["number"]) fun _ _ _ _ _ _ us hl => match us, hl with | [_], _ => rfl
  have m_is_prime := PySem.W.mg_of X G n_is_prime
  have F_passes := fun_mk (st := s_passes) l_passes c_passes_ k_passes
  have D_passes := F_passes.binds (ps := ["number", "witness"]) fun _ _ _ _ _ _ us hl => match us, hl with | [_, _], _ => rfl
  have m_passes := PySem.W.mg_of X G n_passes
  have F_power := fun_mk (st := s_power) l_power c_power_ k_power
  have D_power := F_power.binds (ps := ["base", "exponent", "modulus"]) fun _ _ _ _ _ _ us hl => match us, hl with | [_, _, _], _ => rfl
  have m_power := PySem.W.mg_of X G n_power
  have F_inverse := fun_mk (st := s_inverse) l_inverse c_inverse_ k_inverse
  have D_inverse := F_inverse.binds (ps := ["number", "prime"]) fun _ _ _ _ _ _ us hl => match us, hl with | [_, _], _ => rfl
  have m_inverse := PySem.W.mg_of X G n_inverse
  have F_check_prime := fun_mk (st := s_check_prime) l_check_prime c_check_prime_ k_check_prime
  have D_check_prime := F_check_prime.binds (ps := ["prime"]) fun _ _ _ _ _ _ us hl => match us, hl with | [_], _ => rfl
  have m_check_prime := PySem.W.mg_of X G n_check_prime
  have F_are_rows := fun_mk (st := s_are_rows) l_are_rows c_are_rows_ k_are_rows
  have D_are_rows := F_are_rows.binds (ps := ["rows"]) fun _ _ _ _ _ _ us hl => match us, hl with | [_], _ => rfl
  have m_are_rows := PySem.W.mg_of X G n_are_rows
  have F_are_integers := fun_mk (st := s_are_integers) l_are_integers c_are_integers_ k_are_integers
  have D_are_integers := F_are_integers.binds (ps := ["row"]) fun _ _ _ _ _ _ us hl => match us, hl with | [_], _ => rfl
  have m_are_integers := PySem.W.mg_of X G n_are_integers
  have F_check_rows := fun_mk (st := s_check_rows) l_check_rows c_check_rows_ k_check_rows
  have D_check_rows := F_check_rows.binds (ps := ["rows", "prime"]) fun _ _ _ _ _ _ us hl => match us, hl with | [_, _], _ => rfl
  have m_check_rows := PySem.W.mg_of X G n_check_rows
  have F_rank_of := fun_mk (st := s_rank_of) l_rank_of c_rank_of_ k_rank_of
  have D_rank_of := F_rank_of.binds (ps := ["rows", "prime"]) fun _ _ _ _ _ _ us hl => match us, hl with | [_, _], _ => rfl
  have m_rank_of := PySem.W.mg_of X G n_rank_of
  have F_echelon := fun_mk (st := s_echelon) l_echelon c_echelon_ k_echelon
  have D_echelon := F_echelon.binds (ps := ["rows", "prime"]) fun _ _ _ _ _ _ us hl => match us, hl with | [_, _], _ => rfl
  have m_echelon := PySem.W.mg_of X G n_echelon
  have F_solved := fun_mk (st := s_solved) l_solved c_solved_ k_solved
  have D_solved := F_solved.binds (ps := ["rows", "right", "prime"]) fun _ _ _ _ _ _ us hl => match us, hl with | [_, _, _], _ => rfl
  have m_solved := PySem.W.mg_of X G n_solved
  have F_width_of := fun_mk (st := s_width_of) l_width_of c_width_of_ k_width_of
  have D_width_of := F_width_of.binds (ps := ["rows"]) fun _ _ _ _ _ _ us hl => match us, hl with | [_], _ => rfl
  have m_width_of := PySem.W.mg_of X G n_width_of
  have F_reduced := fun_mk (st := s_reduced) l_reduced c_reduced_ k_reduced
  have D_reduced := F_reduced.binds (ps := ["rows", "prime"]) fun _ _ _ _ _ _ us hl => match us, hl with | [_, _], _ => rfl
  have m_reduced := PySem.W.mg_of X G n_reduced
  have F_row_with := fun_mk (st := s_row_with) l_row_with c_row_with_ k_row_with
  have D_row_with := F_row_with.binds (ps := ["rows", "column"]) fun _ _ _ _ _ _ us hl => match us, hl with | [_, _], _ => rfl
  have m_row_with := PySem.W.mg_of X G n_row_with
  have F_scaled := fun_mk (st := s_scaled) l_scaled c_scaled_ k_scaled
  have D_scaled := F_scaled.binds (ps := ["row", "column", "prime"]) fun _ _ _ _ _ _ us hl => match us, hl with | [_, _, _], _ => rfl
  have m_scaled := PySem.W.mg_of X G n_scaled
  have F_cleared := fun_mk (st := s_cleared) l_cleared c_cleared_ k_cleared
  have D_cleared := F_cleared.binds (ps := ["row", "pivot", "column", "prime"]) fun _ _ _ _ _ _ us hl => match us, hl with | [_, _, _, _], _ => rfl
  have m_cleared := PySem.W.mg_of X G n_cleared
  have F_l_pen := fun_mk (st := s_l_pen) l_l_pen c_l_pen_ k_l_pen
  have D_l_pen := F_l_pen.binds (ps := ["_law_script"]) fun _ _ _ _ _ _ us hl => match us, hl with | [_], _ => rfl
  have m_l_pen := PySem.W.mg_of X G n_l_pen
  have F_l_draw := fun_mk (st := s_l_draw) l_l_draw c_l_draw_ k_l_draw
  have D_l_draw := F_l_draw.binds (ps := ["_law_pen_here", "_law_many"]) fun _ _ _ _ _ _ us hl => match us, hl with | [_, _], _ => rfl
  have m_l_draw := PySem.W.mg_of X G n_l_draw
  have F_l_pick := fun_mk (st := s_l_pick) l_l_pick c_l_pick_ k_l_pick
  have D_l_pick := F_l_pick.binds (ps := ["_law_pen_here", "_law_some"]) fun _ _ _ _ _ _ us hl => match us, hl with | [_, _], _ => rfl
  have m_l_pick := PySem.W.mg_of X G n_l_pick
  have F_l_whole := fun_mk (st := s_l_whole) l_l_whole c_l_whole_ k_l_whole
  have D_l_whole := F_l_whole.binds (ps := ["_law_value"]) fun _ _ _ _ _ _ us hl => match us, hl with | [_], _ => rfl
  have m_l_whole := PySem.W.mg_of X G n_l_whole
  have F_l_pow := fun_mk (st := s_l_pow) l_l_pow c_l_pow_ k_l_pow
  have D_l_pow := F_l_pow.binds (ps := ["_law_number", "_law_n", "_law_prime"]) fun _ _ _ _ _ _ us hl => match us, hl with | [_, _, _], _ => rfl
  have m_l_pow := PySem.W.mg_of X G n_l_pow
  have F_l_rest := fun_mk (st := s_l_rest) l_l_rest c_l_rest_ k_l_rest
  have D_l_rest := F_l_rest.binds (ps := ["_law_basis_here", "_law_row", "_law_prime"]) fun _ _ _ _ _ _ us hl => match us, hl with | [_, _, _], _ => rfl
  have m_l_rest := PySem.W.mg_of X G n_l_rest
  have F_l_basis := fun_mk (st := s_l_basis) l_l_basis c_l_basis_ k_l_basis
  have D_l_basis := F_l_basis.binds (ps := ["_law_rows", "_law_prime"]) fun _ _ _ _ _ _ us hl => match us, hl with | [_, _], _ => rfl
  have m_l_basis := PySem.W.mg_of X G n_l_basis
  have F_l_rank := fun_mk (st := s_l_rank) l_l_rank c_l_rank_ k_l_rank
  have D_l_rank := F_l_rank.binds (ps := ["_law_rows", "_law_prime"]) fun _ _ _ _ _ _ us hl => match us, hl with | [_, _], _ => rfl
  have m_l_rank := PySem.W.mg_of X G n_l_rank
  have F_l_inside := fun_mk (st := s_l_inside) l_l_inside c_l_inside_ k_l_inside
  have D_l_inside := F_l_inside.binds (ps := ["_law_basis_here", "_law_row", "_law_prime"]) fun _ _ _ _ _ _ us hl => match us, hl with | [_, _, _], _ => rfl
  have m_l_inside := PySem.W.mg_of X G n_l_inside
  have F_l_are := fun_mk (st := s_l_are) l_l_are c_l_are_ k_l_are
  have D_l_are := F_l_are.binds (ps := ["_law_value", "_law_wide", "_law_prime"]) fun _ _ _ _ _ _ us hl => match us, hl with | [_, _, _], _ => rfl
  have m_l_are := PySem.W.mg_of X G n_l_are
  have F_l_ints := fun_mk (st := s_l_ints) l_l_ints c_l_ints_ k_l_ints
  have D_l_ints := F_l_ints.binds (ps := ["_law_pen_here", "_law_many", "_law_wide", "_law_prime"]) fun _ _ _ _ _ _ us hl => match us, hl with | [_, _, _, _], _ => rfl
  have m_l_ints := PySem.W.mg_of X G n_l_ints
  have F_l_ech := fun_mk (st := s_l_ech) l_l_ech c_l_ech_ k_l_ech
  have D_l_ech := F_l_ech.binds (ps := ["_law_told", "_law_rows", "_law_wide", "_law_prime"]) fun _ _ _ _ _ _ us hl => match us, hl with | [_, _, _, _], _ => rfl
  have m_l_ech := PySem.W.mg_of X G n_l_ech
  have F_law := fun_mk (st := s_law) l_law c_law_ k_law
  obtain ⟨ch_is_prime, ct0_is_prime⟩ := tabs "is_prime" c_is_prime P_is_prime (by simp) (tabIn_mk n_is_prime l_is_prime rfl lc_is_prime tp_is_prime)
  obtain ⟨ch_are_integers, ct0_are_integers⟩ := tabs "are_integers" c_are_integers P_are_integers (by simp) (tabIn_mk n_are_integers l_are_integers rfl lc_are_integers tp_are_integers)
  obtain ⟨ch_reduced, ct0_reduced⟩ := tabs "reduced" c_reduced P_reduced (by simp) (tabIn_mk n_reduced l_reduced rfl lc_reduced tp_reduced)
  refine ⟨PySem.W.fnOf "law" "law" (defArgs s_law) (defBody s_law) (defScope s_law) .none kV_law dc_law pm_law an_law cd_law ct_law, [(c_is_prime, P_is_prime), (c_are_integers, P_are_integers), (c_reduced, P_reduced)], spLaw K [P_is_prime, P_are_integers, P_reduced], List.forall_mem_cons.mpr ⟨ct0_is_prime, List.forall_mem_cons.mpr ⟨ct0_are_integers, List.forall_mem_cons.mpr ⟨ct0_reduced, fun _ h => (List.not_mem_nil h).elim⟩⟩⟩, List.forall_mem_cons.mpr ⟨no_tab X ntb ct0_is_prime, List.forall_mem_cons.mpr ⟨no_tab X ntb ct0_are_integers, List.forall_mem_cons.mpr ⟨no_tab X ntb ct0_reduced, fun _ h => (List.not_mem_nil h).elim⟩⟩⟩, List.forall_mem_cons.mpr ⟨ch_is_prime, List.forall_mem_cons.mpr ⟨ch_are_integers, List.forall_mem_cons.mpr ⟨ch_reduced, fun _ h => (List.not_mem_nil h).elim⟩⟩⟩, fun s v => .of_eq rfl, fun H a ns hlen _ hH hS => ⟨a, ns, rfl, hS, hlen, fun P hP => ?_, fun _ => rfl⟩, fun base _ _ TB => ?_⟩
  · have tb : ∀ p ∈ ([(c_is_prime, P_is_prime), (c_are_integers, P_are_integers), (c_reduced, P_reduced)] : List (Addr × Addr)), GxR.TabG H p.2 := fun p hp => ⟨#[], hH p hp, True.intro⟩
    simp only [List.mem_cons, List.not_mem_nil, or_false] at hP
    rcases hP with rfl | rfl | rfl
    · exact tb (c_is_prime, _) (by simp)
    · exact tb (c_are_integers, _) (by simp)
    · exact tb (c_reduced, _) (by simp)
  have TB_is_prime : GxR.TabB base mg c_is_prime P_is_prime := by
    have t := TB (c_is_prime, P_is_prime) (by simp)
    exact ⟨t.code, t.bm, t.gP⟩
  have IN_is_prime : P_is_prime ∈ ([P_is_prime, P_are_integers, P_reduced] : List Addr) := by simp
  have TB_are_integers : GxR.TabB base mg c_are_integers P_are_integers := by
    have t := TB (c_are_integers, P_are_integers) (by simp)
    exact ⟨t.code, t.bm, t.gP⟩
  have IN_are_integers : P_are_integers ∈ ([P_is_prime, P_are_integers, P_reduced] : List Addr) := by simp
  have TB_reduced : GxR.TabB base mg c_reduced P_reduced := by
    have t := TB (c_reduced, P_reduced) (by simp)
    exact ⟨t.code, t.bm, t.gP⟩
  have IN_reduced : P_reduced ∈ ([P_is_prime, P_are_integers, P_reduced] : List Addr) := by simp
  have gL := PySem.W.mg_of X G gL_
  have gW := PySem.W.mg_of X G gW_
  have hW : ∀ H, SqT K H aW WV := fun H => .inr ⟨_, _, _, lW_, rfl, rfl, (by show 13 ≤ sizeLine; exact Nat.le_of_lt (small1000 (by decide))), .cons ⟨_, rfl⟩ (.cons ⟨_, rfl⟩ (.cons ⟨_, rfl⟩ (.cons ⟨_, rfl⟩ (.cons ⟨_, rfl⟩ (.cons ⟨_, rfl⟩ (.cons ⟨_, rfl⟩ (.cons ⟨_, rfl⟩ (.cons ⟨_, rfl⟩ (.cons ⟨_, rfl⟩ (.cons ⟨_, rfl⟩ (.cons ⟨_, rfl⟩ (.cons ⟨_, rfl⟩ (.nil)))))))))))))⟩
  have G_is_whole := ok_is_whole (P := l.prog) (w := w) (mg := mg) (base := base) F_is_whole B_isinstance B_int B_bool
  have X_is_whole : Fx l.prog w K mg base "is_whole" 1 ["value"] (spWhole K) := ⟨_, _, G_is_whole, m_is_whole, F_is_whole.kp, D_is_whole⟩
  have G_is_list := ok_is_list (P := l.prog) (w := w) (mg := mg) (base := base) F_is_list B_isinstance B_list B_tuple
  have X_is_list : Fx l.prog w K mg base "is_list" 1 ["value"] (spList) := ⟨_, _, G_is_list, m_is_list, F_is_list.kp, D_is_list⟩
  have G_power := ok_power (P := l.prog) (w := w) (mg := mg) (base := base) F_power
  have X_power : Fx l.prog w K mg base "power" 1 ["base", "exponent", "modulus"] (spPow) := ⟨_, _, G_power, m_power, F_power.kp, D_power⟩
  have G_inverse := ok_inverse (P := l.prog) (w := w) (mg := mg) (base := base) F_inverse X_power
  have X_inverse : Fx l.prog w K mg base "inverse" 2 ["number", "prime"] (spInv) := ⟨_, _, G_inverse, m_inverse, F_inverse.kp, D_inverse⟩
  have G_passes := ok_passes (P := l.prog) (w := w) (mg := mg) (base := base) F_passes B_range X_power
  have X_passes : Fx l.prog w K mg base "passes" 2 ["number", "witness"] (spPass) := ⟨_, _, G_passes, m_passes, F_passes.kp, D_passes⟩
  have G_is_prime := ok_is_prime (P := l.prog) (w := w) (mg := mg) (base := base) F_is_prime rfl TB_is_prime IN_is_prime B_all gW hW X_is_whole X_passes
  have X_is_prime : Fx l.prog w K mg base "is_prime" 4 ["number"] (spPrime [P_is_prime, P_are_integers, P_reduced]) := ⟨_, _, G_is_prime, m_is_prime, F_is_prime.kp, D_is_prime⟩
  have G_check_prime := ok_check_prime (P := l.prog) (w := w) (mg := mg) (base := base) F_check_prime gL X_is_whole X_is_prime
  have X_check_prime : Fx l.prog w K mg base "check_prime" 5 ["prime"] (spCkP [P_is_prime, P_are_integers, P_reduced]) := ⟨_, _, G_check_prime, m_check_prime, F_check_prime.kp, D_check_prime⟩
  have G_are_integers := ok_are_integers (P := l.prog) (w := w) (mg := mg) (base := base) F_are_integers rfl TB_are_integers IN_are_integers B_all X_is_list X_is_whole
  have X_are_integers : Fx l.prog w K mg base "are_integers" 3 ["row"] (spInts [P_is_prime, P_are_integers, P_reduced]) := ⟨_, _, G_are_integers, m_are_integers, F_are_integers.kp, D_are_integers⟩
  have G_are_rows := ok_are_rows (P := l.prog) (w := w) (mg := mg) (base := base) F_are_rows B_len X_is_list X_are_integers
  have X_are_rows : Fx l.prog w K mg base "are_rows" 4 ["rows"] (spRows [P_is_prime, P_are_integers, P_reduced]) := ⟨_, _, G_are_rows, m_are_rows, F_are_rows.kp, D_are_rows⟩
  have G_check_rows := ok_check_rows (P := l.prog) (w := w) (mg := mg) (base := base) F_check_rows X_check_prime X_are_rows
  have X_check_rows : Fx l.prog w K mg base "check_rows" 6 ["rows", "prime"] (spCkR [P_is_prime, P_are_integers, P_reduced]) := ⟨_, _, G_check_rows, m_check_rows, F_check_rows.kp, D_check_rows⟩
  have G_width_of := ok_width_of (P := l.prog) (w := w) (mg := mg) (base := base) F_width_of B_len
  have X_width_of : Fx l.prog w K mg base "width_of" 1 ["rows"] (spWid) := ⟨_, _, G_width_of, m_width_of, F_width_of.kp, D_width_of⟩
  have G_row_with := ok_row_with (P := l.prog) (w := w) (mg := mg) (base := base) F_row_with B_enumerate
  have X_row_with : Fx l.prog w K mg base "row_with" 1 ["rows", "column"] (spRw) := ⟨_, _, G_row_with, m_row_with, F_row_with.kp, D_row_with⟩
  have G_scaled := ok_scaled (P := l.prog) (w := w) (mg := mg) (base := base) (T := [P_is_prime, P_are_integers, P_reduced]) F_scaled X_inverse
  have X_scaled : Fx l.prog w K mg base "scaled" 3 ["row", "column", "prime"] (spScl [P_is_prime, P_are_integers, P_reduced]) := ⟨_, _, G_scaled, m_scaled, F_scaled.kp, D_scaled⟩
  have G_cleared := ok_cleared (P := l.prog) (w := w) (mg := mg) (base := base) (T := [P_is_prime, P_are_integers, P_reduced]) F_cleared B_zip
  have X_cleared : Fx l.prog w K mg base "cleared" 1 ["row", "pivot", "column", "prime"] (spClr [P_is_prime, P_are_integers, P_reduced]) := ⟨_, _, G_cleared, m_cleared, F_cleared.kp, D_cleared⟩
  have G_reduced := ok_reduced (P := l.prog) (w := w) (mg := mg) (base := base) F_reduced rfl TB_reduced IN_reduced B_range B_tuple X_width_of X_row_with X_scaled X_cleared
  have X_reduced : Fx l.prog w K mg base "reduced" 4 ["rows", "prime"] (spRed [P_is_prime, P_are_integers, P_reduced]) := ⟨_, _, G_reduced, m_reduced, F_reduced.kp, D_reduced⟩
  have G_rank_of := ok_rank_of (P := l.prog) (w := w) (mg := mg) (base := base) F_rank_of B_len X_check_rows X_reduced
  have X_rank_of : Fx l.prog w K mg base "rank_of" 7 ["rows", "prime"] (spRk [P_is_prime, P_are_integers, P_reduced]) := ⟨_, _, G_rank_of, m_rank_of, F_rank_of.kp, D_rank_of⟩
  have G_echelon := ok_echelon (P := l.prog) (w := w) (mg := mg) (base := base) F_echelon X_check_rows X_reduced
  have X_echelon : Fx l.prog w K mg base "echelon" 7 ["rows", "prime"] (spEc [P_is_prime, P_are_integers, P_reduced]) := ⟨_, _, G_echelon, m_echelon, F_echelon.kp, D_echelon⟩
  have G_solved := ok_solved (P := l.prog) (w := w) (mg := mg) (base := base) F_solved B_len B_zip B_tuple X_check_rows X_are_integers X_width_of X_reduced
  have X_solved : Fx l.prog w K mg base "solved" 7 ["rows", "right", "prime"] (spSv [P_is_prime, P_are_integers, P_reduced]) := ⟨_, _, G_solved, m_solved, F_solved.kp, D_solved⟩
  have G_l_pen := ok_pen (P := l.prog) (w := w) (mg := mg) (base := base) F_l_pen B_int B_list
  have X_l_pen : Fx l.prog w K mg base "_law_pen" 1 ["_law_script"] (spPen K) := ⟨_, _, G_l_pen, m_l_pen, F_l_pen.kp, D_l_pen⟩
  have G_l_draw := ok_draw (P := l.prog) (w := w) (mg := mg) (base := base) F_l_draw B_int B_len
  have I_l_draw := G_l_draw.imp (sp' := spDr [P_is_prime, P_are_integers, P_reduced]) fun _ _ _ _ h => dr_of h
  have X_l_draw : Fx l.prog w K mg base "_law_draw" 1 ["_law_pen_here", "_law_many"] (spDr [P_is_prime, P_are_integers, P_reduced]) := ⟨_, _, I_l_draw, m_l_draw, F_l_draw.kp, D_l_draw⟩
  have G_l_pick := ok_pick (P := l.prog) (w := w) (mg := mg) (base := base) F_l_pick B_len G_l_draw m_l_draw F_l_draw.kp D_l_draw
  have I_l_pick := G_l_pick.imp (sp' := spPk [P_is_prime, P_are_integers, P_reduced] K) fun _ _ _ _ h => pk_of h
  have X_l_pick : Fx l.prog w K mg base "_law_pick" 2 ["_law_pen_here", "_law_some"] (spPk [P_is_prime, P_are_integers, P_reduced] K) := ⟨_, _, I_l_pick, m_l_pick, F_l_pick.kp, D_l_pick⟩
  have G_l_whole := ok_l_whole (P := l.prog) (w := w) (mg := mg) (base := base) F_l_whole B_isinstance B_int B_bool
  have X_l_whole : Fx l.prog w K mg base "_law_is_whole" 1 ["_law_value"] (spWhole K) := ⟨_, _, G_l_whole, m_l_whole, F_l_whole.kp, D_l_whole⟩
  have G_l_pow := ok_l_pow (P := l.prog) (w := w) (mg := mg) (base := base) F_l_pow B_range B_int
  have X_l_pow : Fx l.prog w K mg base "_law_power_mod" 1 ["_law_number", "_law_n", "_law_prime"] (spLPow) := ⟨_, _, G_l_pow, m_l_pow, F_l_pow.kp, D_l_pow⟩
  have G_l_rest := ok_l_rest (P := l.prog) (w := w) (mg := mg) (base := base) (T := [P_is_prime, P_are_integers, P_reduced]) F_l_rest B_zip
  have X_l_rest : Fx l.prog w K mg base "_law_rest" 1 ["_law_basis_here", "_law_row", "_law_prime"] (spRst [P_is_prime, P_are_integers, P_reduced]) := ⟨_, _, G_l_rest, m_l_rest, F_l_rest.kp, D_l_rest⟩
  have G_l_basis := ok_l_basis (P := l.prog) (w := w) (mg := mg) (base := base) F_l_basis B_range B_len X_l_rest X_l_pow
  have X_l_basis : Fx l.prog w K mg base "_law_basis" 2 ["_law_rows", "_law_prime"] (spBas [P_is_prime, P_are_integers, P_reduced]) := ⟨_, _, G_l_basis, m_l_basis, F_l_basis.kp, D_l_basis⟩
  have G_l_rank := ok_l_rank (P := l.prog) (w := w) (mg := mg) (base := base) F_l_rank B_len X_l_basis
  have X_l_rank : Fx l.prog w K mg base "_law_rank" 3 ["_law_rows", "_law_prime"] (spLRk [P_is_prime, P_are_integers, P_reduced]) := ⟨_, _, G_l_rank, m_l_rank, F_l_rank.kp, D_l_rank⟩
  have G_l_inside := ok_l_inside (P := l.prog) (w := w) (mg := mg) (base := base) F_l_inside B_list X_l_rest
  have X_l_inside : Fx l.prog w K mg base "_law_inside" 2 ["_law_basis_here", "_law_row", "_law_prime"] (spIns [P_is_prime, P_are_integers, P_reduced]) := ⟨_, _, G_l_inside, m_l_inside, F_l_inside.kp, D_l_inside⟩
  have G_l_are := ok_l_are (P := l.prog) (w := w) (mg := mg) (base := base) (T := [P_is_prime, P_are_integers, P_reduced]) F_l_are B_isinstance B_tuple B_len X_l_whole
  have X_l_are : Fx l.prog w K mg base "_law_are_rows" 2 ["_law_value", "_law_wide", "_law_prime"] (spAre [P_is_prime, P_are_integers, P_reduced]) := ⟨_, _, G_l_are, m_l_are, F_l_are.kp, D_l_are⟩
  have G_l_ints := ok_l_ints (P := l.prog) (w := w) (mg := mg) (base := base) F_l_ints B_range B_zip X_l_draw X_l_pick
  have X_l_ints : Fx l.prog w K mg base "_law_integers" 3 ["_law_pen_here", "_law_many", "_law_wide", "_law_prime"] (spInt [P_is_prime, P_are_integers, P_reduced]) := ⟨_, _, G_l_ints, m_l_ints, F_l_ints.kp, D_l_ints⟩
  have G_l_ech := ok_l_ech (P := l.prog) (w := w) (mg := mg) (base := base) F_l_ech B_range B_len X_l_are X_l_basis X_l_inside
  have X_l_ech : Fx l.prog w K mg base "_law_echelon_right" 3 ["_law_told", "_law_rows", "_law_wide", "_law_prime"] (spER [P_is_prime, P_are_integers, P_reduced]) := ⟨_, _, G_l_ech, m_l_ech, F_l_ech.kp, D_l_ech⟩
  have TT : TL l.prog w K mg base [P_is_prime, P_are_integers, P_reduced] :=
    ⟨X_l_pen, X_l_draw, X_l_pick, X_l_ints, X_l_rank, X_l_ech, X_l_are, X_echelon, X_rank_of, X_solved, B_range, B_zip, B_list, B_tuple, B_sum, B_int⟩
  exact ok_law F_law TT
end Z
open PySem PySem.W PyProof.Rows
set_option maxRecDepth 100000 in
set_option maxHeartbeats 0 in
theorem PySem.Challenge.cw_anymend_k02_whole_rows_modulo_primes_holds : PySem.Challenge.rw_anymend_k02_whole_rows_modulo_primes.Holds := by
  w_on; o_law; k_head; (case hw => w_witness2)
  k_fill
  refine Z.walkTb (l := PySem.Challenge.rw_anymend_k02_whole_rows_modulo_primes) (n := 63) (k := 8) (x := "_law_script") ["is_prime", "are_integers", "reduced"] rfl (by decide) rfl ⟨rfl, by decide, by decide⟩ (by decide +kernel) (fun w h Y => PySem.W.kIn_of Y) ?F
  case F =>
    intro w mg fa h KX G hmg tabs
    refine' Z.all_mk KX G hmg tabs ?n_is_whole ?l_is_whole ?c_is_whole_ ?k_is_whole ?n_is_list ?l_is_list ?c_is_list_ ?k_is_list ?n_is_prime ?l_is_prime ?c_is_prime_ ?k_is_prime ?lc_is_prime ?tp_is_prime ?n_passes ?l_passes ?c_passes_ ?k_passes ?n_power ?l_power ?c_power_ ?k_power ?n_inverse ?l_inverse ?c_inverse_ ?k_inverse ?n_check_prime ?l_check_prime ?c_check_prime_ ?k_check_prime ?n_are_rows ?l_are_rows ?c_are_rows_ ?k_are_rows ?n_are_integers ?l_are_integers ?c_are_integers_ ?k_are_integers ?lc_are_integers ?tp_are_integers ?n_check_rows ?l_check_rows ?c_check_rows_ ?k_check_rows ?n_rank_of ?l_rank_of ?c_rank_of_ ?k_rank_of ?n_echelon ?l_echelon ?c_echelon_ ?k_echelon ?n_solved ?l_solved ?c_solved_ ?k_solved ?n_width_of ?l_width_of ?c_width_of_ ?k_width_of ?n_reduced ?l_reduced ?c_reduced_ ?k_reduced ?lc_reduced ?tp_reduced ?n_row_with ?l_row_with ?c_row_with_ ?k_row_with ?n_scaled ?l_scaled ?c_scaled_ ?k_scaled ?n_cleared ?l_cleared ?c_cleared_ ?k_cleared ?n_l_pen ?l_l_pen ?c_l_pen_ ?k_l_pen ?n_l_draw ?l_l_draw ?c_l_draw_ ?k_l_draw ?n_l_pick ?l_l_pick ?c_l_pick_ ?k_l_pick ?n_l_whole ?l_l_whole ?c_l_whole_ ?k_l_whole ?n_l_pow ?l_l_pow ?c_l_pow_ ?k_l_pow ?n_l_rest ?l_l_rest ?c_l_rest_ ?k_l_rest ?n_l_basis ?l_l_basis ?c_l_basis_ ?k_l_basis ?n_l_rank ?l_l_rank ?c_l_rank_ ?k_l_rank ?n_l_inside ?l_l_inside ?c_l_inside_ ?k_l_inside ?n_l_are ?l_l_are ?c_l_are_ ?k_l_are ?n_l_ints ?l_l_ints ?c_l_ints_ ?k_l_ints ?n_l_ech ?l_l_ech ?c_l_ech_ ?k_l_ech ?n_law ?l_law ?c_law_ ?k_law ?gL_ ?gW_ ?lW_ ?b_int ?b_bool ?b_len ?b_list ?b_range ?b_isinstance ?b_tuple ?b_all ?b_zip ?b_enumerate ?b_sum ?ntb
    (case n_is_whole => k_is)
    (case l_is_whole => k_is)
    (case c_is_whole_ => k_is)
    (case k_is_whole => k_is)
    (case n_is_list => k_is)
    (case l_is_list => k_is)
    (case c_is_list_ => k_is)
    (case k_is_list => k_is)
    (case n_is_prime => k_is)
    (case l_is_prime => k_is)
    (case c_is_prime_ => k_is)
    (case k_is_prime => k_is)
    (case lc_is_prime => k_is)
    (case tp_is_prime => rfl)
    (case n_passes => k_is)
    (case l_passes => k_is)
    (case c_passes_ => k_is)
    (case k_passes => k_is)
    (case n_power => k_is)
    (case l_power => k_is)
    (case c_power_ => k_is)
    (case k_power => k_is)
    (case n_inverse => k_is)
    (case l_inverse => k_is)
    (case c_inverse_ => k_is)
    (case k_inverse => k_is)
    (case n_check_prime => k_is)
    (case l_check_prime => k_is)
    (case c_check_prime_ => k_is)
    (case k_check_prime => k_is)
    (case n_are_rows => k_is)
    (case l_are_rows => k_is)
    (case c_are_rows_ => k_is)
    (case k_are_rows => k_is)
    (case n_are_integers => k_is)
    (case l_are_integers => k_is)
    (case c_are_integers_ => k_is)
    (case k_are_integers => k_is)
    (case lc_are_integers => k_is)
    (case tp_are_integers => rfl)
    (case n_check_rows => k_is)
    (case l_check_rows => k_is)
    (case c_check_rows_ => k_is)
    (case k_check_rows => k_is)
    (case n_rank_of => k_is)
    (case l_rank_of => k_is)
    (case c_rank_of_ => k_is)
    (case k_rank_of => k_is)
    (case n_echelon => k_is)
    (case l_echelon => k_is)
    (case c_echelon_ => k_is)
    (case k_echelon => k_is)
    (case n_solved => k_is)
    (case l_solved => k_is)
    (case c_solved_ => k_is)
    (case k_solved => k_is)
    (case n_width_of => k_is)
    (case l_width_of => k_is)
    (case c_width_of_ => k_is)
    (case k_width_of => k_is)
    (case n_reduced => k_is)
    (case l_reduced => k_is)
    (case c_reduced_ => k_is)
    (case k_reduced => k_is)
    (case lc_reduced => k_is)
    (case tp_reduced => rfl)
    (case n_row_with => k_is)
    (case l_row_with => k_is)
    (case c_row_with_ => k_is)
    (case k_row_with => k_is)
    (case n_scaled => k_is)
    (case l_scaled => k_is)
    (case c_scaled_ => k_is)
    (case k_scaled => k_is)
    (case n_cleared => k_is)
    (case l_cleared => k_is)
    (case c_cleared_ => k_is)
    (case k_cleared => k_is)
    (case n_l_pen => k_is)
    (case l_l_pen => k_is)
    (case c_l_pen_ => k_is)
    (case k_l_pen => k_is)
    (case n_l_draw => k_is)
    (case l_l_draw => k_is)
    (case c_l_draw_ => k_is)
    (case k_l_draw => k_is)
    (case n_l_pick => k_is)
    (case l_l_pick => k_is)
    (case c_l_pick_ => k_is)
    (case k_l_pick => k_is)
    (case n_l_whole => k_is)
    (case l_l_whole => k_is)
    (case c_l_whole_ => k_is)
    (case k_l_whole => k_is)
    (case n_l_pow => k_is)
    (case l_l_pow => k_is)
    (case c_l_pow_ => k_is)
    (case k_l_pow => k_is)
    (case n_l_rest => k_is)
    (case l_l_rest => k_is)
    (case c_l_rest_ => k_is)
    (case k_l_rest => k_is)
    (case n_l_basis => k_is)
    (case l_l_basis => k_is)
    (case c_l_basis_ => k_is)
    (case k_l_basis => k_is)
    (case n_l_rank => k_is)
    (case l_l_rank => k_is)
    (case c_l_rank_ => k_is)
    (case k_l_rank => k_is)
    (case n_l_inside => k_is)
    (case l_l_inside => k_is)
    (case c_l_inside_ => k_is)
    (case k_l_inside => k_is)
    (case n_l_are => k_is)
    (case l_l_are => k_is)
    (case c_l_are_ => k_is)
    (case k_l_are => k_is)
    (case n_l_ints => k_is)
    (case l_l_ints => k_is)
    (case c_l_ints_ => k_is)
    (case k_l_ints => k_is)
    (case n_l_ech => k_is)
    (case l_l_ech => k_is)
    (case c_l_ech_ => k_is)
    (case k_l_ech => k_is)
    (case n_law => k_is)
    (case l_law => k_is)
    (case c_law_ => k_is)
    (case k_law => k_is)
    (case gL_ => k_is)
    (case gW_ => k_is)
    (case lW_ => k_is)
    (case b_int => k_is)
    (case b_bool => k_is)
    (case b_len => k_is)
    (case b_list => k_is)
    (case b_range => k_is)
    (case b_isinstance => k_is)
    (case b_tuple => k_is)
    (case b_all => k_is)
    (case b_zip => k_is)
    (case b_enumerate => k_is)
    (case b_sum => k_is)
    (case ntb => kernel_rfl)
