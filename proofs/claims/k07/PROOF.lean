import PyProof.Rows.All
import Wide.All
import OpenK.AllK
import Wide.FinOn
import HandS.ForMost
import HandS.AnyAll
import HandS.GenList
import HandS.Walk
import HandS.EndTab
import PyProof.TupleCall
import PyProof.MeetsIn
import PyProof.Rows.Range3
import HandS.Zip
import KE.GoesMore
import KE.GoesEnum
import HandS.TupSets
import HandS.IsInst
import HandS.Codes
import HandS.Exc
import HandS.ExcInit
import HandS.FStr
import HandS.Style
import KE.KDictZip
import HandS.Zip0
import HandS.GenBody
import HandS.Small
import KE.GoesEnumKw
import PyProof.Rows.CallKwBuiltin
import PyProof.Rows.CallKw2
import HandS.TryMany
import HandS.ExcValue
import HandS.ExcField
import HandS.ExcOwn
import HandS.ForExc
import HandS.EndOwn
import HandS.Lambda
import PyProof.ReprRoads
import HandS.WordsExc
import PyProof.NeKinds
import HandS.Steps
import KE.KNest
import KE.KNestM
import PySem.Challenge.RW_anymend_k07_whole_names_and_forms
set_option Elab.async false
set_option linter.all false
set_option maxRecDepth 100000
set_option maxHeartbeats 2000000
namespace GX
open PySem PySem.Spec PyProof.Rows L2
/-! generator expressions over anything that is walked, their elements by the hand layer: the frame -/
theorem over_comp {A : Around} {elt tg iter : Expr} {ifs : List Expr} {scope : Scope} {pos : Pos} {it acc : Value} {env : Env} :
    A.over (.compLoop (.GeneratorExp elt [⟨tg, iter, ifs, 0⟩] scope pos) 0 it acc env) [] = A.deeper env := by
  first
    | rfl
    | (obtain ⟨hd, d, fr, gs, u⟩ := A; simp [Around.over, Around.deeper, marksOver, frameCount, unitsOf, envsOf, guardsOf, pushEnvs, pushGuards, Code.envs, Code.env?, Code.isFrame, Code.guards, Code.isGuard, Code.weight, Code.frames, Code.isCreation, Code.isCaller, Code.cUnits])
theorem over_start {A : Around} {elt tg iter : Expr} {ifs : List Expr} {scope : Scope} {pos : Pos} {it acc : Value} {env : Env} :
    A.over (.compStart (.GeneratorExp elt [⟨tg, iter, ifs, 0⟩] scope pos) 0 it acc env) [] = A.deeper env := by
  first
    | rfl
    | (obtain ⟨hd, d, fr, gs, u⟩ := A; simp [Around.over, Around.deeper, marksOver, frameCount, unitsOf, envsOf, guardsOf, pushEnvs, pushGuards, Code.envs, Code.env?, Code.isFrame, Code.guards, Code.isGuard, Code.weight, Code.frames, Code.isCreation, Code.isCaller, Code.cUnits])
/-- the frame's context; s, H: where it was made; fp: the walked iterator's objects -/
abbrev gxc (X : Cx) (A : Around) (s : Shared) (H : Hp) (env : Env) (N : List Str) (fp : List Addr) (pn : List (Addr × Obj)) : Cx :=
  { X with A := A, N := N, s_0 := s, H_0 := H, env := env, outer := X.stack, stack := env :: X.stack, ex := fp, fn := fun _ => false, calm := true, pn := pn, xe := fun _ _ => False }
abbrev gxe (X : Cx) (scope : Scope) (C : Addr) (code : Value) : Env := genEnv scope (cloFrom X.env.cells scope.names []) C code builtinsNs X.env
/-- the scope of the expression: sc the def's, N its slots, Ng the frame's slots, src: the def's slots of the captured ones -/
structure GScp (sc scope : Scope) (N Ng : List Str) (src : List (Option Nat)) : Prop where
  kind : scope.kind = .function
  co : scope.isCoroutine = false
  uniq : ∀ y ∈ scope.names, scope.names.lookup y.1 = some y.2
  cell : ∀ y ∈ scope.names, y.2 ≠ .cell
  dot : scope.names.lookup (".0" : Str) = some NameKind.local
  free : ∀ y ∈ scope.names, y.2 = .free → sc.names.lookup y.1 = some .cell ∨ sc.names.lookup y.1 = some .free
  len : src.length = Ng.length
  src : ∀ i j : Nat, src[i]? = some (some j) → ∃ y, Ng[i]? = some y ∧ N[j]? = some y ∧ scope.names.lookup y = some .free
def isF : Option NameKind → Bool
  | some .free => true
  | _ => false
def isCF : Option NameKind → Bool
  | some .free => true
  | some .cell => true
  | _ => false
def isL : Option NameKind → Bool
  | some .local => true
  | _ => false
def isFn : ScopeKind → Bool
  | .function => true
  | _ => false
def gscpB (sc scope : Scope) (N Ng : List Str) (src : List (Option Nat)) : Bool :=
  isFn scope.kind && !scope.isCoroutine && scope.names.all (fun y => decide (scope.names.lookup y.1 = some y.2)) && scope.names.all (fun y => !decide (y.2 = .cell)) && isL (scope.names.lookup (".0" : Str)) &&
  scope.names.all (fun y => !decide (y.2 = .free) || isCF (sc.names.lookup y.1)) && decide (src.length = Ng.length) &&
  (List.range src.length).all fun i => match src[i]? with
    | some (some j) => (match Ng[i]? with
      | some y => decide (N[j]? = some y) && isF (scope.names.lookup y)
      | none => false)
    | _ => true
theorem isF_eq {o : Option NameKind} (h : isF o = true) : o = some .free := by
  cases o with
  | none => cases h
  | some k => cases k <;> first | rfl | cases h
theorem isL_eq {o : Option NameKind} (h : isL o = true) : o = some .local := by
  cases o with
  | none => cases h
  | some k => cases k <;> first | rfl | cases h
theorem isCF_eq {o : Option NameKind} (h : isCF o = true) : o = some .cell ∨ o = some .free := by
  cases o with
  | none => cases h
  | some k => cases k <;> first | exact .inl rfl | exact .inr rfl | cases h
theorem isFn_eq {k : ScopeKind} (h : isFn k = true) : k = .function := by
  cases k <;> first | rfl | cases h
theorem gscp_by {sc scope : Scope} {N Ng : List Str} {src : List (Option Nat)} (h : gscpB sc scope N Ng src = true) : GScp sc scope N Ng src := by
  unfold gscpB at h
  simp only [Bool.and_eq_true, Bool.not_eq_true', List.all_eq_true, decide_eq_true_eq, Bool.or_eq_true, decide_eq_false_iff_not] at h
  obtain ⟨⟨⟨⟨⟨⟨⟨h1, h2⟩, h3⟩, h4⟩, h5⟩, h6⟩, h7⟩, h8⟩ := h
  refine ⟨isFn_eq h1, h2, fun y hy => h3 y hy, fun y hy => h4 y hy, isL_eq h5, fun y hy e => ?_, h7, fun i j e => ?_⟩
  · rcases h6 y hy with q | q
    · exact absurd e q
    · exact isCF_eq q
  · have hi : i < src.length := (List.getElem?_eq_some_iff.mp e).1
    have q := h8 i (List.mem_range.mpr hi)
    rw [e] at q
    simp only at q
    split at q
    · rename_i y hy
      rw [Bool.and_eq_true, decide_eq_true_eq] at q
      exact ⟨y, hy, q.1, isF_eq q.2⟩
    · cases q
def sel (σ : L2.St) (src : List (Option Nat)) : L2.St := src.map fun o => o.bind fun j => (σ[j]?).join
theorem sel_some {σ : L2.St} {src : List (Option Nat)} {i : Nat} {v : V} (h : (sel σ src)[i]? = some (some v)) : ∃ j, src[i]? = some (some j) ∧ σ[j]? = some (some v) := by
  unfold sel at h
  rw [List.getElem?_map] at h
  cases e : src[i]? with
  | none => rw [e] at h; cases h
  | some o =>
    rw [e] at h
    have h := Option.some.inj h
    cases o with
    | none => cases h
    | some j =>
      refine ⟨j, rfl, ?_⟩
      have h : (σ[j]?).join = some v := h
      cases e2 : σ[j]? with
      | none => rw [e2] at h; cases h
      | some q => rw [e2] at h; rw [show q = some v from h]
section
variable {X : Cx} {pins pins' : List (Addr × Obj)} {σ : L2.St} {H : Hp} {s s5 : Shared} {A : Around} {scope : Scope} {code : Value} {Ng : List Str} {src : List (Option Nat)} {fp : List Addr} {pn : List (Addr × Obj)} {C : Addr} {mC : Str → Option Value}
theorem GScp.has (S : GScp X.env.scope scope X.N Ng src) (ok : X.Ok) : ∀ y ∈ scope.names, y.2 = .free → ∃ c, X.env.cells.lookup y.1 = some c := fun y hy e => by
  rcases S.free y hy e with k | k
  · exact ok.has _ (.inl k)
  · exact ok.has _ (.inr k)
theorem GScp.clo (S : GScp X.env.scope scope X.N Ng src) (ok : X.Ok) {y : Str} (hl : scope.names.lookup y = some .free) : ∃ c, (cloFrom X.env.cells scope.names []).lookup y = some c ∧ X.env.cells.lookup y = some c := by
  have hy : (y, NameKind.free) ∈ scope.names := PySem.mem_of_lookup hl
  obtain ⟨c', e'⟩ := mem_lookup (cloFrom_has (cells := X.env.cells) (acc := []) hy)
  refine ⟨c', e', ?_⟩
  rcases cloFrom_mem (PySem.mem_of_lookup e') with hm | ⟨h1, rfl⟩
  · cases hm
  · obtain ⟨c, hc⟩ := S.has ok _ h1 rfl
    rw [hc]
    rfl
theorem GScp.cm (S : GScp X.env.scope scope X.N Ng src) (ok : X.Ok) {y : Str} {c : Addr} (h : (cloFrom X.env.cells scope.names []).lookup y = some c) : X.env.cells.lookup y = some c ∧ scope.names.lookup y = some .free := by
  rcases cloFrom_mem (PySem.mem_of_lookup h) with hm | ⟨h1, rfl⟩
  · cases hm
  · obtain ⟨c, hc⟩ := S.has ok _ h1 rfl
    have := S.uniq _ h1
    rw [hc]
    exact ⟨rfl, this⟩
/-- the frame's first state -/
theorem gx_start (I : Inv X pins σ H s) (S : GScp X.env.scope scope X.N Ng src) (hA : A.handled = none) (hf : A.frames = some X.stack) (hfp : ∀ b ∈ fp, FpOk X pins H b ∧ b < s.heap.objs.size) (hC : s.heap.objs.size ≤ C)
    (keep : ∀ b o, s.heap.get? b = some o → s5.heap.get? b = some o) (ns : s5.heap.Ns C mC) (os : s5.os = s.os) (bare : AllBare s5.gens)
    (hp : ∀ p ∈ pn ++ pins', s5.heap.get? p.1 = some p.2 ∧ H p.1 = none ∧ p.1 ≠ C ∧ p.1 ∉ frs X.stack ∧ ∀ v, p.2.data ≠ .cell v) :
    Inv (gxc X (A.deeper (gxe X scope C code)) s H (gxe X scope C code) Ng fp pn) pins' (sel σ src) H s5 := by
  have okB : (gxc X (A.deeper (gxe X scope C code)) s H (gxe X scope C code) Ng fp pn).Ok := by
    refine ⟨I.ok.mod, S.kind, I.ok.glob, rfl, hC, fun y z c e1 e2 => I.ok.inj y z c (S.cm I.ok e1).1 (S.cm I.ok e2).1, fun y hy => ?_, fun y c z _ => (by cases z), fun _ => hA, Around.frames_deeper hf, .inr ⟨rfl, rfl⟩, fun b hb => ⟨?_, fun y c e z => ?_⟩, I.bs, Nat.le_trans I.ok.bsz I.sz, fun b o e hb => ?_, fun b hb z => ?_, I.stack, I.stkFree⟩
    · have hy : scope.names.lookup y = some .cell ∨ scope.names.lookup y = some .free := hy
      rcases hy with hy | hy
      · exact absurd rfl (S.cell _ (PySem.mem_of_lookup hy))
      · obtain ⟨c, h1, _⟩ := S.clo I.ok hy
        exact ⟨c, h1⟩
    · exact Nat.ne_of_lt (Nat.lt_of_lt_of_le (hfp b hb).2 hC)
    · exact (hfp b hb).1.2.2.2.2.1 y c (S.cm I.ok e).1 z
    · rcases (hfp b hb).1.2.2.2.1 with z | z
      · exact I.ok.noex b o e z
      · exact absurd (Nat.lt_of_lt_of_le (Heap.lt_size e) (Nat.le_trans I.ok.bsz z)) (Nat.lt_irrefl _)
    · rcases List.mem_cons.mp (I.stkSub b z) with z | z
      · exact (hfp b hb).1.2.1 z
      · exact (hfp b hb).1.2.2.1 z
  refine ⟨okB, os, bare, Un.kept keep, ⟨mC, ns, fun i y v e1 e2 e3 => ?_⟩, fun y c e => ?_, I.hok.fresh hC, fun y c e => I.freeC y c (S.cm I.ok e).1, hp, I.hok.kept keep, ?_⟩
  · obtain ⟨j, h1, h2⟩ := sel_some e2
    obtain ⟨y', g1, g2, g3⟩ := S.src i j h1
    rw [show Ng[i]? = some y from e1] at g1
    cases g1
    have hk := S.free _ (PySem.mem_of_lookup g3) rfl
    obtain ⟨mX, nX, hl⟩ := I.loc
    obtain ⟨u, r, l⟩ := hl j y v g2 h2 (by rcases hk with q | q; exact .inr (.inl q); exact .inr (.inr q))
    refine ⟨u, r, .inr ⟨.inr g3, ?_⟩⟩
    obtain ⟨c, e4, e5⟩ := S.clo I.ok g3
    rcases l with ⟨l, _⟩ | ⟨_, c', e, z⟩
    · have l : X.env.scope.names.lookup y = some .local := l
      rcases hk with q | q <;> (rw [l] at q; cases q)
    · rw [e5] at e
      cases e
      exact ⟨c, e4, z.keeps keep⟩
  · obtain ⟨v, z⟩ := I.cell y c (S.cm I.ok e).1
    exact ⟨v, z.keeps keep⟩
  · show (sel σ src).length = Ng.length
    unfold sel
    rw [List.length_map]
    exact S.len
end
end GX
set_option Elab.async false
set_option linter.all false
set_option maxRecDepth 100000
set_option maxHeartbeats 2000000
namespace GX
open PySem PySem.Spec PyProof.Rows L2
/-! the turns -/
abbrev CP := List V → List (Addr × Obj) → Prop
abbrev STP := List V → V → Hp → (Hp → Prop) → Prop
abbrev EN := List V → Hp → Prop
/-- an item is handed out: cp tells what the consumer keeps of its own -/
def Yp (Y : Cx) (cp : CP) (Step : STP) : Protocol := fun n s₀ v s kap =>
  ∃ (ys : List V) (y : V) (ps ip : List (Addr × Obj)) (σ2 : L2.St) (H : Hp) (Nx : Hp → Prop), RelV y v ∧ cp ys ps ∧ (∀ p ∈ ip, p.1 < Y.s_0.heap.objs.size) ∧ Inv Y (ps ++ ip) σ2 H s ∧ Step ys y H Nx ∧
    ∀ s' ps', cp (ys ++ [y]) ps' → Inv Y (ps' ++ ip) σ2 H s' → Nx H → kap (.send .none) s'
def Rp (Y : Cx) (cp : CP) (End : EN) : GenEnd := fun n s₀ r s => r = .ok .next ∧ ∃ (ys : List V) (ps : List (Addr × Obj)) (σ2 : L2.St) (H : Hp), cp ys ps ∧ Inv Y ps σ2 H s ∧ End ys H
/-- the reading of the turns: by the turn, a measure, what is out, the heap -/
def Turns (J : It) (g : TG) (tt : TT) (te : TE) (σg : L2.St) (vs : List Nat) (Step : STP) (End : EN) (W : Nat → Nat → List V → Hp → Prop) : Prop :=
  ∀ i m ys H, W i m ys H → (J.stop i H ∧ End ys H) ∨ (J.go i H ∧ ∃ Nx : List V → Hp → Prop, (∀ ys' H', Nx ys' H' → ∃ m', m' < m ∧ W (i + 1) m' ys' H') ∧
    ∀ x H', J.yld i H x H' → g x σg H' fun σ2 H2 => wipe σ2 vs = σg ∧ tt σ2 H2 fun b H3 => if b = true then te σ2 H3 fun y H4 => Step ys y H4 (Nx (ys ++ [y])) else Nx ys H3)
section
variable {Y : Cx} {A : Around} {elt tg iter : Expr} {ifs : List Expr} {scope : Scope} {pos : Pos} {J : It} {fp : List Addr} {it : Addr} {tn : Nat → Heap → Prop} {g : TG} {tt : TT} {te : TE} {σg : L2.St} {vs : List Nat} {Step : STP} {End : EN} {W : Nat → Nat → List V → Hp → Prop} {cp : CP}
theorem stat (hx : Y.ex = fp) (hpn : ∀ p ∈ Y.pn, p.1 ∉ fp) {ps : List (Addr × Obj)} (hps : ∀ p ∈ ps, p.1 ∉ fp) {σ : L2.St} {H : Hp} {s : Shared} (I : Inv Y ps σ H s) (hn : ∀ b ∈ fp, H b = none) : ∀ b ∈ fp, FpOk Y ps H b := fun b hb =>
  ⟨hn b hb, (I.ok.exf b (hx ▸ hb)).1, I.ok.exfs b (hx ▸ hb), .inl (hx ▸ hb), fun x c e => (I.ok.exf b (hx ▸ hb)).2 x c e, fun p hp z => by
    rcases List.mem_append.mp hp with q | q
    · exact hpn p q (z ▸ hb)
    · exact hps p q (z ▸ hb)⟩
theorem seg_loop (hA : A.deeper Y.env = Y.A) (hc : Y.calm = true) (hxe : Y.xe = fun _ _ => False) (hx : Y.ex = fp) (hpn : ∀ p ∈ Y.pn, p.1 ∉ fp) (hco : Y.env.scope.isCoroutine = false) (hfs : ∀ b ∈ fp, b < Y.s_0.heap.objs.size) (T : Turn Y.prog Y.w Y.K tg J fp it tn) (hg : PG Y tg g) (ht : PTs Y ifs tt) (he : PE Y elt te)
    (hcp : ∀ ys ps, cp ys ps → ∀ p ∈ ps, p.1 ∉ fp) (turn : Turns J g tt te σg vs Step End W) :
    ∀ (m n i : Nat) (ys : List V) (s₀ s : Shared) (H : Hp) (ps : List (Addr × Obj)), m < n → W i m ys H → cp ys ps → Inv Y ps σg H s → tn i s.heap → (∀ b ∈ fp, H b = none) →
      Seg (model Y.prog Y.w) A (Rp Y cp End) (Yp Y cp Step) n s₀ (.compLoop (.GeneratorExp elt [⟨tg, iter, ifs, 0⟩] scope pos) 0 (.ref it) .none Y.env)
        ((model Y.prog Y.w).den (.compLoop (.GeneratorExp elt [⟨tg, iter, ifs, 0⟩] scope pos) 0 (.ref it) .none Y.env)) [] s := by
  intro m
  induction m using Nat.strongRecOn with
  | ind m ih =>
    intro n i ys s₀ s H ps hmn w hc1 I st hn
    have ov : A.over (.compLoop (.GeneratorExp elt [⟨tg, iter, ifs, 0⟩] scope pos) 0 (.ref it) .none Y.env) [] = Y.A := over_comp.trans hA
    have F : ∀ {α : Type} {t : Sem α} {Q : α → Shared → Prop} {E : Value → Shared → Prop} {s : Shared}, wpAny (model Y.prog Y.w) Y.A t Q Y.xe s → wpAny (model Y.prog Y.w) Y.A t Q E s := fun {α t Q E s} h => by
      rw [hxe] at h
      exact wpAny_mono h (fun _ _ z => z) fun _ _ z => False.elim z
    have back : ∀ {ps : List (Addr × Obj)} {s7 s' : Shared} {σ8 : L2.St} {H' : Hp}, Inv Y (ps ++ pinsAt fp s7.heap) σ8 H' s' → wipe σ8 vs = σg → tn (i + 1) s7.heap → Inv Y ps σg H' s' ∧ tn (i + 1) s'.heap ∧ ∀ b ∈ fp, H' b = none := fun {ps s7 s' σ8 H'} I' hw st7 => by
      have pin' : ∀ b ∈ fp, ∀ o, s7.heap.get? b = some o → s'.heap.get? b = some o ∧ H' b = none := fun b hb o e =>
        let z := I'.pin (b, o) (List.mem_append_right _ (List.mem_append_right _ (mem_pinsAt hb e)))
        ⟨z.1, z.2.1⟩
      refine ⟨I'.unpinned.weak (by rw [← hw, wipe_length]) fun j v e => ?_, T.keep _ _ _ st7 fun b hb o e => (pin' b hb o e).1, fun b hb => ?_⟩
      · rw [← hw] at e
        exact (wipe_some e).1
      · obtain ⟨o, e, _⟩ := T.obj _ _ st7 b hb
        exact (pin' b hb o e).2
    show Seg _ A _ _ n s₀ _ ((compTurn (.GeneratorExp elt [⟨tg, iter, ifs, 0⟩] scope pos) 0 (.ref it) .none Y.env).onRaise (leaving Y.env)) [] s
    rw [compTurn_gen, Sem.onRaise_eq_wrap]
    refine seg_bind_wrap ?_
    rw [ov]
    refine wpAny_standAt ?_
    have hS := stat hx hpn (hcp ys ps hc1) I hn
    rcases turn i m ys H w with ⟨stop, hE⟩ | ⟨go, Nx, hNx, step⟩
    · refine seg_bind_wrap ?_
      rw [ov]
      refine thnF (T.done Y rfl rfl rfl hc i ps s σg H (fun _ _ => False) I hS st stop) fun r s1 ⟨hr, I1⟩ => ?_
      subst hr
      exact seg_end (.ok .next) ⟨rfl, ys, ps, σg, H, hc1, I1, hE⟩
    · refine seg_bind_wrap ?_
      rw [ov]
      refine thnF (T.item Y rfl rfl rfl hc i ps s σg H (fun _ _ => False) I hS st go) fun r s1 ⟨u, hr, h1⟩ => ?_
      subst hr
      refine seg_bind_wrap ?_
      rw [ov]
      refine thnF h1 fun _ s7 ⟨x, H7, I7, r7, y7, st7, n7⟩ => ?_
      have I7' := I7.pinned (stat hx hpn (hcp ys ps hc1) I7 n7) (T.obj _ _ st7)
      refine seg_bind_wrap ?_
      rw [ov]
      refine thn (F (hg.run _ s7 _ H7 x u _ I7' r7 (step x H7 y7))) fun _ s8 ⟨σ8, H8, I8, hw8, q8⟩ => ?_
      refine seg_bind_wrap ?_
      rw [ov]
      refine thn (F (ht.run _ s8 σ8 H8 _ I8 q8)) fun b s9 ⟨H9, I9, q9⟩ => ?_
      cases b with
      | false =>
        simp only [Bool.false_eq_true, if_false] at q9 ⊢
        obtain ⟨m', hm, w'⟩ := hNx _ _ q9
        obtain ⟨J1, J2, J3⟩ := back I9 hw8 st7
        exact seg_again rfl (ih m' hm n (i + 1) ys s₀ s9 H9 ps (Nat.lt_trans hm hmn) w' hc1 J1 J2 J3)
      | true =>
        simp only [if_true] at q9 ⊢
        have hy : ∀ v, yieldOut Y.env v = yieldValue v := fun v => by simp only [yieldOut, hco, Bool.false_eq_true, if_false]
        simp only [hy]
        rw [Sem.bind_eq_wrap', Sem.bind_eq_wrap', Sem.wrap_wrap, Sem.wrap_wrap]
        refine seg_wrap ?_
        rw [ov]
        refine thn (F (he.run _ s9 σ8 H9 _ I9 q9)) fun v s10 ⟨y, H10, I10, ry, q10⟩ => ?_
        obtain ⟨n', rfl⟩ : ∃ k, n = k + 1 := ⟨n - 1, by omega⟩
        refine seg_at (seg_yield rfl rfl rfl ⟨ys, y, ps, pinsAt fp s7.heap, σ8, H10, Nx (ys ++ [y]), ry, hc1, fun p hp => hfs _ (of_pinsAt hp).1, I10, q10, fun s' ps' hc' I' nx => ?_⟩)
        obtain ⟨m', hm, w'⟩ := hNx _ _ nx
        obtain ⟨J1, J2, J3⟩ := back I' hw8 st7
        exact seg_again rfl (ih m' hm n' (i + 1) (ys ++ [y]) s' s' H10 ps' (by omega) w' hc' J1 J2 J3)
theorem seg_start (hA : A.deeper Y.env = Y.A) (hc : Y.calm = true) (hxe : Y.xe = fun _ _ => False) (hx : Y.ex = fp) (hpn : ∀ p ∈ Y.pn, p.1 ∉ fp) (hco : Y.env.scope.isCoroutine = false) (hfs : ∀ b ∈ fp, b < Y.s_0.heap.objs.size) (T : Turn Y.prog Y.w Y.K tg J fp it tn) (hg : PG Y tg g) (ht : PTs Y ifs tt) (he : PE Y elt te)
    (hcp : ∀ ys ps, cp ys ps → ∀ p ∈ ps, p.1 ∉ fp) (turn : Turns J g tt te σg vs Step End W) {m n : Nat} {s₀ s : Shared} {H : Hp} {ps : List (Addr × Obj)} (hmn : m < n) (w : W 0 m [] H) (hc1 : cp [] ps) (I : Inv Y ps σg H s) (st : tn 0 s.heap) (hn : ∀ b ∈ fp, H b = none) :
      Seg (model Y.prog Y.w) A (Rp Y cp End) (Yp Y cp Step) n s₀ (.compStart (.GeneratorExp elt [⟨tg, iter, ifs, 0⟩] scope pos) 0 (.ref it) .none Y.env)
        ((model Y.prog Y.w).den (.compStart (.GeneratorExp elt [⟨tg, iter, ifs, 0⟩] scope pos) 0 (.ref it) .none Y.env)) [] s := by
  have loop := seg_loop (iter := iter) (scope := scope) (pos := pos) hA hc hxe hx hpn hco hfs T hg ht he hcp turn m n 0 [] s₀ s H ps hmn w hc1 I st hn
  show Seg _ A _ _ n s₀ _ ((compStart (.GeneratorExp elt [⟨tg, iter, ifs, 0⟩] scope pos) 0 (.ref it) .none Y.env).onRaise (leaving Y.env)) [] s
  unfold compStart
  rw [Sem.onRaise_eq_wrap]
  show Seg _ A _ _ n s₀ _ ((ask >>= _).wrap _ _ _ _) [] s
  refine seg_bind_wrap (wpAny_askSetting ?_)
  split
  · exact seg_again rfl loop
  · first
      | exact seg_bind_wrap (wpAny_rule (seg_bind_wrap (wpAny_standAt (seg_bind_wrap (T.self _ 0 s _ _ st (seg_again rfl loop))))))
      | (refine seg_bind_wrap (wpAny_rule ?_); show Seg _ A _ _ n s₀ _ ((standAt iter.pos >>= _).wrap _ _ _ _) [] s; exact seg_bind_wrap (wpAny_standAt (seg_bind_wrap (T.self _ 0 s _ _ st (seg_again rfl loop)))))
end
end GX
set_option Elab.async false
set_option linter.all false
set_option maxRecDepth 100000
set_option maxHeartbeats 2000000
namespace GX
open PySem PySem.Spec PyProof.Rows L2
/-! the generator, made -/
theorem nostk {X : Cx} {pins : List (Addr × Obj)} {σ : L2.St} {H : Hp} {s : Shared} (I : Inv X pins σ H s) {a : Addr} (h : s.heap.objs.size ≤ a) : a ∉ frs X.stack := fun z => by
  rcases List.mem_cons.mp (I.stkSub a z) with e | e
  · have h1 := I.lt
    rw [← e] at h1
    exact absurd (Nat.lt_of_lt_of_le h1 h) (Nat.lt_irrefl _)
  · exact I.nofs h e
/-- back in the def's context -/
theorem gx_back {X : Cx} {pins ps pn : List (Addr × Obj)} {σ σ' : L2.St} {H2 H : Hp} {s3 s1 : Shared} {A : Around} {env : Env} {Ng : List Str} {fp : List Addr} (I : Inv X pins σ H2 s3) (hfp : ∀ b ∈ fp, FpOk X pins H2 b)
    (J : Inv (gxc X A s3 H2 env Ng fp pn) ps σ' H s1) : Inv X pins σ H s1 :=
  I.call' (ch := fp) J.os J.base J.hok J.bare fun b hb => ⟨(hfp b hb).2.2.2.1, (hfp b hb).2.1, (hfp b hb).2.2.2.2.1, (hfp b hb).2.2.2.2.2⟩
def MadeG (X : Cx) (k : Nat) (pins : List (Addr × Obj)) (σ : L2.St) (Step : STP) (End : EN) (u : Value) (s' : Shared) : Prop :=
  ∃ (a : Addr) (g : Nat) (c : Code) (m : Nat) (s3 : Shared) (H2 : Hp) (env : Env) (Ng : List Str) (fp : List Addr) (go : Obj),
    u = .ref a ∧ (∀ h : Heap, h.get? a = some go → h.IsGen a g) ∧ s'.heap.get? a = some go ∧ s'.gens[g]? = some (.fresh c) ∧ s'.heap.NoLimit ∧ AllBare s'.gens ∧ s'.os = s3.os ∧
    Inv X pins σ H2 s3 ∧ (∀ b ∈ fp, FpOk X pins H2 b) ∧ s3.heap.objs.size ≤ s'.heap.objs.size ∧ a < s'.heap.objs.size ∧
    ∀ (A : Around) (cp : CP), A.frames = some X.stack → A.handled = none → Room k (A.deeper env) → (∀ ys ps, cp ys ps → ∀ p ∈ ps, s'.heap.objs.size ≤ p.1) →
      ∀ (s2 : Shared) (ps : List (Addr × Obj)), s2.os = s'.os → AllBare s2.gens → (∀ b o, s'.heap.get? b = some o → s2.heap.get? b = some o) → cp [] ps → (∀ p ∈ ps, s2.heap.get? p.1 = some p.2 ∧ ∀ v, p.2.data ≠ .cell v) →
        Seg (model X.prog X.w) A (Rp (gxc X (A.deeper env) s3 H2 env Ng fp [(a, go)]) cp End) (Yp (gxc X (A.deeper env) s3 H2 env Ng fp [(a, go)]) cp Step) (m + 1) s2 c ((model X.prog X.w).den c) [] s2
/-- the reading of a generator expression: what each item wants, what the end wants -/
def tGX (P : Addr) (wi : TI) (g : TG) (tt : TT) (te : TE) (src : List (Option Nat)) (vs : List Nat) (Step : STP) (End : EN) (σ : L2.St) (H : Hp) : Prop :=
  wi σ H fun J H1 => GxR.TabG H1 P ∧ ∀ H2, GxR.Tabbed P H1 H2 → ∃ W : Nat → Nat → List V → Hp → Prop, (∃ m, W 0 m [] H2) ∧ Turns J g tt te (sel σ src) vs Step End W
section
variable {X : Cx} {pins : List (Addr × Obj)} {σ : L2.St} {H : Hp} {s : Shared} {elt tg iter : Expr} {ifs : List Expr} {scope : Scope} {gpos : Pos} {g : TG} {tt : TT} {te : TE} {wi : TI} {Ng : List Str} {src : List (Option Nat)} {vs : List Nat} {Step : STP} {End : EN} {c P : Addr} {k : Nat} {Q' : Value → Shared → Prop}
theorem gen_any (hd : X.A.handled = none) (hroom : X.A.depth < recursionLimit) (TB : GxR.TabB X.base X.mg c P) (hcode : X.env.code = .ref c) (S : GScp X.env.scope scope X.N Ng src) (hi : PI X tg iter wi)
    (hg : ∀ (A : Around) (s : Shared) (H : Hp) (C : Addr) (code : Value) (fp : List Addr) (pn : List (Addr × Obj)), Room k A → PG (gxc X A s H (gxe X scope C code) Ng fp pn) tg g)
    (ht : ∀ (A : Around) (s : Shared) (H : Hp) (C : Addr) (code : Value) (fp : List Addr) (pn : List (Addr × Obj)), Room k A → PTs (gxc X A s H (gxe X scope C code) Ng fp pn) ifs tt)
    (he : ∀ (A : Around) (s : Shared) (H : Hp) (C : Addr) (code : Value) (fp : List Addr) (pn : List (Addr × Obj)), Room k A → PE (gxc X A s H (gxe X scope C code) Ng fp pn) elt te)
    (hs : ∀ v, genFold iter X.env v = pure v) (I : Inv X pins σ H s) (h : tGX P wi g tt te src vs Step End σ H) (hQ : ∀ u s', MadeG X k pins σ Step End u s' → Q' u s') :
    wpAny (model X.prog X.w) X.A (eval (.GeneratorExp elt [⟨tg, iter, ifs, 0⟩] scope gpos) X.env) Q' X.xe s := by
  refine wpAny_GeneratorExp_make S.co (closure_ok (S.has I.ok)) S.cell S.dot S.kind hroom ?_ hs
  refine thn (hi.run pins s σ H _ I h) fun xv s1 hx => thn hx fun itv s2 h2 => ?_
  obtain ⟨it, fp, tn, J, H1, rfl, I2, T, st2, f2, ⟨ps, hP, htr⟩, q⟩ := h2
  refine ⟨I2.nolimit, ?_⟩
  have hPs : s2.heap.get? P = some { cls := .none, data := .fields ps } := I2.hok P _ hP
  have cd : PySem.W.CodeHd s2.heap c P := TB.code.keeps fun b u e => I2.bk b u e
  have fsz : ∀ b ∈ fp, b < s2.heap.objs.size := fun b hb => by
    obtain ⟨o, e, _⟩ := T.obj _ _ st2 b hb
    exact Heap.lt_size e
  have fnP : ∀ b ∈ fp, b ≠ P := fun b hb z => by
    have e := (f2 b hb).1
    rw [z, hP] at e
    cases e
  have cont : ∀ (code : Value) (h3 : Heap) (tk : Nat) (ps' : Array Value), Heap.ExtBut P s2.heap h3 → s2.heap.objs.size ≤ h3.objs.size → h3.get? P = some { cls := .none, data := .fields ps' } → (∃ more, ps' = ps ++ more) → TriplesOk ps'.toList →
      wpAny (model X.prog X.w) X.A (builtinsFor X.env.globals X.env.builtins) (fun bi s₄ =>
        ∀ h', h'.Ns s₄.heap.objs.size (fun y => if y = ".0" then some (Value.ref it) else none) → Heap.SameBut s₄.heap.objs.size (s₄.heap.push { cls := .type "frame", data := .dict #[] }) h' →
          Q' (.ref h'.objs.size) { s₄ with
            gens := s₄.gens.push (.fresh (.compStart (.GeneratorExp elt [⟨tg, iter, ifs, 0⟩] scope gpos) 0 (.ref it) .none (genEnv scope (cloFrom X.env.cells scope.names []) s₄.heap.objs.size code bi X.env))),
            toks := s₄.toks + 1 + 1 + 1,
            heap := h'.push { cls := .type "generator", data := .fields #[.int s₄.gens.size 0, .str "<genexpr>" (s₄.toks + 1), .str (X.env.qual ++ "<genexpr>") (s₄.toks + 1 + 1)] } }) X.xe { s2 with heap := h3, toks := tk } := by
    rintro code h3 tk ps' hx hsz hP3 ⟨more, rfl⟩ ht3
    obtain ⟨bm, ob, e1, e2, e3, e4, e5, e6, e7, e8⟩ := TB.bm
    have keep3 : ∀ b u, b ≠ P → s2.heap.get? b = some u → h3.get? b = some u := fun b u hb e => hx b u hb e
    refine wpAny_builtinsFor (m := X.mg) (by rw [I2.ok.glob]; exact (I2.mod.glob.keeps I2.bk).extBut hx TB.gP) e1 e2 (keep3 _ _ e4 (I2.bk _ _ e5)) e6 e7 e8 ?_
    have J3 : Inv X pins σ (upd H1 P (.tbl (ps ++ more))) { s2 with heap := h3, toks := tk } := GxR.inv_tab (more := more) (h' := h3) (g' := s2.gens) (d' := s2.drawn) (t' := tk) I2 hP keep3 hP3 I2.bare
    have tb : GxR.Tabbed P H1 (upd H1 P (.tbl (ps ++ more))) := ⟨⟨_, upd_same, ht3⟩, fun b hb => upd_ne hb⟩
    obtain ⟨W, ⟨m, w0⟩, turn⟩ := q _ tb
    generalize hs3 : ({ s2 with heap := h3, toks := tk } : Shared) = s3 at J3 ⊢
    have eh : s3.heap = h3 := by rw [← hs3]
    have eg : s3.gens = s2.gens := by rw [← hs3]
    generalize hH2 : upd H1 P (.tbl (ps ++ more)) = H2 at J3 tb w0
    have f3 : ∀ b ∈ fp, FpOk X pins H2 b ∧ b < s3.heap.objs.size := fun b hb => by
      refine ⟨⟨?_, (f2 b hb).2⟩, by rw [eh]; exact Nat.lt_of_lt_of_le (fsz b hb) hsz⟩
      rw [← hH2, upd_ne (fnP b hb)]
      exact (f2 b hb).1
    have st3 : tn 0 s3.heap := T.keep _ _ _ st2 fun b hb o e => by rw [eh]; exact keep3 b o (fnP b hb) e
    intro h' hn' hs'
    have hsz' : h'.objs.size = s3.heap.objs.size + 1 := by rw [hs'.1, Heap.size_push]
    have keep' : ∀ b o, s3.heap.get? b = some o → h'.get? b = some o := fun b o e => hs'.extBut b o (Nat.ne_of_lt (Heap.lt_size e)) (Heap.get?_push_of_some _ e)
    generalize hgo : ({ cls := .type "generator", data := .fields #[.int s3.gens.size 0, .str "<genexpr>" (s3.toks + 1), .str (X.env.qual ++ "<genexpr>") (s3.toks + 1 + 1)] } : Obj) = go
    have isg : ∀ h : Heap, h.get? h'.objs.size = some go → h.IsGen h'.objs.size s3.gens.size := fun h e => ⟨go, _, _, e, by rw [← hgo], by rw [← hgo], by rw [← hgo]⟩
    have god : ∀ v, go.data ≠ .cell v := fun v z => by rw [← hgo] at z; cases z
    have here : (h'.push go).get? h'.objs.size = some go := by rw [← hgo]; exact Heap.get?_push_size _ rfl
    have keep5 : ∀ b o, s3.heap.get? b = some o → (h'.push go).get? b = some o := fun b o e => Heap.get?_push_of_some _ (keep' b o e)
    refine hQ _ _ ⟨h'.objs.size, s3.gens.size, _, m, s3, H2, gxe X scope s3.heap.objs.size code, Ng, fp, go, rfl, isg, here, Array.getElem?_push_size .., J3.nolimit.keeps keep5, AllBare.push J3.bare rfl, rfl, J3, fun b hb => (f3 b hb).1, ?_, ?_, ?_⟩
    · show s3.heap.objs.size ≤ (h'.push go).objs.size
      rw [Heap.size_push, hsz']
      omega
    · show h'.objs.size < (h'.push go).objs.size
      rw [Heap.size_push]
      omega
    · intro A cp hf hA hr hcp sw psw osw baw kw hc0 hpw
      have hcp' : ∀ ys ps, cp ys ps → ∀ p ∈ ps, s3.heap.objs.size + 2 ≤ p.1 := fun ys ps hc p hp => by
        have z := hcp ys ps hc p hp
        have z' : (h'.push go).objs.size ≤ p.1 := z
        rw [Heap.size_push, hsz'] at z'
        exact z'
      have I5 : Inv (gxc X (A.deeper (gxe X scope s3.heap.objs.size code)) s3 H2 (gxe X scope s3.heap.objs.size code) Ng fp [(h'.objs.size, go)]) psw (sel σ src) H2 sw :=
        gx_start J3 S hA hf f3 (Nat.le_refl _) (fun b o e => kw b o (keep5 b o e)) ((hn'.push go).keeps kw) osw baw fun p hp => by
          rcases List.mem_append.mp hp with hp | hp
          · rw [List.mem_singleton.mp hp]
            refine ⟨kw _ _ here, J3.hok.fresh (by rw [hsz']; omega), by rw [hsz']; exact Nat.ne_of_gt (Nat.lt_succ_self _), nostk J3 (by rw [hsz']; omega), god⟩
          · have z := hcp' _ _ hc0 p hp
            have z1 : s3.heap.objs.size ≤ p.1 := Nat.le_trans (Nat.le_add_right _ 2) z
            have z2 : s3.heap.objs.size < p.1 := Nat.lt_of_lt_of_le (Nat.lt_add_of_pos_right (by decide)) z
            exact ⟨(hpw p hp).1, J3.hok.fresh z1, fun e => Nat.ne_of_lt z2 e.symm, nostk J3 z1, (hpw p hp).2⟩
      refine seg_start (Y := gxc X (A.deeper (gxe X scope s3.heap.objs.size code)) s3 H2 (gxe X scope s3.heap.objs.size code) Ng fp [(h'.objs.size, go)]) rfl rfl rfl rfl (fun p hp z => ?_) S.co (fun b hb => (f3 b hb).2) T (hg _ _ _ _ _ _ _ hr) (ht _ _ _ _ _ _ _ hr) (he _ _ _ _ _ _ _ hr) (fun ys ps hc p hp z => ?_) turn (Nat.lt_succ_self m) w0 hc0 I5
        (T.keep _ _ _ st3 fun b _ o e => kw b o (keep5 b o e)) fun b hb => (f3 b hb).1.1
      · rw [List.mem_singleton.mp hp] at z
        have := (f3 _ z).2
        have q : s3.heap.objs.size + 1 < s3.heap.objs.size := by rw [← hsz']; exact this
        omega
      · have q1 := hcp' ys ps hc p hp
        have q2 := (f3 _ z).2
        exact absurd (Nat.lt_of_lt_of_le q2 (Nat.le_trans (Nat.le_add_right _ 2) q1)) (Nat.lt_irrefl _)
  cases hf : codeAmong gpos ps.toList with
  | none =>
    refine wpAny_genexprCodeX hcode (cd.code hPs htr) (cd.tab hPs) hf fun c' h' tk hx hge hlt hco' _ htab' _ => ?_
    obtain ⟨o1, vs1, f1, tf, fl, tg1, inF, tx, tt1, op, _, _, _, _, _, _, _, _, _, htr', _⟩ := hco'
    exact cont _ h' tk _ hx (Nat.le_trans hge (Nat.le_of_lt hlt)) htab'.2 ⟨_, rfl⟩ htr'
  | some cv =>
    refine wpAny_genexprCode_hit hcode (cd.code hPs htr) hf ?_
    exact cont cv s2.heap s2.toks ps (Heap.ExtBut.refl _ _) (Nat.le_refl _) hPs ⟨#[], by simp⟩ htr
end
end GX
set_option Elab.async false
set_option linter.all false
set_option maxRecDepth 100000
set_option maxHeartbeats 2000000
namespace GX
open PySem PySem.Spec PyProof.Rows L2 GenW
/-! all, any -/
theorem inv_ext {X : Cx} {pins : List (Addr × Obj)} {σ : L2.St} {H : Hp} {s s' : Shared} (I : Inv X pins σ H s) (os : s'.os = s.os) (hb : AllBare s'.gens) (hk : ∀ b o, s.heap.get? b = some o → s'.heap.get? b = some o) : Inv X pins σ H s' :=
  I.call' (ch := []) os (Un.kept hk) (I.hok.kept hk) hb fun b z => absurd z (by simp)
theorem pure_inv {α : Type} {M : Model} {A : Around} {E : Value → Shared → Prop} {s : Shared} {a : α} {Q : α → Shared → Prop} (h : Q a s) : wpAny M A (Pure.pure a : Sem α) Q E s := wpAny_pure h
def cp0 : CP := fun _ ps => ps = []
def stAll (Q : VK) : STP := fun _ y H Nx => ∃ b, y = .bl b ∧ if b = true then Nx H else Q (.bl false) H
def enAll (Q : VK) : EN := fun _ H => Q (.bl true) H
def stAny (Q : VK) : STP := fun _ y H Nx => ∃ b, y = .bl b ∧ if b = true then Q (.bl true) H else Nx H
def enAny (Q : VK) : EN := fun _ H => Q (.bl false) H
section
variable {X : Cx} {pins : List (Addr × Obj)} {σ : L2.St} {H2 : Hp} {s3 : Shared} {env : Env} {Ng : List Str} {fp : List Addr} {a : Addr} {g : Nat} {go : Obj} {Q : VK} {R : Result → Shared → Prop}
theorem all_loop (hh : X.A.handled = none) (hd : X.A.depth < recursionLimit) (I3 : Inv X pins σ H2 s3) (hfp : ∀ b ∈ fp, FpOk X pins H2 b) (isg : ∀ h : Heap, h.get? a = some go → h.IsGen a g) (hR : ∀ b H' s', Inv X pins σ H' s' → Q (.bl b) H' → R (.ok (.ret (.bool b))) s') :
    ∀ (n : Nat) (s : Shared), s.heap.IsGen a g → s.heap.NoLimit →
      (∃ gs, s.gens[g]? = some gs ∧ gs.Goes (model X.prog X.w) X.A.in1.in1 (Rp (gxc X (X.A.in1.in1.deeper env) s3 H2 env Ng fp [(a, go)]) cp0 (enAll Q)) (Yp (gxc X (X.A.in1.in1.deeper env) s3 H2 env Ng fp [(a, go)]) cp0 (stAll Q)) n (.send .none) (s.setGen g .running)) →
      codeAny (model X.prog X.w) X.A (.builtin "all.loop" ⟨[.ref a], []⟩) R s := by
  intro n
  induction n with
  | zero =>
    intro s hg hl ⟨gs, hgs, hgo⟩
    refine codeAny_builtin F.entry_all_loop ?_
    rw [Around.under_plainId F.plain_all_loop _]
    show wpAny _ X.A.in1 (pyNext (.ref a) >>= _) _ _ s
    refine wpAny_bind (wpAny_pyNext_genexpQ (A := X.A.in1) (P := fun _ _ s => ∃ (ys : List V) (ps : List (Addr × Obj)) (σ2 : L2.St) (H : Hp), cp0 ys ps ∧ Inv (gxc X (X.A.in1.in1.deeper env) s3 H2 env Ng fp [(a, go)]) ps σ2 H s ∧ enAll Q ys H) hh hl hd hg hgs hgo (fun v s₁ gs' hbare hv => ?_) (fun s₁ hp h' hk => ?_))
    · obtain ⟨ys, y, ps, ip, σ2, H, Nx, rv, rfl, hip, J, ⟨b, rfl, q⟩, hkap⟩ := hv
      cases rv
      refine wpAny_bind (wpAny_holding (wpAny_truthy_bool ?_))
      refine wpAny_bind (wpAny_letGo ?_)
      cases b with
      | true =>
        simp only [if_true] at q
        exact (hkap _ [] rfl J q).elim
      | false =>
        simp only [Bool.false_eq_true, if_false] at q ⊢
        refine wpAny_bind (wpAny_rule (wpAny_pure ?_))
        exact hR false H _ (inv_ext (gx_back I3 hfp J) rfl (allBare_setGen J.bare hbare) fun _ _ e => e) q
    · obtain ⟨ys, ps, σ2, H, rfl, J, q⟩ := hp
      refine wpAny_bind (wpAny_rule (wpAny_pure ?_))
      exact hR true H _ (inv_ext (gx_back I3 hfp J) rfl (allBare_setGen (x := .finished) J.bare rfl) hk) q
  | succ n ih =>
    intro s hg hl ⟨gs, hgs, hgo⟩
    have hgl : g < s.gens.size := (Array.getElem?_eq_some_iff.mp hgs).1
    refine codeAny_builtin F.entry_all_loop ?_
    rw [Around.under_plainId F.plain_all_loop _]
    show wpAny _ X.A.in1 (pyNext (.ref a) >>= _) _ _ s
    refine wpAny_bind (wpAny_gsz (n := g + 1) hgl (wpAny_pyNext_genexpQ (A := X.A.in1) (P := fun _ _ s => ∃ (ys : List V) (ps : List (Addr × Obj)) (σ2 : L2.St) (H : Hp), cp0 ys ps ∧ Inv (gxc X (X.A.in1.in1.deeper env) s3 H2 env Ng fp [(a, go)]) ps σ2 H s ∧ enAll Q ys H) hh hl hd hg hgs hgo (fun v s₁ gs' hbare hv => ?_) (fun s₁ hp h' hk => ?_)))
    · intro hsz
      have hsz1 : g < s₁.gens.size := by
        have q : (s₁.setGen g gs').gens.size = s₁.gens.size := setGen_size _ _ _
        have hsz' : g + 1 ≤ (s₁.setGen g gs').gens.size := hsz
        omega
      obtain ⟨ys, y, ps, ip, σ2, H, Nx, rv, rfl, hip, J, ⟨b, rfl, q⟩, hkap⟩ := hv
      cases rv
      refine wpAny_bind (wpAny_holding (wpAny_truthy_bool ?_))
      refine wpAny_bind (wpAny_letGo ?_)
      cases b with
      | true =>
        simp only [if_true] at q ⊢
        have hgo1 := hkap ((s₁.setGen g gs').setGen g .running) [] rfl (inv_ext J rfl (allBare_setGen (x := .running) (allBare_setGen J.bare hbare) rfl) fun _ _ e => e) q
        refine wpAny_pure ⟨plainId_quiet F.plain_all_loop _, ih (s₁.setGen g gs') (isg _ (J.pin (a, go) (List.mem_append_left _ (List.mem_singleton.mpr rfl))).1) J.nolimit ⟨gs', setGen_at hsz1, hgo1⟩⟩
      | false =>
        simp only [Bool.false_eq_true, if_false] at q ⊢
        refine wpAny_bind (wpAny_rule (wpAny_pure ?_))
        exact hR false H _ (inv_ext (gx_back I3 hfp J) rfl (allBare_setGen J.bare hbare) fun _ _ e => e) q
    · intro _
      obtain ⟨ys, ps, σ2, H, rfl, J, q⟩ := hp
      refine wpAny_bind (wpAny_rule (wpAny_pure ?_))
      exact hR true H _ (inv_ext (gx_back I3 hfp J) rfl (allBare_setGen (x := .finished) J.bare rfl) hk) q
theorem any_loop (hh : X.A.handled = none) (hd : X.A.depth < recursionLimit) (I3 : Inv X pins σ H2 s3) (hfp : ∀ b ∈ fp, FpOk X pins H2 b) (isg : ∀ h : Heap, h.get? a = some go → h.IsGen a g) (hR : ∀ b H' s', Inv X pins σ H' s' → Q (.bl b) H' → R (.ok (.ret (.bool b))) s') :
    ∀ (n : Nat) (s : Shared), s.heap.IsGen a g → s.heap.NoLimit →
      (∃ gs, s.gens[g]? = some gs ∧ gs.Goes (model X.prog X.w) X.A.in1.in1 (Rp (gxc X (X.A.in1.in1.deeper env) s3 H2 env Ng fp [(a, go)]) cp0 (enAny Q)) (Yp (gxc X (X.A.in1.in1.deeper env) s3 H2 env Ng fp [(a, go)]) cp0 (stAny Q)) n (.send .none) (s.setGen g .running)) →
      codeAny (model X.prog X.w) X.A (.builtin "any.loop" ⟨[.ref a], []⟩) R s := by
  intro n
  induction n with
  | zero =>
    intro s hg hl ⟨gs, hgs, hgo⟩
    refine codeAny_builtin F.entry_any_loop ?_
    rw [Around.under_plainId F.plain_any_loop _]
    show wpAny _ X.A.in1 (pyNext (.ref a) >>= _) _ _ s
    refine wpAny_bind (wpAny_pyNext_genexpQ (A := X.A.in1) (P := fun _ _ s => ∃ (ys : List V) (ps : List (Addr × Obj)) (σ2 : L2.St) (H : Hp), cp0 ys ps ∧ Inv (gxc X (X.A.in1.in1.deeper env) s3 H2 env Ng fp [(a, go)]) ps σ2 H s ∧ enAny Q ys H) hh hl hd hg hgs hgo (fun v s₁ gs' hbare hv => ?_) (fun s₁ hp h' hk => ?_))
    · obtain ⟨ys, y, ps, ip, σ2, H, Nx, rv, rfl, hip, J, ⟨b, rfl, q⟩, hkap⟩ := hv
      cases rv
      refine wpAny_bind (wpAny_holding (wpAny_truthy_bool ?_))
      refine wpAny_bind (wpAny_letGo ?_)
      cases b with
      | false =>
        simp only [Bool.false_eq_true, if_false] at q
        exact (hkap _ [] rfl J q).elim
      | true =>
        simp only [if_true] at q ⊢
        refine wpAny_bind (wpAny_rule (wpAny_pure ?_))
        exact hR true H _ (inv_ext (gx_back I3 hfp J) rfl (allBare_setGen J.bare hbare) fun _ _ e => e) q
    · obtain ⟨ys, ps, σ2, H, rfl, J, q⟩ := hp
      refine wpAny_bind (wpAny_rule (wpAny_pure ?_))
      exact hR false H _ (inv_ext (gx_back I3 hfp J) rfl (allBare_setGen (x := .finished) J.bare rfl) hk) q
  | succ n ih =>
    intro s hg hl ⟨gs, hgs, hgo⟩
    have hgl : g < s.gens.size := (Array.getElem?_eq_some_iff.mp hgs).1
    refine codeAny_builtin F.entry_any_loop ?_
    rw [Around.under_plainId F.plain_any_loop _]
    show wpAny _ X.A.in1 (pyNext (.ref a) >>= _) _ _ s
    refine wpAny_bind (wpAny_gsz (n := g + 1) hgl (wpAny_pyNext_genexpQ (A := X.A.in1) (P := fun _ _ s => ∃ (ys : List V) (ps : List (Addr × Obj)) (σ2 : L2.St) (H : Hp), cp0 ys ps ∧ Inv (gxc X (X.A.in1.in1.deeper env) s3 H2 env Ng fp [(a, go)]) ps σ2 H s ∧ enAny Q ys H) hh hl hd hg hgs hgo (fun v s₁ gs' hbare hv => ?_) (fun s₁ hp h' hk => ?_)))
    · intro hsz
      have hsz1 : g < s₁.gens.size := by
        have q : (s₁.setGen g gs').gens.size = s₁.gens.size := setGen_size _ _ _
        have hsz' : g + 1 ≤ (s₁.setGen g gs').gens.size := hsz
        omega
      obtain ⟨ys, y, ps, ip, σ2, H, Nx, rv, rfl, hip, J, ⟨b, rfl, q⟩, hkap⟩ := hv
      cases rv
      refine wpAny_bind (wpAny_holding (wpAny_truthy_bool ?_))
      refine wpAny_bind (wpAny_letGo ?_)
      cases b with
      | false =>
        simp only [Bool.false_eq_true, if_false] at q ⊢
        have hgo1 := hkap ((s₁.setGen g gs').setGen g .running) [] rfl (inv_ext J rfl (allBare_setGen (x := .running) (allBare_setGen J.bare hbare) rfl) fun _ _ e => e) q
        refine wpAny_pure ⟨plainId_quiet F.plain_any_loop _, ih (s₁.setGen g gs') (isg _ (J.pin (a, go) (List.mem_append_left _ (List.mem_singleton.mpr rfl))).1) J.nolimit ⟨gs', setGen_at hsz1, hgo1⟩⟩
      | true =>
        simp only [if_true] at q ⊢
        refine wpAny_bind (wpAny_rule (wpAny_pure ?_))
        exact hR true H _ (inv_ext (gx_back I3 hfp J) rfl (allBare_setGen J.bare hbare) fun _ _ e => e) q
    · intro _
      obtain ⟨ys, ps, σ2, H, rfl, J, q⟩ := hp
      refine wpAny_bind (wpAny_rule (wpAny_pure ?_))
      exact hR false H _ (inv_ext (gx_back I3 hfp J) rfl (allBare_setGen (x := .finished) J.bare rfl) hk) q
end
section
variable {X : Cx} {elt tg iter : Expr} {ifs : List Expr} {scope : Scope} {gpos p pos : Pos} {g : TG} {tt : TT} {te : TE} {wi : TI} {Ng : List Str} {src : List (Option Nat)} {vs : List Nat} {c P : Addr} {k : Nat}
theorem room_deep2 (hr : Room (k + 1) X.A) {env : Env} : Room k (X.A.in1.in1.deeper env) :=
  ⟨hr.hd, by have := hr.dp; show X.A.depth + 1 + 3 * k + 5 < _; omega, by have := hr.un; show X.A.units + 1 + 1 + 3 + 16 * k + 200 < _; omega⟩
/-- all(elt for tg in iter if ..) -/
def tAllG (P : Addr) (wi : TI) (g : TG) (tt : TT) (te : TE) (src : List (Option Nat)) (vs : List Nat) : TE := fun σ H Q => tGX P wi g tt te src vs (stAll Q) (enAll Q) σ H
def tAnyG (P : Addr) (wi : TI) (g : TG) (tt : TT) (te : TE) (src : List (Option Nat)) (vs : List Nat) : TE := fun σ H Q => tGX P wi g tt te src vs (stAny Q) (enAny Q) σ H
theorem pe_allG (hr : Room (k + 1) X.A) (hg0 : Gl X "all") (hm : X.mg "all" = none) (hb : bootBuiltins "all" = some (.builtin "all")) (TB : GxR.TabB X.base X.mg c P) (hcode : X.env.code = .ref c) (S : GScp X.env.scope scope X.N Ng src) (hi : PI X tg iter wi)
    (hg : ∀ (A : Around) (s : Shared) (H : Hp) (C : Addr) (code : Value) (fp : List Addr) (pn : List (Addr × Obj)), Room k A → PG (gxc X A s H (gxe X scope C code) Ng fp pn) tg g)
    (ht : ∀ (A : Around) (s : Shared) (H : Hp) (C : Addr) (code : Value) (fp : List Addr) (pn : List (Addr × Obj)), Room k A → PTs (gxc X A s H (gxe X scope C code) Ng fp pn) ifs tt)
    (he : ∀ (A : Around) (s : Shared) (H : Hp) (C : Addr) (code : Value) (fp : List Addr) (pn : List (Addr × Obj)), Room k A → PE (gxc X A s H (gxe X scope C code) Ng fp pn) elt te)
    (hs : ∀ v, genFold iter X.env v = pure v)
    (hst : starEach [.GeneratorExp elt [⟨tg, iter, ifs, 0⟩] scope gpos] X.env = (false, eval (.GeneratorExp elt [⟨tg, iter, ifs, 0⟩] scope gpos) X.env) :: starEach [] X.env := by rfl) :
    PE X (.Call (.Name "all" p) [.GeneratorExp elt [⟨tg, iter, ifs, 0⟩] scope gpos] [] pos) (tAllG P wi g tt te src vs) := by
  refine ⟨fun pins s σ H Q I h => ?_⟩
  refine wpAny_Call_Name_kw (ld_blt I hg0 hm hb ?_)
  refine PyProof.Rows.callWith_builtin1 ?_ hst (by rfl)
  rw [hst]
  show wpAny _ _ (spliced ((false, eval (.GeneratorExp elt [⟨tg, iter, ifs, 0⟩] scope gpos) X.env) :: backTo pos (starEach [] X.env))) _ _ s
  refine Calls.spliced_cons (gen_any hr.hd hr.depth TB hcode S hi hg ht he hs I h fun u s' M => ?_)
  obtain ⟨a, gi, cd, m, s3, H2, env, Ng', fp, go, rfl, isg, ea, hgs, hl, hbare, hos, I3, hfp, _, _, wake⟩ := M
  refine Calls.spliced_nil ?_
  refine call_function_tree F.kind_all F.plain_all F.entry_all (F.args_all1 _) ?_
  unfold Builtin.«all»
  refine wpAny_bind (m := oneArg "all" _) (wpAny_pure ?_)
  refine wpAny_bind (wpAny_pyIter_gen (isg _ ea) ?_)
  refine wpAny_pure ⟨plainId_quiet F.plain_all_loop _, all_loop (Q := Q) (env := env) (Ng := Ng') hr.hd hr.depth I3 hfp isg (fun b H' s' J q => ?_) (m + 1) s' (isg _ ea) hl ⟨_, hgs, rfl, ?_⟩⟩
  · exact ⟨.bl b, H', J, rfl, q⟩
  · exact wake X.A.in1.in1 cp0 I3.ok.frames hr.hd (room_deep2 hr) (fun ys ps e p hp => by rw [show ps = [] from e] at hp; cases hp) _ [] rfl (allBare_setGen (x := .running) hbare rfl) (fun _ _ e => e) rfl fun p hp => by cases hp
theorem pe_anyG (hr : Room (k + 1) X.A) (hg0 : Gl X "any") (hm : X.mg "any" = none) (TB : GxR.TabB X.base X.mg c P) (hcode : X.env.code = .ref c) (S : GScp X.env.scope scope X.N Ng src) (hi : PI X tg iter wi)
    (hg : ∀ (A : Around) (s : Shared) (H : Hp) (C : Addr) (code : Value) (fp : List Addr) (pn : List (Addr × Obj)), Room k A → PG (gxc X A s H (gxe X scope C code) Ng fp pn) tg g)
    (ht : ∀ (A : Around) (s : Shared) (H : Hp) (C : Addr) (code : Value) (fp : List Addr) (pn : List (Addr × Obj)), Room k A → PTs (gxc X A s H (gxe X scope C code) Ng fp pn) ifs tt)
    (he : ∀ (A : Around) (s : Shared) (H : Hp) (C : Addr) (code : Value) (fp : List Addr) (pn : List (Addr × Obj)), Room k A → PE (gxc X A s H (gxe X scope C code) Ng fp pn) elt te)
    (hs : ∀ v, genFold iter X.env v = pure v)
    (hst : starEach [.GeneratorExp elt [⟨tg, iter, ifs, 0⟩] scope gpos] X.env = (false, eval (.GeneratorExp elt [⟨tg, iter, ifs, 0⟩] scope gpos) X.env) :: starEach [] X.env := by rfl) :
    PE X (.Call (.Name "any" p) [.GeneratorExp elt [⟨tg, iter, ifs, 0⟩] scope gpos] [] pos) (tAnyG P wi g tt te src vs) := by
  refine ⟨fun pins s σ H Q I h => ?_⟩
  refine wpAny_Call_Name_kw (ld_blt I hg0 hm boot_any ?_)
  refine PyProof.Rows.callWith_builtin1 ?_ hst (by rfl)
  rw [hst]
  show wpAny _ _ (spliced ((false, eval (.GeneratorExp elt [⟨tg, iter, ifs, 0⟩] scope gpos) X.env) :: backTo pos (starEach [] X.env))) _ _ s
  refine Calls.spliced_cons (gen_any hr.hd hr.depth TB hcode S hi hg ht he hs I h fun u s' M => ?_)
  obtain ⟨a, gi, cd, m, s3, H2, env, Ng', fp, go, rfl, isg, ea, hgs, hl, hbare, hos, I3, hfp, _, _, wake⟩ := M
  refine Calls.spliced_nil ?_
  refine call_function_tree F.kind_any F.plain_any F.entry_any (F.args_any1 _) ?_
  unfold Builtin.«any»
  refine wpAny_bind (m := oneArg "any" _) (wpAny_pure ?_)
  refine wpAny_bind (wpAny_pyIter_gen (isg _ ea) ?_)
  refine wpAny_pure ⟨plainId_quiet F.plain_any_loop _, any_loop (Q := Q) (env := env) (Ng := Ng') hr.hd hr.depth I3 hfp isg (fun b H' s' J q => ?_) (m + 1) s' (isg _ ea) hl ⟨_, hgs, rfl, ?_⟩⟩
  · exact ⟨.bl b, H', J, rfl, q⟩
  · exact wake X.A.in1.in1 cp0 I3.ok.frames hr.hd (room_deep2 hr) (fun ys ps e p hp => by rw [show ps = [] from e] at hp; cases hp) _ [] rfl (allBare_setGen (x := .running) hbare rfl) (fun _ _ e => e) rfl fun p hp => by cases hp
end
end GX
set_option Elab.async false
set_option linter.all false
set_option maxRecDepth 100000
set_option maxHeartbeats 2000000
namespace GX
open PySem PySem.Spec PyProof.Rows L2 GenW
open PySem.AutoSeq1 (wpAny_loadPart')
/-! all that a generator expression hands out, collected: tuple(..) -/
def cp1 (S : Addr) : CP := fun ys ps => ∃ (acc : Array Value) (c : Nat), Vals ys acc.toList ∧ acc.size ≤ sizeLine ∧ ps = [(S, lstObj acc c)]
def stCol : STP := fun ys _ H Nx => ys.length < sizeLine ∧ Nx H
theorem inv_push {Y : Cx} {S : Addr} {o o' : Obj} {ip : List (Addr × Obj)} {σ : L2.St} {H : Hp} {s s' : Shared} (J : Inv Y ((S, o) :: ip) σ H s) (hs0 : Y.s_0.heap.objs.size ≤ S) (ho : ∀ v, o.data ≠ .cell v) (ho' : ∀ v, o'.data ≠ .cell v) (hpn : ∀ p ∈ Y.pn, p.1 ≠ S) (hip : ∀ p ∈ ip, p.1 ≠ S)
    (os : s'.os = s.os) (hb : AllBare s'.gens) (hk : ∀ b u, b ≠ S → s.heap.get? b = some u → s'.heap.get? b = some u) (hS : s'.heap.get? S = some o') : Inv Y ((S, o') :: ip) σ H s' := by
  obtain ⟨eS, hS0, hSL, hSf, _⟩ := J.pin (S, o) (List.mem_append_right _ List.mem_cons_self)
  have I0 : Inv Y ip σ H s := J.pins_of fun p hp => J.pin p (List.mem_append_right _ (List.mem_cons_of_mem _ hp))
  have nt : ∀ b u, H b = some u → b ≠ S := fun b u q hb => by rw [hb, hS0] at q; cases q
  have hcl : ∀ x c, Y.env.cells.lookup x = some c → c ≠ S := fun x c e z => by
    obtain ⟨v, ob, h1, h2⟩ := J.cell x c e
    rw [z, eS] at h1
    cases h1
    exact ho v h2
  obtain ⟨hh, g, d, t, oo⟩ := s'
  have e : oo = s.os := os
  subst e
  have nc : ∀ b, b ∉ [S] → b ≠ S := fun b hb e => hb (by rw [e]; exact List.mem_singleton.mpr rfl)
  have K : Inv Y ip σ H { s with heap := hh, gens := g, drawn := d, toks := t } := by
    refine I0.step (g' := g) (t' := t) (d' := d) (ch := [S]) (fun b hb => ?_)
      (fun b ob _ _ hc q _ => hk b ob (nc b hc) q) (fun b ob _ _ hc q _ => ⟨ob.slots, hk b ob (nc b hc) q⟩) (fun _ _ _ _ n => n) (fun b ob hc q => ⟨ob, hk b ob (nc b hc) q⟩)
      (fun _ _ q => q) (fun _ _ _ q => q) (fun b ps q => ⟨#[], by rw [q]; simp⟩) (fun m hm => ?_) (fun b u q => ?_) hb
    · rw [List.mem_singleton.mp hb]
      refine ⟨.inr hs0, hSL, hcl, fun p hp => ?_⟩
      rcases List.mem_append.mp hp with hp | hp
      · exact hpn p hp
      · exact hip p hp
    · obtain ⟨ob, es, ep, ho, r⟩ := hm
      exact ⟨ob, es, ep, hk _ ob (Ne.symm hSL) ho, r⟩
    · refine (I0.hok b u q).stay (fun c v hc y => hk c v ?_ y) (fun _ y => y) fun _ _ y => y
      rcases hc with y | y
      · rw [y]; exact nt b u q
      · exact nt c _ y
  refine K.pins_of fun p hp => ?_
  rcases List.mem_cons.mp hp with hp | hp
  · rw [hp]
    exact ⟨hS, hS0, hSL, hSf, ho'⟩
  · exact K.pin p (List.mem_append_right _ hp)
section
variable {X : Cx} {pins : List (Addr × Obj)} {σ : L2.St} {H2 : Hp} {s3 : Shared} {env : Env} {Ng : List Str} {fp : List Addr} {a S : Addr} {g : Nat} {go : Obj} {End : EN} {R : Result → Shared → Prop} {B : Around} {res : Value}
theorem ext_loop (hh : B.handled = none) (hd : B.depth < recursionLimit) (I3 : Inv X pins σ H2 s3) (hfp : ∀ b ∈ fp, FpOk X pins H2 b) (isg : ∀ h : Heap, h.get? a = some go → h.IsGen a g) (hS : s3.heap.objs.size ≤ S) (hSa : a ≠ S)
    (hR : ∀ ys H' s' acc c, Inv X pins σ H' s' → H' S = none → s'.heap.get? S = some (lstObj acc c) → Vals ys acc.toList → acc.size ≤ sizeLine → End ys H' → R (.ok (.ret res)) s') :
    ∀ (n : Nat) (s : Shared), s.heap.IsGen a g → s.heap.NoLimit →
      (∃ gs, s.gens[g]? = some gs ∧ gs.Goes (model X.prog X.w) B.in1.in1 (Rp (gxc X (B.in1.in1.deeper env) s3 H2 env Ng fp [(a, go)]) (cp1 S) End) (Yp (gxc X (B.in1.in1.deeper env) s3 H2 env Ng fp [(a, go)]) (cp1 S) stCol) n (.send .none) (s.setGen g .running)) →
      codeAny (model X.prog X.w) B (.builtin "list.extend.loop" ⟨[.ref S, .ref a, res], []⟩) R s := by
  have fin : ∀ {s₁ : Shared} {h' : Heap} {ys : List V} {ps : List (Addr × Obj)} {σ2 : L2.St} {H : Hp}, cp1 S ys ps → Inv (gxc X (B.in1.in1.deeper env) s3 H2 env Ng fp [(a, go)]) ps σ2 H s₁ → End ys H → (∀ b o, s₁.heap.get? b = some o → h'.get? b = some o) →
      R (.ok (.ret res)) { s₁.setGen g .finished with heap := h' } := fun {s₁ h' ys ps σ2 H} hc J q hk => by
    obtain ⟨acc, c, rv, hz, rfl⟩ := hc
    obtain ⟨e1, e2, _⟩ := J.pin (S, lstObj acc c) (List.mem_append_right _ List.mem_cons_self)
    exact hR ys H _ acc c (inv_ext (gx_back I3 hfp J) rfl (allBare_setGen (x := .finished) J.bare rfl) hk) e2 (hk _ _ e1) rv hz q
  intro n
  induction n with
  | zero =>
    intro s hg hl ⟨gs, hgs, hgo⟩
    refine codeAny_builtin F.entry_extend_loop ?_
    rw [Around.under_plainId F.plain_extend_loop _]
    show wpAny _ B.in1 (pyNext (.ref a) >>= _) _ _ s
    refine wpAny_bind (wpAny_pyNext_genexpQ (A := B.in1) (P := fun _ _ s => ∃ (ys : List V) (ps : List (Addr × Obj)) (σ2 : L2.St) (H : Hp), cp1 S ys ps ∧ Inv (gxc X (B.in1.in1.deeper env) s3 H2 env Ng fp [(a, go)]) ps σ2 H s ∧ End ys H) hh hl hd hg hgs hgo (fun v s₁ gs' hbare hv => ?_) (fun s₁ hp h' hk => ?_))
    · obtain ⟨ys, y, ps, ip, σ2, H, Nx, rv, ⟨acc, c, rvs, hz, rfl⟩, hip, J, ⟨hlen, q⟩, hkap⟩ := hv
      obtain ⟨e1, e2, _⟩ := J.pin (S, lstObj acc c) (List.mem_append_right _ List.mem_cons_self)
      have hsz : acc.size < sizeLine := by
        have h1 : ys.length = acc.toList.length := rvs.length
        have h2 : acc.toList.length = acc.size := Array.length_toList
        omega
      have hne : ∀ p ∈ ip, p.1 ≠ S := fun p hp z => by
        have := hip p hp
        rw [z] at this
        exact absurd (Nat.lt_of_lt_of_le this hS) (Nat.lt_irrefl _)
      have J2 := inv_push (s' := { s₁ with heap := s₁.heap.update S (Obj.mapSeq (·.push v)) }) J hS (fun v z => by cases z) (fun v z => by cases z) (fun p hp z => by rw [List.mem_singleton.mp hp] at z; exact hSa z) hne rfl J.bare (fun b u hb e => (Heap.get?_update_other _ _ (Ne.symm hb)).trans e) (Heap.get?_update_self _ e1 rfl)
      exact (hkap _ _ ⟨acc.push v, _, by rw [Array.toList_push]; exact rvs.append (.cons rv .nil), by rw [Array.size_push]; exact hsz, rfl⟩ J2 q).elim
    · obtain ⟨ys, ps, σ2, H, hc, J, q⟩ := hp
      exact wpAny_pure (fin hc J q hk)
  | succ n ih =>
    intro s hg hl ⟨gs, hgs, hgo⟩
    have hgl : g < s.gens.size := (Array.getElem?_eq_some_iff.mp hgs).1
    refine codeAny_builtin F.entry_extend_loop ?_
    rw [Around.under_plainId F.plain_extend_loop _]
    show wpAny _ B.in1 (pyNext (.ref a) >>= _) _ _ s
    refine wpAny_bind (wpAny_gsz (n := g + 1) hgl (wpAny_pyNext_genexpQ (A := B.in1) (P := fun _ _ s => ∃ (ys : List V) (ps : List (Addr × Obj)) (σ2 : L2.St) (H : Hp), cp1 S ys ps ∧ Inv (gxc X (B.in1.in1.deeper env) s3 H2 env Ng fp [(a, go)]) ps σ2 H s ∧ End ys H) hh hl hd hg hgs hgo (fun v s₁ gs' hbare hv => ?_) (fun s₁ hp h' hk => ?_)))
    · intro hsz0
      have hsz1 : g < s₁.gens.size := by
        have q : (s₁.setGen g gs').gens.size = s₁.gens.size := setGen_size _ _ _
        have hsz' : g + 1 ≤ (s₁.setGen g gs').gens.size := hsz0
        omega
      obtain ⟨ys, y, ps, ip, σ2, H, Nx, rv, ⟨acc, c, rvs, hz, rfl⟩, hip, J, ⟨hlen, q⟩, hkap⟩ := hv
      obtain ⟨e1, e2, _⟩ := J.pin (S, lstObj acc c) (List.mem_append_right _ List.mem_cons_self)
      have hsz : acc.size < sizeLine := by
        have h1 : ys.length = acc.toList.length := rvs.length
        have h2 : acc.toList.length = acc.size := Array.length_toList
        omega
      have hne : ∀ p ∈ ip, p.1 ≠ S := fun p hp z => by
        have := hip p hp
        rw [z] at this
        exact absurd (Nat.lt_of_lt_of_le this hS) (Nat.lt_irrefl _)
      have hup := Heap.get?_update_self (Obj.mapSeq (·.push v)) e1 rfl
      have other : ∀ b u, b ≠ S → s₁.heap.get? b = some u → (s₁.heap.update S (Obj.mapSeq (·.push v))).get? b = some u := fun b u hb e => (Heap.get?_update_other _ _ (Ne.symm hb)).trans e
      have J2 := inv_push (s' := ({ s₁.setGen g gs' with heap := s₁.heap.update S (Obj.mapSeq (·.push v)) } : Shared).setGen g .running) J hS (fun v z => by cases z) (fun v z => by cases z) (fun p hp z => by rw [List.mem_singleton.mp hp] at z; exact hSa z) hne rfl
        (allBare_setGen (s := { s₁.setGen g gs' with heap := s₁.heap.update S (Obj.mapSeq (·.push v)) }) (x := .running) (allBare_setGen J.bare hbare) rfl) other hup
      have hgo1 := hkap _ _ ⟨acc.push v, _, by rw [Array.toList_push]; exact rvs.append (.cons rv .nil), by rw [Array.size_push]; exact hsz, rfl⟩ J2 q
      show wpAny _ B.in1 (updateSeq S (·.push v) >>= _) _ _ _
      refine wpAny_bind ?_
      refine wpAny_updateSeq (s := s₁.setGen g gs') e1 rfl (wpAny_pure ⟨plainId_quiet F.plain_extend_loop _, ?_⟩) (Nat.le_of_lt hsz) (by show (acc.push v).size ≤ sizeLine + 1; rw [Array.size_push]; omega)
      refine ih { s₁.setGen g gs' with heap := s₁.heap.update S (Obj.mapSeq (·.push v)) } (isg _ (other _ _ hSa (J.pin (a, go) (List.mem_append_left _ (List.mem_singleton.mpr rfl))).1)) J2.nolimit ⟨gs', setGen_at hsz1, hgo1⟩
    · intro _
      obtain ⟨ys, ps, σ2, H, hc, J, q⟩ := hp
      exact wpAny_pure (fin hc J q hk)
end
section
variable {X : Cx} {pins : List (Addr × Obj)} {σ : L2.St} {k : Nat} {End : EN} {B : Around} {u : Value} {s : Shared} {Q : List Value → Shared → Prop} {E : Value → Shared → Prop}
/-- collect -/
theorem collect_gx (hf : B.frames = some X.stack) (hr : Room (k + 1) B) (M : MadeG X k pins σ stCol End u s)
    (hQ : ∀ ys H' s' (acc : Array Value), Inv X pins σ H' s' → Vals ys acc.toList → acc.size ≤ sizeLine → End ys H' → Q acc.toList s') : wpAny (model X.prog X.w) B (collect u) Q E s := by
  obtain ⟨a, gi, cd, m, s3, H2, env, Ng, fp, go, rfl, isg, ea, hgs, hl, hbare, hos, I3, hfp, hsz, halt, wake⟩ := M
  have hSI : s.heap.objs.size ≠ a := fun e => by rw [← e] at halt; exact absurd halt (Nat.lt_irrefl _)
  unfold collect
  refine wpAny_bind (wpAny_runValue (codeAny_builtin F.entry_proto_collect ?_))
  rw [Around.under_plainId F.plain_proto_collect _]
  show wpAny _ B.in1 (newList [] >>= fun l => again (.builtin "list.__iadd__" ⟨[l, .ref a], []⟩)) _ _ s
  refine wpAny_bind (wpAny_newObj_type ?_)
  refine wpAny_pure ⟨plainId_quiet F.plain_list_iadd _, codeAny_builtin F.entry_list_iadd ?_⟩
  rw [Around.under_plainId F.plain_list_iadd _]
  have k1 : ∀ b o, s.heap.get? b = some o → (s.heap.push { cls := .type "list", data := .seq ([] : List Value).toArray }).get? b = some o := fun b o e => Heap.get?_push_of_some _ e
  have gt : ∀ {h : Heap}, (∀ b o, s.heap.get? b = some o → h.get? b = some o) → h.IsGen a gi := fun q => isg _ (q _ _ ea)
  show wpAny _ B.in1 (Builtin.List.listExtendWith (.ref s.heap.objs.size) (.ref a) (.ref s.heap.objs.size)) _ _ _
  unfold Builtin.List.listExtendWith
  refine wpAny_bind (wpAny_typeOf (Heap.IsGen.typeIs (s := { s with heap := _ }) (gt k1)) ?_)
  have h1 : Builtin.List.listSameRef (.ref s.heap.objs.size) (.ref a) = false := by simp [Builtin.List.listSameRef, hSI]
  have h2 : (Value.type "generator" == Value.type "list") = false := by decide
  have h3 : (Value.type "generator" == Value.type "tuple") = false := by decide
  simp only [h1, h2, h3, Bool.or_false, Bool.false_eq_true, if_false]
  refine wpAny_bind (wpAny_pyIter_gen (s := { s with heap := _ }) (gt k1) ?_)
  refine wpAny_bind (wpAny_holding ?_)
  unfold Builtin.List.listLengthHint
  refine wpAny_bind (wpAny_specialOf (Heap.IsGen.typeIs (s := { s with heap := _ }) (gt k1)) F.gen_no_len ?_)
  show wpAny _ B.in1 (specialOf (Value.ref a) (Str.ofString "__length_hint__") >>= _) _ _ _
  refine wpAny_bind (wpAny_specialOf (Heap.IsGen.typeIs (s := { s with heap := _ }) (gt k1)) F.gen_no_hint ?_)
  refine wpAny_pure ?_
  show wpAny _ B.in1 (rule "list.extend.makes-room" >>= fun _ => Builtin.List.listTouch (.ref s.heap.objs.size) >>= fun _ =>
    again (.builtin "list.extend.loop" ⟨[.ref s.heap.objs.size, .ref a, .ref s.heap.objs.size], []⟩)) _ _ _
  refine wpAny_bind (wpAny_rule ?_)
  have hS₁ : (s.heap.push { cls := .type "list", data := .seq ([] : List Value).toArray }).get? s.heap.objs.size = some { cls := .type "list", data := .seq ([] : List Value).toArray } := Heap.get?_push_size _ rfl
  refine wpAny_bind ?_
  show wpAny _ B.in1 (updateSeq s.heap.objs.size (·.push .none) >>= fun _ => updateSeq s.heap.objs.size (·.pop)) _ _ _
  refine wpAny_bind (wpAny_updateSeq hS₁ rfl ?_)
  have hS₂ := Heap.get?_update_self (Obj.mapSeq (·.push Value.none)) hS₁ rfl
  refine wpAny_updateSeq (hz := by seq_fits) hS₂ rfl ?_
  have hS₃ := Heap.get?_update_self (Obj.mapSeq (·.pop)) hS₂ rfl
  have oth : ∀ b o, s.heap.get? b = some o →
      (((s.heap.push { cls := .type "list", data := .seq ([] : List Value).toArray }).update s.heap.objs.size (Obj.mapSeq (·.push Value.none))).update s.heap.objs.size (Obj.mapSeq (·.pop))).get? b = some o :=
    fun b o e => (Heap.get?_update_other _ _ (Ne.symm (Nat.ne_of_lt (Heap.lt_size e)))).trans ((Heap.get?_update_other _ _ (Ne.symm (Nat.ne_of_lt (Heap.lt_size e)))).trans (k1 b o e))
  refine wpAny_pure ⟨plainId_quiet F.plain_extend_loop _, ext_loop (env := env) (Ng := Ng) (End := End) hr.hd hr.depth I3 hfp isg (Nat.le_trans hsz (Nat.le_refl _)) (Ne.symm hSI) (fun ys H' s' acc c J hn e rv hz q => ?_) (m + 1) _ (gt oth) (hl.keeps oth) ⟨_, hgs, rfl, ?_⟩⟩
  · show wpAny _ B (load s.heap.objs.size >>= _) _ _ s'
    refine wpAny_bind (wpAny_load e ?_)
    exact wpAny_pure (hQ ys H' s' acc J rv hz q)
  · exact wake B.in1.in1 (cp1 s.heap.objs.size) hf hr.hd ⟨hr.hd, by have := hr.dp; show B.depth + 1 + 3 * k + 5 < _; omega, by have := hr.un; show B.units + 1 + 1 + 3 + 16 * k + 200 < _; omega⟩
      (fun ys ps e p hp => by obtain ⟨acc, c, _, _, rfl⟩ := e; rw [List.mem_singleton.mp hp]; exact Nat.le_refl _) _ [(s.heap.objs.size, lstObj #[] _)] rfl (allBare_setGen (s := { s with heap := _ }) (x := .running) hbare rfl) oth ⟨#[], _, .nil, Nat.zero_le _, rfl⟩
      fun p hp => by rw [List.mem_singleton.mp hp]; exact ⟨hS₃, fun v z => by cases z⟩
end
end GX
set_option Elab.async false
set_option linter.all false
set_option maxRecDepth 100000
set_option maxHeartbeats 2000000
namespace PySem
open PyProof.Rows L2 GenW GX
open PySem.AutoSeq1 (wpAny_loadPart')
theorem meets_tuple_gx {X : Cx} {pins : List (Addr × Obj)} {σ : L2.St} {k : Nat} {End : EN} {a : Addr} :
    MeetsIn X.prog X.w (Builtin.«tuple.__new__» ⟨[.type "tuple", .ref a], []⟩)
      (fun A R s => A.frames = some X.stack ∧ Room (k + 1) A.in1 ∧ MadeG X k pins σ stCol End (.ref a) s ∧
        ∀ (ys : List V) (H' : Hp) (s' : Shared) (acc : Array Value), L2.Inv X pins σ H' s' → Vals ys acc.toList → acc.size ≤ sizeLine → End ys H' → R (.ok (.ret (.ref s'.heap.objs.size))) { s' with heap := s'.heap.push { cls := .type "tuple", data := .seq acc } }) :=
  .of_wp fun A R s h => by
    obtain ⟨hf, hr, M, h⟩ := h
    have hsub := sub_tuple_self
    have hinit := init_tuple_lookup
    have hmh := madeHere_tuple
    have hT : s.TypeIs (.ref a) "generator" := by
      obtain ⟨a', gi, cd, m, s3, H2, env, Ng, fp, go, e, isg, ea, _⟩ := id M
      cases e
      exact (isg _ ea).typeIs
    have hf1 : A.in1.frames = some X.stack := hf
    wp_walk using wpAny_typeOf hT, collect_gx (X := X) hf1 hr M
    intro ys H' s' acc I rv hz e
    show wpAny _ _ (Builtin.Tuple.tupleExact acc.toList.toArray >>= fun v => ret v) _ _ _
    unfold Builtin.Tuple.tupleExact
    refine wpAny_bind (wpAny_newObj_type ?_ (show acc.toList.toArray.size ≤ sizeLine by simpa using hz))
    refine wpAny_pure ⟨_, rfl, ?_⟩
    have e2 : acc.toList.toArray = acc := by simp
    rw [e2]
    exact h ys H' s' acc I rv hz e
end PySem
namespace GX
open PySem PySem.Spec PyProof.Rows L2 GenW
def enTup (Q : VK) : EN := fun ys H => ∀ p, H p = none → Q (.ref p) (upd H p (.tup ys))
/-- tuple(elt for tg in iter if ..) -/
def tTupG (P : Addr) (wi : TI) (g : TG) (tt : TT) (te : TE) (src : List (Option Nat)) (vs : List Nat) : TE := fun σ H Q => tGX P wi g tt te src vs stCol (enTup Q) σ H
section
variable {X : Cx} {elt tg iter : Expr} {ifs : List Expr} {scope : Scope} {gpos p pos : Pos} {g : TG} {tt : TT} {te : TE} {wi : TI} {Ng : List Str} {src : List (Option Nat)} {vs : List Nat} {c P : Addr} {k : Nat}
theorem pe_tupG (hr : Room (k + 2) X.A) (hg0 : Gl X "tuple") (hm : X.mg "tuple" = none) (TB : GxR.TabB X.base X.mg c P) (hcode : X.env.code = .ref c) (S : GScp X.env.scope scope X.N Ng src) (hi : PI X tg iter wi)
    (hg : ∀ (A : Around) (s : Shared) (H : Hp) (C : Addr) (code : Value) (fp : List Addr) (pn : List (Addr × Obj)), Room k A → PG (gxc X A s H (gxe X scope C code) Ng fp pn) tg g)
    (ht : ∀ (A : Around) (s : Shared) (H : Hp) (C : Addr) (code : Value) (fp : List Addr) (pn : List (Addr × Obj)), Room k A → PTs (gxc X A s H (gxe X scope C code) Ng fp pn) ifs tt)
    (he : ∀ (A : Around) (s : Shared) (H : Hp) (C : Addr) (code : Value) (fp : List Addr) (pn : List (Addr × Obj)), Room k A → PE (gxc X A s H (gxe X scope C code) Ng fp pn) elt te)
    (hs : ∀ v, genFold iter X.env v = pure v)
    (hst : starEach [.GeneratorExp elt [⟨tg, iter, ifs, 0⟩] scope gpos] X.env = (false, eval (.GeneratorExp elt [⟨tg, iter, ifs, 0⟩] scope gpos) X.env) :: starEach [] X.env := by rfl) :
    PE X (.Call (.Name "tuple" p) [.GeneratorExp elt [⟨tg, iter, ifs, 0⟩] scope gpos] [] pos) (tTupG P wi g tt te src vs) := by
  refine ⟨fun pins s σ H Q I h => ?_⟩
  refine wpAny_Call_Name_kw (ld_blt I hg0 hm PySem.Pv.boot_tuple ?_)
  refine PyProof.Rows.callWith_type1 ?_ hst rfl
  rw [hst]
  show wpAny _ _ (spliced ((false, eval (.GeneratorExp elt [⟨tg, iter, ifs, 0⟩] scope gpos) X.env) :: backTo pos (starEach [] X.env))) _ _ s
  refine Calls.spliced_cons (gen_any hr.hd hr.depth TB hcode S hi hg ht he hs I h fun u s' M => ?_)
  obtain ⟨a, hu⟩ : ∃ a, u = Value.ref a := by obtain ⟨a, _, _, _, _, _, _, _, _, _, e, _⟩ := id M; exact ⟨a, e⟩
  subst hu
  have hf : X.A.frames = some X.stack := I.ok.frames
  refine Calls.spliced_nil ?_
  refine callType_newIn F.called_tuple (by decide) (F.typeCall_tuple_1 _) (F.newCall_tuple_1 _) (fun obj => F.args_object_init_2 obj _) F.entry_tuple_new (meets_tuple_gx (X := X) (pins := pins) (σ := σ) (k := k) (End := enTup Q))
    ⟨hf, ⟨hr.hd, by have := hr.dp; show X.A.depth + 3 * (k + 1) + 5 < _; omega, by have := hr.un; show X.A.units + 1 + 1 + 16 * (k + 1) + 200 < _; omega⟩, M, fun ys H' s1 acc J rv hz e => ⟨⟨_, Heap.get?_push_size _ rfl, rfl⟩, ?_⟩⟩
  have J2 : L2.Inv X pins σ (upd H' s1.heap.objs.size (.tup ys)) { s1 with heap := s1.heap.push { cls := .type "tuple", data := .seq acc } } :=
    J.laid (t' := s1.toks) (fun b o e => Heap.get?_push_of_some _ e) (Nat.le_refl _) (show ObjOk X.prog X.w _ _ _ (.tup ys) from ⟨by have h1 : ys.length = acc.toList.length := rv.length; have h2 : acc.toList.length = acc.size := Array.length_toList; omega, acc.toList, rv, by rw [Array.toArray_toList]; exact IsTup.new _ _⟩)
  exact ⟨.ref s1.heap.objs.size, _, J2, rfl, e _ (J.hok.fresh (Nat.le_refl _))⟩
end
end GX
set_option Elab.async false
set_option linter.all false
set_option maxRecDepth 100000
set_option maxHeartbeats 2000000
namespace ZX
open PySem PySem.Spec PyProof.Rows L2
/-! lists and tuples alike: walked, and walked two by two -/
def SqOf (t : Bool) (K : PySem.W.Frag) (H : Hp) (a : Addr) (xs : List V) : Prop := if t = true then SqT K H a xs else SqL K H a xs
def ItOf (t : Bool) (h : Heap) (it a : Addr) (i : Nat) : Prop := if t = true then h.IsTupleIter it a i else h.IsListIter it a i
def IsOf (t : Bool) (h : Heap) (a : Addr) (its : Array Value) : Prop := if t = true then h.IsTuple a its else h.IsList a its
theorem ItOf.at {t : Bool} {h h' : Heap} {it a : Addr} {i : Nat} (x : ItOf t h it a i) (k : ∀ o, h.get? it = some o → h'.get? it = some o) : ItOf t h' it a i := by
  cases t
  · exact Heap.IsListIter.at (show h.IsListIter it a i from x) k
  · exact Heap.IsTupleIter.at (show h.IsTupleIter it a i from x) k
theorem ItOf.ob {t : Bool} {h : Heap} {it a : Addr} {i : Nat} (x : ItOf t h it a i) : ∃ o, h.get? it = some o ∧ ∀ v, o.data ≠ .cell v := by
  cases t
  · obtain ⟨o, e, _, d⟩ := (show h.IsListIter it a i from x)
    exact ⟨o, e, fun v q => by rw [d] at q; cases q⟩
  · obtain ⟨o, e, _, d⟩ := (show h.IsTupleIter it a i from x)
    exact ⟨o, e, fun v q => by rw [d] at q; cases q⟩
section
variable {X : Cx} {pins : List (Addr × Obj)} {σ : L2.St} {H : Hp} {s : Shared}
theorem sq_read (I : Inv X pins σ H s) {t : Bool} {a : Addr} {xs : List V} (h : SqOf t X.K H a xs) : ∃ its : List Value, Vals xs its ∧ IsOf t s.heap a its.toArray := by
  cases t
  · obtain ⟨its, rv, p, _⟩ := I.list (show SqL X.K H a xs from h)
    exact ⟨its, rv, p.isList⟩
  · obtain ⟨its, rv, p, _⟩ := I.tuple (show SqT X.K H a xs from h)
    exact ⟨its, rv, p⟩
theorem sq_inj (I : Inv X pins σ H s) {t : Bool} {a : Addr} {xs ys : List V} (h : SqOf t X.K H a xs) (k : SqOf t X.K H a ys) : xs = ys := by
  cases t
  · exact I.list_inj (show SqL X.K H a xs from h) k
  · exact I.tuple_inj (show SqT X.K H a xs from h) k
end
theorem is_lt {t : Bool} {h : Heap} {a : Addr} {its : Array Value} (x : IsOf t h a its) : a < h.objs.size := by
  cases t
  · obtain ⟨_, e, _⟩ := (show h.IsList a its from x)
    exact Heap.lt_size e
  · obtain ⟨_, e, _⟩ := (show h.IsTuple a its from x)
    exact Heap.lt_size e
theorem drawsOf {prog : Program} {w : World} {A : Around} (hh : A.handled = none) (t : Bool) (it a : Addr) (hne : a ≠ it) (items : Array Value) :
    Draws prog w A it [it, a] items.size (fun i v => items[i]? = some v) (fun i h => ItOf t h it a i ∧ IsOf t h a items) := by
  cases t
  · exact Draws.list hh it a hne items
  · exact Draws.tuple hh it a hne items
theorem beginsOf (t : Bool) (a : Addr) (items : Array Value) : ∃ o : Obj, Begins (.ref a) o (fun h => IsOf t h a items) ∧ ∀ (h : Heap) (it : Addr), h.get? it = some o → ItOf t h it a 0 := by
  cases t
  · exact ⟨_, begins_list a items, fun h it e => ⟨_, e, rfl, rfl⟩⟩
  · exact ⟨_, begins_tuple a items, fun h it e => ⟨_, e, rfl, rfl⟩⟩
/-- the i-th of both -/
def Itzx (K : PySem.W.Frag) (t1 t2 : Bool) (a b : Addr) : It :=
  ⟨fun i H => ∃ (xs ys : List V) (x y : V), SqOf t1 K H a xs ∧ SqOf t2 K H b ys ∧ xs[i]? = some x ∧ ys[i]? = some y,
    fun i H v H' => ∃ T x y, v = .ref T ∧ H T = none ∧ H' = upd H T (.tup [x, y]) ∧ (∀ xs, SqOf t1 K H a xs → xs[i]? = some x) ∧ ∀ ys, SqOf t2 K H b ys → ys[i]? = some y,
    fun i H => ∃ xs ys : List V, SqOf t1 K H a xs ∧ SqOf t2 K H b ys ∧ i ≤ xs.length ∧ i ≤ ys.length ∧ (i = xs.length ∨ i = ys.length)⟩
theorem turn_zx {P : Program} {w : World} {K : PySem.W.Frag} {elts : List Expr} {kk : Nat} {tpos : Pos} {t1 t2 : Bool} {a b z TI TO i1 i2 : Addr} (D : ZipSep2 z TI TO i1 i2 [i1, a] [i2, b]) (na : a ≠ i1) (nb : b ≠ i2) :
    Turn P w K (.Tuple elts kk tpos) (Itzx K t1 t2 a b) [z, TI, TO, i1, i2] z (fun i h => IsZip h z TI TO .none ∧ IsPair h TI (.ref i1) (.ref i2) ∧ (∃ x y, IsPair h TO x y) ∧ ItOf t1 h i1 a i ∧ ItOf t2 h i2 b i) := by
  have five : ∀ {c : Addr}, c ∈ [z, TI, TO, i1, i2] → c = z ∨ c = TI ∨ c = TO ∨ c = i1 ∨ c = i2 := fun {c} hc => by simpa using hc
  have out : ∀ {c : Addr}, c ∉ [z, TI, TO, i1, i2] → c ≠ z ∧ c ≠ TO ∧ c ≠ i1 ∧ c ≠ i2 := fun {c} hc => ⟨fun e => hc (by simp [e]), fun e => hc (by simp [e]), fun e => hc (by simp [e]), fun e => hc (by simp [e])⟩
  constructor
  · simp
  · intro i h st c hc
    obtain ⟨hz, hTI, ⟨x, y, hTO⟩, h1, h2⟩ := st
    rcases five hc with rfl | rfl | rfl | rfl | rfl
    · exact ⟨_, hz, fun v q => by cases q⟩
    · exact ⟨_, hTI, fun v q => by cases q⟩
    · exact ⟨_, hTO, fun v q => by cases q⟩
    · exact h1.ob
    · exact h2.ob
  · intro i h h' st k
    obtain ⟨hz, hTI, ⟨x, y, hTO⟩, h1, h2⟩ := st
    exact ⟨k z (by simp) _ hz, k TI (by simp) _ hTI, ⟨x, y, k TO (by simp) _ hTO⟩, h1.at fun o q => k i1 (by simp) o q, h2.at fun o q => k i2 (by simp) o q⟩
  · intro X hP hw hK hc i pins s σ H E I hf st hg
    subst hP hw hK
    obtain ⟨hz, hTI, ⟨x0, y0, hTO⟩, h1, h2⟩ := st
    obtain ⟨xs, ys, x, y, hqx, hqy, hx, hy⟩ := hg
    obtain ⟨its, rv, p⟩ := sq_read I hqx
    obtain ⟨its2, rv2, p2⟩ := sq_read I hqy
    obtain ⟨u, hu, ru⟩ := rv.get hx
    obtain ⟨u2, hu2, ru2⟩ := rv2.get hy
    have hzl : z < s.heap.objs.size := Heap.lt_size hz
    have hh : X.A.in1.handled = none := I.ok.hd hc
    have l1 : i < its.toArray.size := by simp; exact (List.getElem?_eq_some_iff.mp hu).1
    have l2 : i < its2.toArray.size := by simp; exact (List.getElem?_eq_some_iff.mp hu2).1
    refine wpAny_pyNext_zipD2_item D (drawsOf hh t1 i1 a na its.toArray) (drawsOf hh t2 i2 b nb its2.toArray) hz hTI hTO ⟨h1, p⟩ ⟨h2, p2⟩ l1 l2 fun v1 v2 h' tk e1 e2 z' TO' h1' h2' hT hsz hk => ?_
    have ev1 : v1 = u := by
      have q : its.toArray[i]? = some u := by simpa using hu
      exact Option.some.inj ((show its.toArray[i]? = some v1 from e1).symm.trans q)
    have ev2 : v2 = u2 := by
      have q : its2.toArray[i]? = some u2 := by simpa using hu2
      exact Option.some.inj ((show its2.toArray[i]? = some v2 from e2).symm.trans q)
    subst ev1 ev2
    refine ⟨_, rfl, wpAny_letOwnedTupleGo_zip (s := { s with heap := h', toks := tk }) z' fun h'' z'' sb => ?_⟩
    have hT2 : h''.get? s.heap.objs.size = some { cls := .type "tuple", data := .seq #[v1, v2] } := (sb.2 _ (Nat.ne_of_gt hzl)).trans hT
    have new : ObjOk X.prog X.w (upd H s.heap.objs.size (.tup [x, y])) h'' s.heap.objs.size (.tup [x, y]) := ⟨by show 2 ≤ sizeLine; decide, [v1, v2], .cons ru (.cons ru2 .nil), ⟨_, hT2, rfl, _, rfl⟩⟩
    have J : Inv X pins σ (upd H s.heap.objs.size (.tup [x, y])) { s with heap := h'', toks := tk } :=
      I.turnedNew (t' := tk) (ch := [z, TI, TO, i1, i2]) (fun c o hb q => by obtain ⟨c1, c2, c3, c4⟩ := out hb; exact (sb.2 c c1).trans (hk c o c1 c2 c3 c4 q)) hf (Nat.le_refl _) new
    refine ⟨.ref s.heap.objs.size, _, J, rfl, ⟨_, x, y, rfl, I.hok.fresh (Nat.le_refl _), rfl, fun l hl => by rw [sq_inj I hl hqx]; exact hx, fun l hl => by rw [sq_inj I hl hqy]; exact hy⟩, ⟨z'', ?_, ⟨v1, v2, ?_⟩, ?_, ?_⟩, fun c hcm => ?_⟩
    · exact (sb.2 _ D.TIz).trans (hk _ _ D.TIz D.TITO D.TIi1 D.TIi2 hTI)
    · exact (sb.2 _ D.TOz).trans TO'
    · exact h1'.1.at fun o q => (sb.2 _ (Ne.symm D.zi1)).trans q
    · exact h2'.1.at fun o q => (sb.2 _ (Ne.symm D.zi2)).trans q
    · have hlt : c < s.heap.objs.size := by
        rcases five hcm with rfl | rfl | rfl | rfl | rfl
        · exact hzl
        · exact Heap.lt_size hTI
        · exact Heap.lt_size hTO
        · obtain ⟨o, e, _⟩ := h1.ob
          exact Heap.lt_size e
        · obtain ⟨o, e, _⟩ := h2.ob
          exact Heap.lt_size e
      rw [upd_ne (Nat.ne_of_lt hlt)]
      exact (hf c hcm).1
  · intro X hP hw hK hc i pins s σ H E I hf st hg
    subst hP hw hK
    obtain ⟨hz, hTI, ⟨x0, y0, hTO⟩, h1, h2⟩ := st
    obtain ⟨xs, ys, hqx, hqy, le1, le2, hend⟩ := hg
    obtain ⟨its, rv, p⟩ := sq_read I hqx
    obtain ⟨its2, rv2, p2⟩ := sq_read I hqy
    have hh : X.A.in1.handled = none := I.ok.hd hc
    have n1 : xs.length = its.length := rv.length
    have n2 : ys.length = its2.length := rv2.length
    refine wpAny_pyNext_zipD2_end D (drawsOf hh t1 i1 a na its.toArray) (drawsOf hh t2 i2 b nb its2.toArray) hz hTI hTO ⟨h1, p⟩ ⟨h2, p2⟩ (by simp; omega) (by simp; omega) (by simp; omega) fun h' tk hk => ⟨rfl, ?_⟩
    exact I.turnedL (t' := tk) (ch := [z, TI, TO, i1, i2]) (fun c o hb q => by obtain ⟨c1, c2, c3, c4⟩ := out hb; exact hk c o c1 c2 c3 c4 q) hf
  · exact fun A i s Q E st h => wpAny_pyIter_zip st.1 h
/-- zip(e, e2), each a list or a tuple -/
def iZx (K : PySem.W.Frag) (ta : TA) : TI := fun σ H R => ta σ H fun vs H1 => ∃ (a b : Addr) (xs ys : List V) (t1 t2 : Bool), vs = [.ref a, .ref b] ∧ SqOf t1 K H1 a xs ∧ SqOf t2 K H1 b ys ∧ R (Itzx K t1 t2 a b) H1
theorem pi_zx {X : Cx} {e e2 : Expr} {ta : TA} {p pos tpos : Pos} {elts : List Expr} {kk : Nat} (hg : Gl X "zip") (hm : X.mg "zip" = none) (ha : PA X [e, e2] ta)
    (hs : starEach [e, e2] X.env = (false, eval e X.env) :: starEach [e2] X.env := by rfl) (hpl : (backTo pos (starEach [e2] X.env)).any (·.1) = false := by rfl) :
    PI X (.Tuple elts kk tpos) (.Call (.Name "zip" p) [e, e2] [] pos) (iZx X.K ta) := by
  refine ⟨fun pins s σ H R I h => ?_⟩
  refine Call_ (ld_blt I hg hm PyProof.Rows.boot_zip (PyProof.Rows.callWith_type1 (thn (ha.run pos pins s σ H _ I h) fun us s1 ⟨vs, H1, I1, r1, q1⟩ => ?_) hs hpl))
  obtain ⟨a, b, xs, ys, t1, t2, rfl, hqx, hqy, q⟩ := q1
  obtain ⟨u1, u2, rfl, ra, rb⟩ := vals2 r1
  cases ra
  cases rb
  obtain ⟨its, rv, p1⟩ := sq_read I1 hqx
  obtain ⟨its2, rv2, p2⟩ := sq_read I1 hqy
  obtain ⟨o1, B1, k1⟩ := beginsOf t1 a its.toArray
  obtain ⟨o2, B2, k2⟩ := beginsOf t2 b its2.toArray
  have la := is_lt p1
  have lb := is_lt p2
  refine zip_begins2 B1 B2 p1 p2 fun h' hz hTI hTO e1 e2 hsz hk => wpAny_pyIter_zip hz ?_
  have I2 : Inv X pins σ H1 { s1 with heap := h' } := I1.kept (t' := s1.toks) hk
  refine ⟨s1.heap.objs.size + 4, [s1.heap.objs.size + 4, s1.heap.objs.size + 2, s1.heap.objs.size + 3, s1.heap.objs.size, s1.heap.objs.size + 1], _, _, H1, rfl, I2,
    turn_zx (t1 := t1) (t2 := t2) (zip_sep2 (fp1 := [a]) (fp2 := [b]) (fun c hc => by rw [List.mem_singleton.mp hc]; exact la) fun c hc => by rw [List.mem_singleton.mp hc]; exact lb) (Nat.ne_of_lt la) (Nat.ne_of_lt (Nat.lt_of_lt_of_le lb (Nat.le_add_right _ 1))),
    ⟨hz, hTI, ⟨_, _, hTO⟩, k1 _ _ e1, k2 _ _ e2⟩, fun c hcm => ?_, q⟩
  have hle : s1.heap.objs.size ≤ c := by
    have e' : c = s1.heap.objs.size + 4 ∨ c = s1.heap.objs.size + 2 ∨ c = s1.heap.objs.size + 3 ∨ c = s1.heap.objs.size ∨ c = s1.heap.objs.size + 1 := by simpa using hcm
    rcases e' with rfl | rfl | rfl | rfl | rfl
    · exact Nat.le_add_right _ _
    · exact Nat.le_add_right _ _
    · exact Nat.le_add_right _ _
    · exact Nat.le_refl _
    · exact Nat.le_add_right _ _
  exact I1.fpOk hle (I1.hok.fresh hle)
theorem walk_zx {K : PySem.W.Frag} {t1 t2 : Bool} {a b : Addr} {xs ys : List V} (hl : xs.length = ys.length) : Walk (Itzx K t1 t2 a b) xs.length (fun H => SqOf t1 K H a xs ∧ SqOf t2 K H b ys) (YPair (fun i => xs[i]?) (fun i => ys[i]?)) := by
  refine ⟨fun i _ hi q => ?_, fun _ q => ⟨xs, ys, q.1, q.2, Nat.le_refl _, by omega, .inl rfl⟩, fun i H v H' _ q y => ?_⟩
  · have h2 : i < ys.length := by omega
    exact ⟨xs, ys, xs[i], ys[i], q.1, q.2, by simp [hi], by simp [h2]⟩
  · obtain ⟨T, x, z, h1, h2, h3, h4, h5⟩ := y
    exact ⟨T, x, z, h1, h2, h3, h4 xs q.1, h5 ys q.2⟩
/-! a list or a tuple, walked -/
def Itsq (K : PySem.W.Frag) (t : Bool) (a : Addr) : It := if t = true then Itt K a else Itl K a
def iSq (K : PySem.W.Frag) (tl : TE) : TI := fun σ H R => tl σ H fun x H1 => ∃ (a : Addr) (xs : List V) (t : Bool), x = .ref a ∧ SqOf t K H1 a xs ∧ R (Itsq K t a) H1
theorem pi_sq {X : Cx} {tg l : Expr} {tl : TE} (hl : PE X l tl) : PI X tg l (iSq X.K tl) := by
  refine ⟨fun pins s σ H R I h => ?_⟩
  refine thn (hl.run pins s σ H _ I h) fun v s1 ⟨x, H1, I1, r1, a, xs, t, e, hq, q⟩ => ?_
  subst e
  cases r1
  cases t
  · obtain ⟨its, rv, p, _⟩ := I1.list (show SqL X.K H1 a xs from hq)
    refine wpAny_pyIter_list p.isList ⟨s1.heap.objs.size, [s1.heap.objs.size], _, _, H1, rfl, I1.kept (t' := s1.toks) fun b o e => Heap.get?_push_of_some _ e, turn_list a _, ⟨_, Heap.get?_push_size _ rfl, rfl, rfl⟩, fun b hb => ?_, q⟩
    rw [List.mem_singleton.mp hb]
    exact I1.fpOk (Nat.le_refl _) (I1.hok.fresh (Nat.le_refl _))
  · obtain ⟨its, rv, p, _⟩ := I1.tuple (show SqT X.K H1 a xs from hq)
    refine wpAny_pyIter_tuple (show s1.heap.IsTuple a its.toArray from p) ⟨s1.heap.objs.size, [s1.heap.objs.size], _, _, H1, rfl, I1.kept (t' := s1.toks) fun b o e => Heap.get?_push_of_some _ e, turn_tuple a _, ⟨_, Heap.get?_push_size _ rfl, rfl, rfl⟩, fun b hb => ?_, q⟩
    rw [List.mem_singleton.mp hb]
    exact I1.fpOk (Nat.le_refl _) (I1.hok.fresh (Nat.le_refl _))
theorem walk_sq {K : PySem.W.Frag} {t : Bool} {a : Addr} {xs : List V} : Walk (Itsq K t a) xs.length (fun H => SqOf t K H a xs) (YAt xs) := by
  cases t
  · exact walk_list
  · exact walk_tup
end ZX
set_option Elab.async false
set_option linter.all false
set_option maxRecDepth 100000
set_option maxHeartbeats 2000000
namespace Z
open PySem L2 PyProof.Rows ZX
def topS (i : Nat) : Stmt := PySem.Challenge.pw_anymend_k07_whole_names_and_forms.main.body.getD i (.Pass ⟨0, 0, 0, 0⟩)
/-! heaps that grow; tables may grow too -/
def Ext (H H' : Hp) : Prop := ∀ b o, H b = some o → (∀ ps, o ≠ .tbl ps) → H' b = some o
structure Gr (T : List Addr) (H H' : Hp) : Prop where
  ext : Ext H H'
  tab : ∀ P, GxR.TabG H P → GxR.TabG H' P
  stay : ∀ b, H' b = none → H b = none
  keep : ∀ P, P ∉ T → ∀ ps, H P = some (.tbl ps) → H' P = some (.tbl ps)
def Tabs (T : List Addr) (H : Hp) : Prop := ∀ P ∈ T, GxR.TabG H P
theorem Ext.refl (H : Hp) : Ext H H := fun _ _ e _ => e
theorem Ext.trans {H H1 H2 : Hp} (a : Ext H H1) (b : Ext H1 H2) : Ext H H2 := fun c o e n => b c o (a c o e n) n
theorem Gr.refl (T : List Addr) (H : Hp) : Gr T H H := ⟨.refl H, fun _ h => h, fun _ h => h, fun _ _ _ h => h⟩
theorem Gr.trans {T : List Addr} {H H1 H2 : Hp} (a : Gr T H H1) (b : Gr T H1 H2) : Gr T H H2 := ⟨a.ext.trans b.ext, fun P h => b.tab P (a.tab P h), fun q h => a.stay q (b.stay q h), fun P n ps h => b.keep P n ps (a.keep P n ps h)⟩
theorem Gr.same {T : List Addr} {H H' : Hp} (s : Same H H') : Gr T H H' := ⟨fun b o e _ => s b o e, fun P ⟨ps, e, t⟩ => ⟨ps, s P _ e, t⟩, fun b h => s.free h, fun P _ ps h => s P _ h⟩
theorem Gr.tabbed {T : List Addr} {H H' : Hp} {P : Addr} (hP : P ∈ T) (h : GxR.TabG H P) (t : GxR.Tabbed P H H') : Gr T H H' := by
  obtain ⟨ps, e, _⟩ := h
  refine ⟨fun b o q n => ?_, fun Q h => ?_, fun b h => ?_, fun Q n qs h => by rw [t.2 Q (fun z => n (z ▸ hP))]; exact h⟩
  · rw [t.2 b (fun z => by rw [z, e] at q; exact n ps (Option.some.inj q).symm)]
    exact q
  · by_cases z : Q = P
    · rw [z]
      exact t.1
    · obtain ⟨qs, e2, t2⟩ := h
      exact ⟨qs, by rw [t.2 Q z]; exact e2, t2⟩
  · by_cases z : b = P
    · obtain ⟨⟨qs, e2, _⟩, _⟩ := t
      rw [z, e2] at h
      cases h
    · rw [← t.2 b z]
      exact h
theorem Gr.tabs {T : List Addr} {H H' : Hp} (g : Gr T H H') (t : Tabs T H) : Tabs T H' := fun P hP => g.tab P (t P hP)
/-- a new object -/
theorem same_new {q : Addr} {H : Hp} {o : HO} (h : H q = none) : Same H (upd H q o) := fun b u e => by
  rw [upd_ne (ne_of_none e h)]
  exact e
theorem Gr.new {T : List Addr} {q : Addr} {H : Hp} {o : HO} (h : H q = none) : Gr T H (upd H q o) := .same (same_new h)
/-- an object that stood not at first -/
theorem Gr.upd {T : List Addr} {H H' : Hp} {q : Addr} {o : HO} (g : Gr T H H') (h : H q = none) : Gr T H (upd H' q o) := by
  refine ⟨fun b u e n => ?_, fun P t => ?_, fun b e => ?_, fun P n qs e => by rw [upd_ne (ne_of_none e h)]; exact g.keep P n qs e⟩
  · rw [upd_ne (ne_of_none e h)]
    exact g.ext b u e n
  · obtain ⟨ps, e, _⟩ := t
    obtain ⟨ps', e', t'⟩ := g.tab P ⟨ps, e, by assumption⟩
    exact ⟨ps', by rw [upd_ne (ne_of_none e h)]; exact e', t'⟩
  · by_cases z : b = q
    · rw [z]
      exact h
    · rw [upd_ne z] at e
      exact g.stay b e
def mask (D : Addr) (H : Hp) : Hp := fun b => if b = D then none else H b
theorem mask_ne {D b : Addr} {H : Hp} (h : b ≠ D) : mask D H b = H b := if_neg h
theorem mask_upd (D : Addr) (H : Hp) (o : HO) : mask D (upd H D o) = mask D H := by
  funext b
  unfold mask
  split
  · rfl
  · exact upd_ne (by assumption)
theorem mask_ext (D : Addr) (H : Hp) : Ext (mask D H) H := fun b o e _ => by
  unfold mask at e
  split at e
  · cases e
  · exact e
theorem Ext.mask {D : Addr} {H H' : Hp} (x : Ext H H') : Ext (mask D H) (mask D H') := fun b o e n => by
  by_cases h : b = D
  · unfold Z.mask at e
    rw [if_pos h] at e
    cases e
  · rw [mask_ne h] at e ⊢
    exact x b o e n
theorem of_mask {D : Addr} {H H' : Hp} (x : Ext H H') (h : H D = none) : Ext H (Z.mask D H') := fun b o e n => by
  rw [mask_ne (ne_of_none e h)]
  exact x b o e n
theorem Ext.sq {t : Bool} {K : PySem.W.Frag} {H H' : Hp} {a : Addr} {xs : List V} (x : Ext H H') (h : SqOf t K H a xs) : SqOf t K H' a xs := by
  cases t
  · rcases (show SqL K H a xs from h) with (h | ⟨o, h⟩) | h
    · exact .inl (.inl (x _ _ h fun _ z => by cases z))
    · exact .inl (.inr ⟨o, x _ _ h fun _ z => by cases z⟩)
    · exact .inr h
  · rcases (show SqT K H a xs from h) with (h | ⟨o, h⟩) | h
    · exact .inl (.inl (x _ _ h fun _ z => by cases z))
    · exact .inl (.inr ⟨o, x _ _ h fun _ z => by cases z⟩)
    · exact .inr h
theorem sqL {K : PySem.W.Frag} {H : Hp} {a : Addr} {xs : List V} (h : H a = some (.lst xs)) : SqOf false K H a xs := show SqL K H a xs from SqL.of h
theorem sqT {K : PySem.W.Frag} {H : Hp} {a : Addr} {xs : List V} (h : H a = some (.tup xs)) : SqOf true K H a xs := show SqT K H a xs from SqT.of h
/-! two rows side by side -/
inductive All2 {α β : Type} (P : α → β → Prop) : List α → List β → Prop
  | nil : All2 P [] []
  | cons {a : α} {b : β} {as : List α} {bs : List β} (h : P a b) (t : All2 P as bs) : All2 P (a :: as) (b :: bs)
section
variable {α β γ : Type} {P Q : α → β → Prop} {as as' : List α} {bs bs' : List β}
theorem All2.length (h : All2 P as bs) : as.length = bs.length := by
  induction h with
  | nil => rfl
  | cons _ _ ih => rw [List.length_cons, List.length_cons, ih]
theorem All2.mono (m : ∀ a b, P a b → Q a b) (h : All2 P as bs) : All2 Q as bs := by
  induction h with
  | nil => exact .nil
  | cons h _ ih => exact .cons (m _ _ h) ih
theorem All2.app (h : All2 P as bs) (k : All2 P as' bs') : All2 P (as ++ as') (bs ++ bs') := by
  induction h with
  | nil => exact k
  | cons h _ ih => exact .cons h ih
theorem All2.snoc {a : α} {b : β} (h : All2 P as bs) (k : P a b) : All2 P (as ++ [a]) (bs ++ [b]) := h.app (.cons k .nil)
theorem All2.get (h : All2 P as bs) : ∀ {i : Nat} {a : α}, as[i]? = some a → ∃ b, bs[i]? = some b ∧ P a b := by
  induction h with
  | nil => intro i a e; simp at e
  | cons h t ih =>
    intro i a e
    cases i with
    | zero =>
      simp at e
      subst e
      exact ⟨_, by simp, h⟩
    | succ i =>
      simp at e
      obtain ⟨b, e2, p⟩ := ih e
      exact ⟨b, by simpa using e2, p⟩
theorem All2.get' (h : All2 P as bs) : ∀ {i : Nat} {b : β}, bs[i]? = some b → ∃ a, as[i]? = some a ∧ P a b := by
  induction h with
  | nil => intro i a e; simp at e
  | cons h t ih =>
    intro i a e
    cases i with
    | zero =>
      simp at e
      subst e
      exact ⟨_, by simp, h⟩
    | succ i =>
      simp at e
      obtain ⟨b, e2, p⟩ := ih e
      exact ⟨b, by simpa using e2, p⟩
theorem All2.erase (h : All2 P as bs) : ∀ k : Nat, All2 P (as.eraseIdx k) (bs.eraseIdx k) := by
  induction h with
  | nil => intro k; exact .nil
  | cons h t ih =>
    intro k
    cases k with
    | zero => exact t
    | succ k => exact .cons h (ih k)
theorem All2.mapr {f : β → γ} {R : α → γ → Prop} (h : All2 P as bs) (m : ∀ a b, P a b → R a (f b)) : All2 R as (bs.map f) := by
  induction h with
  | nil => exact .nil
  | cons h _ ih => exact .cons (m _ _ h) ih
theorem All2.ofr {f : γ → β} {cs : List γ} (h : All2 P as (cs.map f)) : All2 (fun a c => P a (f c)) as cs := by
  induction cs generalizing as with
  | nil => cases h; exact .nil
  | cons c cs ih => cases h with
    | cons h t => exact .cons h (ih t)
end
theorem take_snoc {β : Type} {F : List β} {i : Nat} {b : β} (h : F[i]? = some b) : F.take (i + 1) = F.take i ++ [b] := by
  rw [List.take_add_one, h]
  rfl
/-- a list or a tuple that stands in the heap -/
def SqH (t : Bool) (H : Hp) (a : Addr) (xs : List V) : Prop := H a = some (if t = true then .tup xs else .lst xs)
theorem Ext.sqh {t : Bool} {H H' : Hp} {a : Addr} {xs : List V} (x : Ext H H') (h : SqH t H a xs) : SqH t H' a xs := x _ _ h (fun ps z => by cases t <;> cases z)
theorem SqH.sq {t : Bool} {K : PySem.W.Frag} {H : Hp} {a : Addr} {xs : List V} (h : SqH t H a xs) : SqOf t K H a xs := by
  cases t
  · exact sqL h
  · exact sqT h
/-- a row of whole numbers, a list or a tuple -/
def RowV (H : Hp) (v : V) (r : List Int) : Prop := ∃ (a : Addr) (t : Bool), v = .ref a ∧ SqH t H a (r.map V.int)
def RowL (H : Hp) (v : V) (r : List Int) : Prop := ∃ a : Addr, v = .ref a ∧ H a = some (.lst (r.map V.int))
/-- a tuple that was made here: its object is known to have no dict -/
def TupF (H : Hp) (a : Addr) (xs : List V) : Prop := ∃ o : Obj, H a = some (.frz o (.tup xs)) ∧ o.cls = .type "tuple" ∧ o.dict = none
theorem TupF.ext {H H' : Hp} {a : Addr} {xs : List V} (x : Ext H H') (h : TupF H a xs) : TupF H' a xs := by
  obtain ⟨o, e, q⟩ := h
  exact ⟨o, x _ _ e (fun _ z => by cases z), q⟩
theorem TupF.sq {K : PySem.W.Frag} {H : Hp} {a : Addr} {xs : List V} (h : TupF H a xs) : SqT K H a xs := by
  obtain ⟨o, e, _⟩ := h
  exact .inl (.inr ⟨o, e⟩)
def RowT (H : Hp) (v : V) (r : List Int) : Prop := ∃ a : Addr, v = .ref a ∧ TupF H a (r.map V.int)
theorem RowL.ext {H H' : Hp} {v : V} {r : List Int} (x : Ext H H') (h : RowL H v r) : RowL H' v r := by
  obtain ⟨a, e, q⟩ := h
  exact ⟨a, e, x _ _ q fun _ z => by cases z⟩
theorem RowT.ext {H H' : Hp} {v : V} {r : List Int} (x : Ext H H') (h : RowT H v r) : RowT H' v r := by
  obtain ⟨a, e, q⟩ := h
  exact ⟨a, e, q.ext x⟩
theorem RowV.ext {H H' : Hp} {v : V} {r : List Int} (x : Ext H H') (h : RowV H v r) : RowV H' v r := by
  obtain ⟨a, t, e, q⟩ := h
  exact ⟨a, t, e, x.sqh q⟩
theorem RowL.v {H : Hp} {v : V} {r : List Int} (h : RowL H v r) : RowV H v r := by
  obtain ⟨a, e, q⟩ := h
  exact ⟨a, false, e, q⟩
/-- rows of them -/
def MatV (H : Hp) (v : V) (R : List (List Int)) : Prop := ∃ (a : Addr) (t : Bool) (vs : List V), v = .ref a ∧ SqH t H a vs ∧ All2 (RowV H) vs R
def MatL (H : Hp) (v : V) (R : List (List Int)) : Prop := ∃ (a : Addr) (vs : List V), v = .ref a ∧ H a = some (.lst vs) ∧ All2 (RowL H) vs R
def MatT (H : Hp) (v : V) (R : List (List Int)) : Prop := ∃ (a : Addr) (vs : List V), v = .ref a ∧ H a = some (.tup vs) ∧ All2 (RowT H) vs R
theorem MatV.ext {H H' : Hp} {v : V} {R : List (List Int)} (x : Ext H H') (h : MatV H v R) : MatV H' v R := by
  obtain ⟨a, t, vs, e, q, m⟩ := h
  exact ⟨a, t, vs, e, x.sqh q, m.mono fun _ _ => RowV.ext x⟩
theorem MatL.ext {H H' : Hp} {v : V} {R : List (List Int)} (x : Ext H H') (h : MatL H v R) : MatL H' v R := by
  obtain ⟨a, vs, e, q, m⟩ := h
  exact ⟨a, vs, e, x _ _ q (fun _ z => by cases z), m.mono fun _ _ => RowL.ext x⟩
theorem MatT.ext {H H' : Hp} {v : V} {R : List (List Int)} (x : Ext H H') (h : MatT H v R) : MatT H' v R := by
  obtain ⟨a, vs, e, q, m⟩ := h
  exact ⟨a, vs, e, x _ _ q (fun _ z => by cases z), m.mono fun _ _ => RowT.ext x⟩
theorem MatL.v {H : Hp} {v : V} {R : List (List Int)} (h : MatL H v R) : MatV H v R := by
  obtain ⟨a, vs, e, q, m⟩ := h
  exact ⟨a, false, vs, e, q, m.mono fun _ _ => RowL.v⟩
def IntV (H : Hp) (v : V) (z : Int) : Prop := v = .int z
theorem all_int {H : Hp} : ∀ {ys : List V} {zs : List Int}, All2 (IntV H) ys zs → ys = zs.map V.int
  | _, _, .nil => rfl
  | _, _, .cons (a := y) h t => by
    have h : y = _ := h
    rw [h, all_int t]
    rfl
theorem row_at {r : List Int} {i : Nat} {v : V} (h : (r.map V.int)[i]? = some v) : ∃ z, r[i]? = some z ∧ v = .int z := by
  rw [List.getElem?_map] at h
  cases e : r[i]? with
  | none => rw [e] at h; cases h
  | some z => rw [e] at h; exact ⟨z, rfl, (Option.some.inj h).symm⟩
/-! a list comprehension that maps -/
theorem lc_map {J : It} {n : Nat} {G : Hp → Prop} {Y : Nat → Hp → V → Hp → Prop} {T : List Addr} {g : TG} {te : TE} {vs : List Nat} {σ : L2.St} {H1 : Hp} {D : Addr} {β : Type} {Qd : Hp → Prop} (F : List β) (P : Hp → V → β → Prop) (w : Walk J n G Y) (hn : n = F.length) (hz : n < sizeLine) (hD : H1 D = none) (hG : G H1) (st : ∀ H H', Ext H H' → G H → G H')
    (hP : ∀ H H' v b, Ext H H' → P H v b → P H' v b)
    (step : ∀ (i : Nat) (x : V) (b : β) (H H' : Hp) (Qc : VK) (Nx : Hp → Prop), i < n → Y i H x H' → F[i]? = some b → Gr T H1 H → (∃ acc, H D = some (.lst acc)) → (∀ y H4, Gr T H H4 → P (mask D H4) y b → Qc y H4) →
      g x (wipe σ vs) H' fun σ2 H2 => wipe σ2 vs = wipe σ vs ∧ tYes σ2 H2 fun c H3 => if c = true then te σ2 H3 Qc else Nx H3)
    (fin : ∀ H ys, H D = some (.lst ys) → All2 (P H) ys F → Gr T H1 H → Qd H) :
    ∃ W : Nat → Nat → Hp → Prop, (∃ m, W 0 m (upd H1 D (.lst []))) ∧ ∀ i m H, W i m H →
      (J.stop i H ∧ Qd H) ∨ (J.go i H ∧ ∃ Nx : Hp → Prop, (∀ H', Nx H' → ∃ m', m' < m ∧ W (i + 1) m' H') ∧ ∀ x H', J.yld i H x H' → g x (wipe σ vs) H' fun σ2 H2 => wipe σ2 vs = wipe σ vs ∧ tYes σ2 H2 fun b H3 =>
        if b = true then te σ2 H3 fun y H4 => ∃ acc, H4 D = some (.lst acc) ∧ acc.length < sizeLine ∧ Nx (upd H4 D (.lst (acc ++ [y]))) else Nx H3) := by
  subst hn
  refine lc_it w (fun i H => ∃ acc, H D = some (.lst acc) ∧ All2 (P (mask D H)) acc (F.take i) ∧ Gr T H1 H) ⟨[], upd_same, .nil, (Gr.new hD)⟩ (fun i H _ ⟨acc, _, _, g⟩ => st _ _ g.ext hG) (fun i x H H' hi hp hy => ?_) (fun H ⟨acc, h1, h2, h3⟩ => ?_)
  · obtain ⟨acc, h1, h2, h3⟩ := hp
    have hF := List.getElem?_eq_getElem hi
    refine step i x F[i] H H' _ _ hi hy hF h3 ⟨acc, h1⟩ ?_
    intro y H4 g4 p4
    refine ⟨acc, g4.ext _ _ h1 (fun _ z => by cases z), ?_, acc ++ [y], upd_same, ?_, (h3.trans g4).upd hD⟩
    · have := h2.length
      rw [List.length_take] at this
      omega
    · rw [mask_upd, take_snoc hF]
      exact (h2.mono fun _ _ => hP _ _ _ _ g4.ext.mask).snoc p4
  · rw [List.take_length] at h2
    exact fin H acc h1 (h2.mono fun _ _ => hP _ _ _ _ (mask_ext D H)) h3
theorem Ext.sqof {t : Bool} {K : PySem.W.Frag} {a : Addr} {xs : List V} : ∀ H H', Ext H H' → SqOf t K H a xs → SqOf t K H' a xs := fun _ _ x h => x.sq h
/-! subscripts, lengths, truth of what stands in the heap -/
section
variable {X : Cx}
theorem ixH : IxR X (fun x y H Q => ∃ (t : Bool) (a : Addr) (xs : List V) (i : Nat) (v : V), x = .ref a ∧ y = .int (i : Int) ∧ SqH t H a xs ∧ xs[i]? = some v ∧ Q v H) := by
  intro value slice pins s σ H x y v u Q I rx ry h
  refine ix_seq (X := X) value slice pins s σ H x y v u Q I rx ry ?_
  obtain ⟨t, a, xs, i, z, rfl, rfl, hS, hz, q⟩ := h
  cases t
  · exact .inl ⟨a, xs, i, z, rfl, rfl, SqL.of hS, atI_nat hz, q⟩
  · exact .inr (.inl ⟨a, xs, i, z, rfl, rfl, SqT.of hS, atI_nat hz, q⟩)
theorem lenH : CallR X (.builtin "len") (fun vs H Q => ∃ (t : Bool) (a : Addr) (xs : List V), vs = [.ref a] ∧ SqH t H a xs ∧ Q (.int (xs.length : Int)) H) := by
  intro pins s σ H vs us Q I r h
  refine call_len (X := X) pins s σ H vs us Q I r ?_
  obtain ⟨t, a, xs, rfl, hS, q⟩ := h
  refine ⟨_, xs.length, rfl, ?_, q⟩
  cases t
  · exact .inl ⟨xs, SqL.of hS, rfl⟩
  · exact .inr ⟨xs, SqT.of hS, rfl⟩
end
section
variable {X : Cx}
def rTupF (K : PySem.W.Frag) : List V → Hp → VK → Prop := fun xs H Q => ∃ (p : Addr) (ys : List V), xs = [.ref p] ∧ SqL K H p ys ∧ ∀ (l : Addr) (u : HO), H l = none → TupF (upd H l u) l ys → Q (.ref l) (upd H l u)
/-- tuple(xs) of a list: a new object, known as a whole -/
theorem call_tupF (K : PySem.W.Frag) (hK : X.K = K := by rfl) : CallR X (.type "tuple") (rTupF K) := by
  subst hK
  intro pins s σ H xs us Q I r h
  obtain ⟨p, ys, rfl, hq, q⟩ := h
  obtain ⟨u, rfl, rx⟩ := vals1 r
  cases rx
  obtain ⟨its, rv, pl, hz⟩ := I.list hq
  have hlen := rv.length
  refine call_tuple_list pl.isList (fun h' kp => ?_) (by simp only [List.size_toArray]; omega)
  have I1 : Inv X pins σ H { s with heap := h' } := I.kept (t' := s.toks) kp
  let ob : Obj := { cls := .type "tuple", data := .seq its.toArray }
  have new : ObjOk X.prog X.w (upd H h'.objs.size (.frz ob (.tup ys))) (h'.push ob) h'.objs.size (.frz ob (.tup ys)) := ⟨Heap.get?_push_size _ rfl, hz, its, rv, IsTup.new _ _⟩
  refine ⟨.ref h'.objs.size, _, I1.laid (t' := s.toks) (fun b o e => Heap.get?_push_of_some _ e) (Nat.le_refl _) new, rfl, q _ _ (I1.hok.fresh (Nat.le_refl _)) ⟨ob, upd_same, rfl, rfl⟩⟩
variable {o e : Expr} {es : List Expr} {to : TE} {t : TA} {name : Str} {apos cpos : Pos} {id : String} {r : V → List V → Hp → VK → Prop}
/-- a method of a tuple that was made here -/
def tBMF (r : V → List V → Hp → VK → Prop) (to : TE) (t : TA) : TE := fun σ H Q => to σ H fun x H1 => (∃ a xs, x = .ref a ∧ TupF H1 a xs) ∧ t σ H1 fun ys H2 => r x ys H2 Q
theorem pe_bmF (slot : Slot "tuple" name id) (hty : typeOf (.builtin id) = pure (.type "method_descriptor")) (hm : MtR X id r) (ho : PE X o to) (ha : PA X (e :: es) t) (hbase : attributeBase o name X.env (eval o X.env) = eval o X.env := by rfl)
    (hfew : ((backTo cpos (starEach (e :: es) X.env)).all (fun x => !x.1) && (backToKw cpos (keywordEach [] X.env)).all (fun x => x.1.isSome) && decide ((e :: es).length + ([] : List Keyword).length + (if ([] : List Keyword).isEmpty then 0 else 1) < 30)) = true := by rfl)
    (hline : (apos.endLine == cpos.line) = true := by rfl) (hs : starEach (e :: es) X.env = (false, eval e X.env) :: starEach es X.env := by rfl) (hplain : (backTo cpos (starEach es X.env)).any (·.1) = false := by rfl) : PE X (.Call (.Attribute o name apos) (e :: es) [] cpos) (tBMF r to t) := by
  refine ⟨fun pins s σ H Q I h => ?_⟩
  refine wpAny_Call_method_late hbase hfew hline rfl (thn (ho.run pins s σ H _ I h) fun v s1 ⟨x, H1, I1, r1, ⟨a, xs, ex, ob, eo, c1, c2⟩, q1⟩ => ?_)
  subst ex
  cases r1
  have g := (I1.hok a _ eo).1
  have hA := ha.run cpos pins s1 σ H1 _ I1 q1
  refine ⟨"tuple", id, PySem.F.plainAttrs_tuple, slot, hty, ⟨ob, g, c1⟩, fun b eb => by cases eb; exact ⟨ob, g, c2⟩, ?_⟩
  rw [hs] at hA ⊢
  have hp : ((false, eval e X.env) :: backTo cpos (starEach es X.env)).any (·.1) = false := by rw [List.any_cons, hplain]; rfl
  exact Calls.callWith_builtin hp (Calls.evalArgs_plain (thn hA fun us s2 ⟨vs, H2, I2, r2, q2⟩ => hm pins s2 σ H2 (.ref a) vs (.ref a) us Q I2 rfl r2 q2))
end
theorem truH {t : Bool} {K : PySem.W.Frag} {H : Hp} {a : Addr} {xs : List V} (h : SqH t H a xs) : TruV K (.ref a) H (!xs.isEmpty) := by
  cases t
  · exact .inl ⟨xs, SqL.of h, rfl⟩
  · exact .inr (.inl ⟨xs, SqT.of h, rfl⟩)
/-! defs whose body holds a generator expression -/
section
variable {P : Program} {w : World} {K : PySem.W.Frag} {mg : Str → Option Value} {base : Heap}
theorem okT {x qual : Str} {st : Stmt} {f c : Addr} {fd : FuncData} {N ps : List Str} {k : Nat} {sp : Sp} (F : Fun K x qual st f fd) (hc : fd.code = .ref c) (S : FnScope N ps (defScope st)) (len : ∀ vs H Q E, sp vs H Q E → vs.length = ps.length)
    (hbody : ∀ (A : Around) (outer : List Env) (s : Shared) (H : Hp) (vs : List V) (Q : VK) (E : XK), Room k (A.deeper (envOfC qual (defScope st) s.heap.objs.size f (.ref c))) → sp vs H Q E →
      ∃ t, PSs (cxOf CX0 P w K mg base N qual (defScope st) f (.ref c) A outer s H E).nox (defBody st) t ∧ t { nx := fun _ H' => Q .non H', rt := Q } (start N vs) H) : FnOk P w K mg base CX0 (k + 1) f fd ps sp := by
  obtain ⟨oc, od, kV, doc, pm, an, cdv, ct, osl, rfl, lk, hcd⟩ := F.ex
  have e : cdv = .ref c := hc
  subst e
  refine fn_of lk hcd S len fun A outer s H vs Q E hr hsp => ?_
  obtain ⟨t, h, q⟩ := hbody A outer s H vs Q E hr hsp
  exact ⟨t, h.nox, q⟩
end
/-- a def, ready to be called -/
structure Fx (P : Program) (w : World) (K : PySem.W.Frag) (mg : Str → Option Value) (base : Heap) (x : Str) (k : Nat) (ps : List Str) (sp : Sp) : Prop where
  ex : ∃ f fd, FnOk P w K mg base CX0 k f fd ps sp ∧ mg x = some (.ref f) ∧ PySem.W.keepIn K (.ref f) = true ∧ Binds K fd ps []
def E0 : XK := fun _ _ _ => False
theorem pe_fx {X : Cx} {x : Str} {k : Nat} {ps : List Str} {sp : Sp} {e : Expr} {es : List Expr} {t : TA} {p pos : Pos} (G : Fx X.prog X.w X.K X.mg X.base x k ps sp) (hr : Room k X.A) (ha : PA X (e :: es) t) (hg : Gl X x := by rfl)
    (hdb : (x == ("__debug__" : Str)) = false := by decide) (he : starEach (e :: es) X.env = (false, eval e X.env) :: starEach es X.env := by rfl) (hpl : (backTo pos (starEach es X.env)).any (·.1) = false := by rfl) :
    PE X (.Call (.Name x p) (e :: es) [] pos) (tCall sp [] E0 t) := by
  obtain ⟨f, fd, h1, h2, h3, h4⟩ := G.ex
  exact pe_call h1 hr hg h2 h3 h4 .nil pass0 ha hdb he hpl
end Z
set_option Elab.async false
set_option linter.all false
set_option maxRecDepth 100000
set_option maxHeartbeats 2000000
namespace Z
open PySem L2 PyProof.Rows ZX GX
/-! the law's draws -/
def valOf : Stmt → Expr
  | .Assign _ e _ => e
  | .Return (some e) _ => e
  | _ => .Constant .none 0 ⟨0, 0, 0, 0⟩
def lcSc : Expr → Scope
  | .ListComp _ _ sc _ => sc
  | _ => default
def lcElt : Expr → Expr
  | .ListComp e _ _ _ => e
  | e => e
def bodyAt (st : Stmt) (i : Nat) : Stmt := (defBody st).getD i (.Pass ⟨0, 0, 0, 0⟩)
def forBody : Stmt → List Stmt
  | .For _ _ b _ _ => b
  | _ => []
def binL : Expr → Expr
  | .BinOp l _ _ _ => l
  | e => e
theorem pi_sqK {X : Cx} (K : PySem.W.Frag) {tg l : Expr} {tl : TE} (hl : PE X l tl) (hK : X.K = K := by rfl) : PI X tg l (iSq K tl) := by
  subst hK
  exact pi_sq hl
section
variable {X : Cx}
theorem call_listK (K : PySem.W.Frag) (hK : X.K = K := by rfl) : CallR X (.type "list") (fun xs H Q => ∃ p ys, xs = [.ref p] ∧ (SqL K H p ys ∨ SqT K H p ys) ∧ ∀ l, H l = none → Q (.ref l) (upd H l (.lst ys))) := by
  subst hK
  exact call_list_of
def rTupOf (K : PySem.W.Frag) : List V → Hp → VK → Prop := fun xs H Q => ∃ p ys, xs = [.ref p] ∧ ((SqL K H p ys ∧ ∀ l, H l = none → Q (.ref l) (upd H l (.tup ys))) ∨ (SqT K H p ys ∧ Q (.ref p) H))
theorem call_tupK (K : PySem.W.Frag) (hK : X.K = K := by rfl) : CallR X (.type "tuple") (rTupOf K) := by
  subst hK
  exact call_tuple_of
end

abbrev s_l_pen : Stmt := topS 27
abbrev s_l_draw : Stmt := topS 28
abbrev s_l_pick : Stmt := topS 29
theorem sc_l_pen : FnScope ["_law_script", "_law_fold", "_law_cell"] ["_law_script"] (defScope s_l_pen) := ⟨rfl, rfl, rfl, by decide +kernel, rfl, by decide +kernel, by decide +kernel⟩
theorem sc_l_draw : FnScope ["_law_pen_here", "_law_many", "_law_cell", "_law_digit", "_law_blend"] ["_law_pen_here", "_law_many"] (defScope s_l_draw) := ⟨rfl, rfl, rfl, by decide +kernel, rfl, by decide +kernel, by decide +kernel⟩
theorem sc_l_pick : FnScope ["_law_pen_here", "_law_some"] ["_law_pen_here", "_law_some"] (defScope s_l_pick) := ⟨rfl, rfl, rfl, by decide +kernel, rfl, by decide +kernel, by decide +kernel⟩
/-! heaps -/
/-- all but p stands -/
def But (p : Addr) (H H' : Hp) : Prop := ∀ b, b ≠ p → H' b = H b
/-- what stood stands, but at p -/
def Kp (p : Addr) (H H' : Hp) : Prop := ∀ b o, b ≠ p → H b = some o → H' b = some o
theorem But.kp {p : Addr} {H H' : Hp} (h : But p H H') : Kp p H H' := fun b o n e => (h b n).trans e
theorem Kp.refl (p : Addr) (H : Hp) : Kp p H H := fun _ _ _ e => e
theorem Kp.trans {p : Addr} {H H1 H2 : Hp} (a : Kp p H H1) (b : Kp p H1 H2) : Kp p H H2 := fun c o n e => b c o n (a c o n e)
theorem Kp.new {p q : Addr} {H : Hp} {o : HO} (h : H q = none) : Kp p H (upd H q o) := fun b u n e => by
  rw [upd_ne (ne_of_none e h)]
  exact e
theorem But.trans {p : Addr} {H H1 H2 : Hp} (a : But p H H1) (b : But p H1 H2) : But p H H2 := fun c n => (b c n).trans (a c n)
theorem But.upd {p : Addr} {H : Hp} {o : HO} : But p H (upd H p o) := fun b n => upd_ne n
/-! the pen -/
def penD (l : Addr) (a : Nat) (d : Int) (c : Nat) (f : Int) : List (Key × V) :=
  [(.inr "cells", .ref l), (.inr "at", .int (a : Int)), (.inr "digits", .int d), (.inr "count", .int (c : Int)), (.inr "fold", .int f)]
theorem gCells {H : Hp} {p l : Addr} {a : Nat} {d : Int} {c : Nat} {f : Int} (h : H p = some (.dK (penD l a d c f))) : DGet H p (.str "cells") (some (.ref l)) :=
  (show valV (penD l a d c f) (.inr "cells") = some (.ref l) by kernel_rfl) ▸ DGet.k (k := Sum.inr "cells") h
theorem gAt {H : Hp} {p l : Addr} {a : Nat} {d : Int} {c : Nat} {f : Int} (h : H p = some (.dK (penD l a d c f))) : DGet H p (.str "at") (some (.int (a : Int))) :=
  (show valV (penD l a d c f) (.inr "at") = some (.int (a : Int)) by kernel_rfl) ▸ DGet.k (k := Sum.inr "at") h
theorem gDigits {H : Hp} {p l : Addr} {a : Nat} {d : Int} {c : Nat} {f : Int} (h : H p = some (.dK (penD l a d c f))) : DGet H p (.str "digits") (some (.int d)) :=
  (show valV (penD l a d c f) (.inr "digits") = some (.int d) by kernel_rfl) ▸ DGet.k (k := Sum.inr "digits") h
theorem gCount {H : Hp} {p l : Addr} {a : Nat} {d : Int} {c : Nat} {f : Int} (h : H p = some (.dK (penD l a d c f))) : DGet H p (.str "count") (some (.int (c : Int))) :=
  (show valV (penD l a d c f) (.inr "count") = some (.int (c : Int)) by kernel_rfl) ▸ DGet.k (k := Sum.inr "count") h
theorem gFold {H : Hp} {p l : Addr} {a : Nat} {d : Int} {c : Nat} {f : Int} (h : H p = some (.dK (penD l a d c f))) : DGet H p (.str "fold") (some (.int f)) :=
  (show valV (penD l a d c f) (.inr "fold") = some (.int f) by kernel_rfl) ▸ DGet.k (k := Sum.inr "fold") h
theorem small5 : (5 : Nat) < sizeLine := by rw [sizeLine_eq]; decide
theorem pAt {H : Hp} {p l : Addr} {a : Nat} {d : Int} {c : Nat} {f : Int} (h : H p = some (.dK (penD l a d c f))) : DPut H p (.str "at") (.int ((a : Int) + 1)) (upd H p (.dK (penD l (a + 1) d c f))) :=
  (show putK (penD l a d c f) (.inr "at") (.int ((a : Int) + 1)) = penD l (a + 1) d c f by kernel_rfl) ▸ DPut.k (k := Sum.inr "at") h small5
theorem pCount {H : Hp} {p l : Addr} {a : Nat} {d : Int} {c : Nat} {f : Int} (h : H p = some (.dK (penD l a d c f))) : DPut H p (.str "count") (.int ((c : Int) + 1)) (upd H p (.dK (penD l a d (c + 1) f))) :=
  (show putK (penD l a d c f) (.inr "count") (.int ((c : Int) + 1)) = penD l a d (c + 1) f by kernel_rfl) ▸ DPut.k (k := Sum.inr "count") h small5
theorem pDigits {H : Hp} {p l : Addr} {a : Nat} {d e : Int} {c : Nat} {f : Int} (h : H p = some (.dK (penD l a d c f))) : DPut H p (.str "digits") (.int e) (upd H p (.dK (penD l a e c f))) :=
  (show putK (penD l a d c f) (.inr "digits") (.int e) = penD l a e c f by kernel_rfl) ▸ DPut.k (k := Sum.inr "digits") h small5
theorem pFold {H : Hp} {p l : Addr} {a : Nat} {d : Int} {c : Nat} {f g : Int} (h : H p = some (.dK (penD l a d c f))) : DPut H p (.str "fold") (.int g) (upd H p (.dK (penD l a d c g))) :=
  (show putK (penD l a d c f) (.inr "fold") (.int g) = penD l a d c g by kernel_rfl) ▸ DPut.k (k := Sum.inr "fold") h small5
/-- a pen stands at p, its cells at l, c draws made -/
structure Pen (H : Hp) (p l : Addr) (c : Nat) : Prop where
  ex : ∃ (ns : List Int) (a : Nat) (d f : Int), H p = some (.dK (penD l a d c f)) ∧ H l = some (.lst (ns.map V.int)) ∧ ns.length ≤ 63 ∧ a ≤ ns.length ∧ 0 ≤ d ∧ 0 ≤ f ∧ f < 2147483587
theorem Pen.same {H H' : Hp} {p l : Addr} {c : Nat} (h : Pen H p l c) (s : Same H H') : Pen H' p l c := by
  obtain ⟨ns, a, d, f, h1, h2, h3⟩ := h.ex
  exact ⟨ns, a, d, f, s _ _ h1, s _ _ h2, h3⟩
/-- a list or a tuple that is read -/
def SqX (K : PySem.W.Frag) (H : Hp) (q : Addr) (xs : List V) : Prop := SqL K H q xs ∨ SqT K H q xs
theorem SqX.but {K : PySem.W.Frag} {H H' : Hp} {p q : Addr} {xs : List V} {kvs : List (Key × V)} (hp : H p = some (.dK kvs)) (b : But p H H') (h : SqX K H q xs) : SqX K H' q xs := by
  have ne : ∀ o, H q = some o → o ≠ .dK kvs → q ≠ p := fun o e n z => by
    rw [z, hp] at e
    exact n (Option.some.inj e).symm
  rcases h with (h | h) | (h | h)
  · refine .inl (.inl ?_)
    rcases h with h | ⟨o, h⟩
    · exact .inl ((b _ (ne _ h (fun z => by cases z))).trans h)
    · exact .inr ⟨o, (b _ (ne _ h (fun z => by cases z))).trans h⟩
  · exact .inl (.inr h)
  · refine .inr (.inl ?_)
    rcases h with h | ⟨o, h⟩
    · exact .inl ((b _ (ne _ h (fun z => by cases z))).trans h)
    · exact .inr ⟨o, (b _ (ne _ h (fun z => by cases z))).trans h⟩
  · exact .inr (.inr h)
/-! promises -/
def spPen (K : PySem.W.Frag) : Sp := fun vs H Q _ => ∃ (a : Addr) (ns : List Int), vs = [.ref a] ∧ SqL K H a (ns.map V.int) ∧ ns.length ≤ 63 ∧
  ∀ (p l : Addr) (H' : Hp), H p = none → H l = none → Same H H' → Pen H' p l 0 → Q (.ref p) H'
def spDraw : Sp := fun vs H Q _ => ∃ (p l : Addr) (c : Nat) (m : Int), vs = [.ref p, .int m] ∧ Pen H p l c ∧ c < 2 ^ 40 ∧ 0 < m ∧ m < 1073741824 ∧
  ∀ (d : Int) (H' : Hp), 0 ≤ d → d < m → Pen H' p l (c + 1) → But p H H' → Q (.int d) H'
def spPick (K : PySem.W.Frag) : Sp := fun vs H Q _ => ∃ (p l q : Addr) (c : Nat) (xs : List V), vs = [.ref p, .ref q] ∧ Pen H p l c ∧ c < 2 ^ 40 ∧ SqX K H q xs ∧ 0 < xs.length ∧ xs.length < 1000 ∧
  ∀ (v : V) (H' : Hp), v ∈ xs → Pen H' p l (c + 1) → But p H H' → Q v H'
section
variable {P : Program} {w : World} {K : PySem.W.Frag} {mg : Str → Option Value} {base : Heap}
theorem ok_pen {f : Addr} {fd : FuncData} (F : Fun K "_law_pen" "_law_pen" s_l_pen f fd) (bi : mg "int" = none) (bl : mg "list" = none) : FnOk P w K mg base CX0 1 f fd ["_law_script"] (spPen K) := by
  refine F.ok sc_l_pen (fun vs H Q E h => ?_) (fun cdv A outer s H vs Q E hr h => ?_)
  · obtain ⟨a, ns, rfl, _⟩ := h
    rfl
  · obtain ⟨a, ns, rfl, hS, hl, k⟩ := h
    refine ⟨_, (pss_cons (ps_set (i := 1) sc_l_pen.nd rfl (Or.inl rfl) pe_int)
      (pss_cons (ps_for PassesOwn.never rfl (pi_list (pv 0)) (pg_name (i := 2) sc_l_pen.nd rfl (Or.inl rfl))
        (pss_one (ps_set (i := 1) sc_l_pen.nd rfl (Or.inl rfl) (pe_op op_mod (pe_callTy call_int1 (by rfl) bi (by decide +kernel) (pa_cons (pe_op op_add (pe_op op_mul (pv 1) pe_int) (pv 2)) pa_nil)) pe_int))))
      (pss_one (ps_ret (pe_disp (pps_cons pe_str (pe_callTy call_list_of (by rfl) bl (by decide +kernel) (pa_cons (pv 0) pa_nil)) (pps_cons pe_str pe_int (pps_cons pe_str pe_int (pps_cons pe_str pe_int (pps_cons pe_str (pv 1) pps_nil))))) (by rfl) (by rfl) (fun z => by cases z) (by decide)))))), ?_⟩
    refine ⟨.ref a, rfl, a, rfl, ⟨_, hS⟩, for_list (K := K) (a := a) (xs := ns.map V.int) (fun i σ H2 => ∃ (n : Int) (v : Option V), σ = [some (.ref a), some (.int n), v] ∧ H2 = H ∧ 0 ≤ n ∧ n < 1000000007)
      ⟨0, none, rfl, rfl, by decide, by decide⟩ (fun i σ H2 _ ⟨_, _, _, e, _⟩ => e ▸ hS) ?_ ?_⟩
    · rintro i y σ H2 hi ⟨n, v, rfl, rfl, h0, h1⟩
      obtain ⟨z, rfl⟩ : ∃ z, y = V.int z := by
        rw [List.getElem?_map] at hi
        cases e : ns[i]? with
        | none => rw [e] at hi; cases hi
        | some z => rw [e] at hi; exact ⟨z, (Option.some.inj hi).symm⟩
      refine ⟨_, rfl, _, _, rfl, rfl, .inl ⟨by omega, by omega⟩, _, rfl, _, _, rfl, rfl, .inl ⟨_, rfl, ?_⟩⟩
      refine ⟨_, _, rfl, rfl, (by show (0 : Int) < 1000000007; decide), ?_⟩
      exact ⟨_, _, rfl, rfl, Int.emod_nonneg _ (by decide), Int.emod_lt_of_pos _ (by decide)⟩
    · rintro σ H2 ⟨n, v, rfl, rfl, h0, h1⟩
      intro p hp
      refine ⟨.ref a, rfl, a, _, rfl, .inl ((same_new hp).seq hS), fun l hn => ?_⟩
      have nlp : l ≠ p := fun z => by rw [z, upd_same] at hn; cases hn
      have hl0 : H2 l = none := by rw [upd_ne nlp] at hn; exact hn
      refine ⟨_, rfl, (by rw [upd_ne nlp.symm]; exact upd_same), penD l 0 0 0 n, rfl, (by show 5 ≤ 15; decide), ?_⟩
      have e : mergeK [] (penD l 0 0 0 n) = penD l 0 0 0 n := by kernel_rfl
      rw [e]
      refine k p l _ hp hl0 (fun b o z => ?_) ⟨ns, 0, 0, n, upd_same, ?_, hl, Nat.zero_le _, by decide, h0, by omega⟩
      · rw [upd_ne (ne_of_none z hp), upd_ne (ne_of_none z hl0), upd_ne (ne_of_none z hp)]
        exact z
      · rw [upd_ne nlp, upd_same]
theorem ok_draw {f : Addr} {fd : FuncData} (F : Fun K "_law_draw" "_law_draw" s_l_draw f fd) (bi : mg "int" = none) (bn : mg "len" = none) : FnOk P w K mg base CX0 1 f fd ["_law_pen_here", "_law_many"] spDraw := by
  refine F.ok sc_l_draw (fun vs H Q E h => ?_) (fun cdv A outer s H vs Q E hr h => ?_)
  · obtain ⟨p, l, c, m, rfl, _⟩ := h
    rfl
  · obtain ⟨p, l, c, m, rfl, hP, hc, hm, hm2, k⟩ := h
    have hu := hu_of hr
    refine ⟨_, (pss_cons (ps_dput hu (pv 0) pe_str (pe_op op_add (pe_dget hu (pv 0) pe_str (fun _ _ => rfl)) pe_int) rfl)
      (C8.pss_cut (ps_if (PW.pt (pw_and (pt_cmpR op_eq (pe_dget hu (pv 0) pe_str (fun _ _ => rfl)) pe_int (nomark _)) (pw_and1 (pt_cmpR op_lt (pe_dget hu (pv 0) pe_str (fun _ _ => rfl)) (pe_callB call_len (by rfl) bn (by decide +kernel) (pa_cons (pe_dget hu (pv 0) pe_str (fun _ _ => rfl)) pa_nil)) (nomark _)))))
        (pss_cons (ps_set (i := 2) sc_l_draw.nd rfl (Or.inl rfl) (pe_ix ix_list (pe_dget hu (pv 0) pe_str (fun _ _ => rfl)) (pe_dget hu (pv 0) pe_str (fun _ _ => rfl)) (fun _ _ => rfl)))
          (pss_cons (ps_dput hu (pv 0) pe_str (pe_op op_add (pe_dget hu (pv 0) pe_str (fun _ _ => rfl)) pe_int) rfl)
          (pss_one (ps_if (pt_cmpR op_ge (pv 2) (pe_op op_pow pe_int pe_int) (nomark _))
            (pss_one (ps_dput hu (pv 0) pe_str (pe_op op_sub (pv 2) (pe_op op_pow pe_int pe_int)) rfl))
            (pss_one (ps_dput hu (pv 0) pe_str (pe_op op_mod (pe_callTy call_int1 (by rfl) bi (by decide +kernel) (pa_cons (pe_op op_add (pe_op op_mul (pe_dget hu (pv 0) pe_str (fun _ _ => rfl)) pe_int) (pv 2)) pa_nil)) pe_int) rfl))))))
        pss_nil)
      (pss_cons (ps_if (pt_cmpR op_gt (pe_dget hu (pv 0) pe_str (fun _ _ => rfl)) pe_int (nomark _))
        (pss_cons (ps_set (i := 3) sc_l_draw.nd rfl (Or.inl rfl) (pe_op op_mod (pe_callTy call_int1 (by rfl) bi (by decide +kernel) (pa_cons (pe_dget hu (pv 0) pe_str (fun _ _ => rfl)) pa_nil)) (pv 1)))
          (pss_cons (ps_dput hu (pv 0) pe_str (pe_op op_fdiv (pe_dget hu (pv 0) pe_str (fun _ _ => rfl)) (pv 1)) rfl)
          (pss_one (ps_ret (pv 3)))))
        pss_nil)
      (pss_cons (ps_set (i := 4) sc_l_draw.nd rfl (Or.inl rfl) (pe_op op_add (pe_op op_add (pe_dget hu (pv 0) pe_str (fun _ _ => rfl)) (pe_op op_mul (pe_dget hu (pv 0) pe_str (fun _ _ => rfl)) pe_int)) pe_int))
      (pss_one (ps_ret (pe_op op_mod (pe_op op_fdiv (pe_callTy call_int1 (by rfl) bi (by decide +kernel) (pa_cons (pe_op op_mod (pe_op op_pow (pv 4) pe_int) pe_int) pa_nil)) pe_int) (pv 1)))))))), ?_⟩
    obtain ⟨ns, a, d, f, h1, h2, hl, ha, hd, hf, hf2⟩ := hP.ex
    have npl : l ≠ p := ne_of h2 h1 (by intro z; cases z)
    have st : ∀ o, (upd H p o) l = some (.lst (ns.map V.int)) := fun o => by rw [upd_ne npl]; exact h2
    -- count
    refine ⟨_, rfl, p, _, rfl, gCount h1, _, _, rfl, rfl, _, rfl, p, _, rfl, pCount h1, ?_⟩
    refine ⟨fun σ' H2 => ∃ (v2 : Option V) (a2 : Nat) (d2 f2 : Int), σ' = [some (.ref p), some (.int m), v2, none, none] ∧ a2 ≤ ns.length ∧ 0 ≤ d2 ∧ 0 ≤ f2 ∧ f2 < 2147483587 ∧ H2 p = some (.dK (penD l a2 d2 (c + 1) f2)) ∧ But p H H2, ?_, ?_⟩
    · -- a cell is taken, or not
      refine ⟨_, rfl, p, _, rfl, gDigits upd_same, rfl, _, rfl, ?_⟩
      refine ite2 (fun _ => ?_) (fun _ => ?_)
      · refine ⟨_, rfl, p, _, rfl, gAt upd_same, _, rfl, p, _, rfl, gCells upd_same, _, _, rfl, .inl ⟨_, .inl (.inl (st _)), rfl⟩, _, _, rfl, rfl, _, rfl, ?_⟩
        refine ite2 (fun hlt => ?_) (fun _ => ?_)
        · have hlt : (a : Int) < ((ns.map V.int).length : Int) := of_decide_eq_true hlt
          rw [List.length_map] at hlt
          have hlt' : a < ns.length := by omega
          have ga : (ns.map V.int)[a]? = some (.int ns[a]) := by rw [List.getElem?_map, List.getElem?_eq_getElem hlt']; rfl
          refine ⟨_, rfl, p, _, rfl, gCells upd_same, _, rfl, p, _, rfl, gAt upd_same, l, _, _, _, rfl, rfl, .inl (.inl (st _)), atI_nat ga, ?_⟩
          refine ⟨_, rfl, p, _, rfl, gAt upd_same, _, _, rfl, rfl, _, rfl, p, _, rfl, pAt upd_same, ?_⟩
          refine ⟨_, rfl, _, _, rfl, rfl, ⟨by decide, by decide, by decide⟩, _, _, rfl, rfl, _, rfl, ?_⟩
          refine ite2 (fun hge => ?_) (fun hge => ?_)
          · refine ⟨_, rfl, _, _, rfl, rfl, ⟨by decide, by decide, by decide⟩, _, _, rfl, rfl, _, rfl, p, _, rfl, pDigits upd_same, ?_⟩
            have hge' := of_decide_eq_true hge
            exact ⟨_, a + 1, _, f, rfl, hlt', by omega, hf, hf2, upd_same, fun b hb => by rw [upd_ne hb, upd_ne hb, upd_ne hb]⟩
          · refine ⟨_, rfl, p, _, rfl, gFold upd_same, _, _, rfl, rfl, .inl ⟨by omega, by omega⟩, _, rfl, _, _, rfl, rfl, .inl ⟨_, rfl, ?_⟩⟩
            refine ⟨_, _, rfl, rfl, (by show (0 : Int) < 2147483587; decide), _, rfl, p, _, rfl, pFold upd_same, ?_⟩
            exact ⟨_, a + 1, d, _, rfl, hlt', hd, Int.emod_nonneg _ (by decide), Int.emod_lt_of_pos _ (by decide), upd_same, fun b hb => by rw [upd_ne hb, upd_ne hb, upd_ne hb]⟩
        · exact ⟨none, a, d, f, rfl, ha, hd, hf, hf2, upd_same, fun b hb => by rw [upd_ne hb]⟩
      · exact iteF ⟨none, a, d, f, rfl, ha, hd, hf, hf2, upd_same, fun b hb => by rw [upd_ne hb]⟩
    · rintro σ' H2 ⟨v2, a2, d2, f2, rfl, ha2, hd2, hf0, hf1, hH2, hb2⟩
      have hl2 : H2 l = some (.lst (ns.map V.int)) := (hb2 l npl).trans h2
      refine ⟨_, rfl, p, _, rfl, gDigits hH2, _, _, rfl, rfl, _, rfl, ?_⟩
      refine ite2 (fun hg => ?_) (fun hg => ?_)
      · have hg' : (0 : Int) < d2 := of_decide_eq_true hg
        refine ⟨_, rfl, p, _, rfl, gDigits hH2, .inl ⟨_, rfl, ?_⟩⟩
        refine ⟨_, rfl, _, _, rfl, rfl, hm, ?_⟩
        refine ⟨_, rfl, p, _, rfl, gDigits hH2, _, rfl, _, _, rfl, rfl, ⟨hm, hm2⟩, _, rfl, p, _, rfl, pDigits hH2, ?_⟩
        refine ⟨_, rfl, ?_⟩
        refine k _ _ (Int.emod_nonneg _ (by omega)) (Int.emod_lt_of_pos _ hm) ⟨ns, a2, _, f2, upd_same, ?_, hl, ha2, Int.ediv_nonneg hd2 (by omega), hf0, hf1⟩ (hb2.trans But.upd)
        rw [upd_ne npl]
        exact hl2
      · refine ⟨_, rfl, p, _, rfl, gFold hH2, _, rfl, p, _, rfl, gCount hH2, _, _, rfl, rfl, .inl ⟨by omega, by omega⟩, _, _, rfl, rfl, _, _, rfl, rfl, ?_⟩
        refine ⟨_, rfl, _, _, rfl, rfl, ⟨by decide, by decide, by omega⟩, _, _, rfl, rfl, (by show (0 : Int) < 2305843009213693951; decide), .inl ⟨_, rfl, ?_⟩⟩
        refine ⟨_, _, rfl, rfl, ⟨by decide, by decide⟩, _, rfl, _, _, rfl, rfl, hm, ?_⟩
        exact k _ _ (Int.emod_nonneg _ (by omega)) (Int.emod_lt_of_pos _ hm) ⟨ns, a2, d2, f2, hH2, hl2, hl, ha2, hd2, hf0, hf1⟩ hb2
theorem ok_pick {f fD : Addr} {fd fdD : FuncData} (F : Fun K "_law_pick" "_law_pick" s_l_pick f fd) (bn : mg "len" = none)
    (G : FnOk P w K mg base CX0 1 fD fdD ["_law_pen_here", "_law_many"] spDraw) (g : mg "_law_draw" = some (.ref fD)) (kp : PySem.W.keepIn K (.ref fD) = true) (b : Binds K fdD ["_law_pen_here", "_law_many"] []) :
    FnOk P w K mg base CX0 2 f fd ["_law_pen_here", "_law_some"] (spPick K) := by
  refine F.ok sc_l_pick (fun vs H Q E h => ?_) (fun cdv A outer s H vs Q E hr h => ?_)
  · obtain ⟨p, l, q, c, xs, rfl, _⟩ := h
    rfl
  · obtain ⟨p, l, q, c, xs, rfl, hP, hc, hX, hx0, hx1, k⟩ := h
    refine ⟨_, (pss_one (ps_ret (pe_ix ix_seq (pv 1) (pe_call G hr (by rfl) g kp b .nil pass0 (pa_cons (pv 0) (pa_cons (pe_callB call_len (by rfl) bn (by decide +kernel) (pa_cons (pv 1) pa_nil)) pa_nil))) (fun _ _ => rfl)))), ?_⟩
    obtain ⟨ns, a, d, f, h1, _⟩ := hP.ex
    refine ⟨_, rfl, _, rfl, _, rfl, .ref q, xs.length, rfl, ?_, ?_⟩
    · rcases hX with hX | hX
      · exact .inl ⟨_, hX, rfl⟩
      · exact .inr ⟨_, hX, rfl⟩
    refine ⟨p, l, c, _, rfl, hP, hc, by omega, by omega, fun i H' hi0 hi1 hP' hb => ?_⟩
    have hX' := hX.but h1 hb
    have hi : i.toNat < xs.length := by omega
    have ea : atI xs i = some xs[i.toNat] := by
      have e := atI_nat (xs := xs) (j := i.toNat) (List.getElem?_eq_getElem hi)
      rw [Int.toNat_of_nonneg hi0] at e
      exact e
    rcases hX' with hX' | hX'
    · exact .inl ⟨q, _, _, _, rfl, rfl, hX', ea, k _ _ (List.getElem_mem hi) hP' hb⟩
    · exact .inr (.inl ⟨q, _, _, _, rfl, rfl, hX', ea, k _ _ (List.getElem_mem hi) hP' hb⟩)
end
/-! the heap without the pen -/
theorem But.mask {p : Addr} {H H' : Hp} (h : But p H H') : mask p H' = Z.mask p H := by
  funext b
  unfold Z.mask
  split
  · rfl
  · exact h b (by assumption)
theorem Gr.mask {T : List Addr} {p : Addr} {H H' : Hp} (g : Gr T H H') : Gr T (Z.mask p H) (Z.mask p H') := by
  refine ⟨g.ext.mask, fun P h => ?_, fun b h => ?_, fun P n ps e => ?_⟩
  · obtain ⟨ps, e, t⟩ := h
    have n : P ≠ p := fun z => by
      rw [z] at e
      unfold Z.mask at e
      rw [if_pos rfl] at e
      cases e
    rw [mask_ne n] at e
    obtain ⟨qs, e2, t2⟩ := g.tab P ⟨ps, e, t⟩
    exact ⟨qs, by rw [mask_ne n]; exact e2, t2⟩
  · unfold Z.mask at h ⊢
    split
    · rfl
    · rw [if_neg (by assumption)] at h
      exact g.stay b h
  · have ne : P ≠ p := fun z => by
      rw [z] at e
      unfold Z.mask at e
      rw [if_pos rfl] at e
      cases e
    rw [mask_ne ne] at e ⊢
    exact g.keep P n ps e
/-- the pen stands, with at most n draws made; tables stand -/
structure PT (T : List Addr) (H : Hp) (p l : Addr) (n : Nat) : Prop where
  pen : ∃ c, c ≤ n ∧ Pen H p l c
  tab : Tabs T H
theorem PT.gr {T : List Addr} {H H' : Hp} {p l : Addr} {n : Nat} (h : PT T H p l n) (g : Gr T H H') : PT T H' p l n := by
  obtain ⟨c, hc, h1⟩ := h.pen
  obtain ⟨ns, a, d, f, e1, e2, e3⟩ := h1.ex
  exact ⟨⟨c, hc, ⟨ns, a, d, f, g.ext _ _ e1 (fun _ z => by cases z), g.ext _ _ e2 (fun _ z => by cases z), e3⟩⟩, g.tabs h.tab⟩
theorem PT.mono {T : List Addr} {H : Hp} {p l : Addr} {n m : Nat} (h : PT T H p l n) (le : n ≤ m) : PT T H p l m := by
  obtain ⟨c, hc, h1⟩ := h.pen
  exact ⟨⟨c, Nat.le_trans hc le, h1⟩, h.tab⟩
theorem PT.but {T : List Addr} {H H' : Hp} {p l : Addr} {n c : Nat} (h : PT T H p l n) (b : But p H H') (k : Pen H' p l c) (hc : c ≤ n + 1) : PT T H' p l (n + 1) := by
  obtain ⟨c0, _, h1⟩ := h.pen
  obtain ⟨ns, a, d, f, e1, _⟩ := h1.ex
  refine ⟨⟨c, hc, k⟩, fun P hP => ?_⟩
  obtain ⟨ps, e, t⟩ := h.tab P hP
  have n : P ≠ p := fun z => by
    rw [z, e1] at e
    cases e
  exact ⟨ps, (b P n).trans e, t⟩
theorem PT.ne {T : List Addr} {H : Hp} {p l : Addr} {n : Nat} (h : PT T H p l n) {q : Addr} {o : HO} (e : H q = some o) (no : ∀ kvs, o ≠ .dK kvs) : q ≠ p := fun z => by
  obtain ⟨c0, _, h1⟩ := h.pen
  obtain ⟨ns, a, d, f, e1, _⟩ := h1.ex
  rw [z, e1] at e
  exact no _ (Option.some.inj e).symm
theorem PT.fresh {T : List Addr} {H : Hp} {p l : Addr} {n : Nat} (h : PT T H p l n) {q : Addr} (e : H q = none) : q ≠ p := fun z => by
  obtain ⟨c0, _, h1⟩ := h.pen
  obtain ⟨ns, a, d, f, e1, _⟩ := h1.ex
  rw [z, e1] at e
  cases e
/-- what stands beside the pen -/
theorem un_mask {p : Addr} {H : Hp} {q : Addr} {o : HO} (e : Z.mask p H q = some o) : H q = some o := by
  unfold Z.mask at e
  split at e
  · cases e
  · exact e
/-- draws, with the pen's count hidden -/
def spDr (T : List Addr) : Sp := fun vs H Q _ => ∃ (p l : Addr) (n : Nat) (m : Int), vs = [.ref p, .int m] ∧ PT T H p l n ∧ n < 2 ^ 40 ∧ 0 < m ∧ m < 1073741824 ∧
  ∀ (d : Int) (H' : Hp), 0 ≤ d → d < m → PT T H' p l (n + 1) → Z.mask p H' = Z.mask p H → Q (.int d) H'
def spPk (T : List Addr) (K : PySem.W.Frag) : Sp := fun vs H Q _ => ∃ (p l q : Addr) (n : Nat) (xs : List V), vs = [.ref p, .ref q] ∧ PT T H p l n ∧ n < 2 ^ 40 ∧ SqX K H q xs ∧ 0 < xs.length ∧ xs.length < 1000 ∧
  ∀ (v : V) (H' : Hp), v ∈ xs → PT T H' p l (n + 1) → Z.mask p H' = Z.mask p H → Q v H'
theorem dr_of {T : List Addr} {vs : List V} {H : Hp} {Q : VK} {E : XK} (h : spDr T vs H Q E) : spDraw vs H Q E := by
  obtain ⟨p, l, n, m, rfl, hP, hn, h1, h2, k⟩ := h
  obtain ⟨c, hc, hp⟩ := hP.pen
  exact ⟨p, l, c, m, rfl, hp, by omega, h1, h2, fun d H' d0 d1 hp' b => k d H' d0 d1 (hP.but b hp' (by omega)) b.mask⟩
theorem pk_of {T : List Addr} {K : PySem.W.Frag} {vs : List V} {H : Hp} {Q : VK} {E : XK} (h : spPk T K vs H Q E) : spPick K vs H Q E := by
  obtain ⟨p, l, q, n, xs, rfl, hP, hn, hX, h1, h2, k⟩ := h
  obtain ⟨c, hc, hp⟩ := hP.pen
  exact ⟨p, l, q, c, xs, rfl, hp, by omega, hX, h1, h2, fun v H' hv hp' b => k v H' hv (hP.but b hp' (by omega)) b.mask⟩
end Z
set_option Elab.async false
set_option linter.all false
set_option maxRecDepth 100000
set_option maxHeartbeats 2000000
namespace Z
open PySem L2 PyProof.Rows ZX GX
/-! data: rows of whole numbers, rows of rows -/
def dI (r : List Int) : List PyData := r.map PyData.int
theorem lay_dI : ∀ r : List Int, PyData.canLayAll0 (dI r) = true ∧ PyData.depthAll (dI r) ≤ 1
  | [] => by simp [dI, PyData.canLayAll0, PyData.depthAll]
  | z :: r => by
    have h := lay_dI r
    unfold dI at h ⊢
    simp only [List.map_cons, PyData.canLayAll0, PyData.canLay0, PyData.depthAll, PyData.depth, Bool.true_and]
    exact ⟨h.1, by omega⟩
def shapedAll (ds : List PyData) : Prop := PyData.canLayAll0 ds = true ∧ PyData.depthAll ds ≤ 32
theorem sh_list {ds : List PyData} (h : shapedAll ds) : SeqAt.shaped (.list ds) = true := by
  refine Bool.and_eq_true_iff.mpr ⟨by simp only [PyData.canLay0]; exact h.1, decide_eq_true ?_⟩
  have := h.2
  simp only [PyData.depth]
  omega
theorem sh_tup {ds : List PyData} (h : shapedAll ds) : SeqAt.shaped (.tuple ds) = true := by
  refine Bool.and_eq_true_iff.mpr ⟨by simp only [PyData.canLay0]; exact h.1, decide_eq_true ?_⟩
  have := h.2
  simp only [PyData.depth]
  omega
theorem sh_dI (r : List Int) : shapedAll (dI r) := ⟨(lay_dI r).1, by have := (lay_dI r).2; omega⟩
theorem lay_rows (f : List Int → PyData) (hf : ∀ r, (f r).canLay0 = true ∧ (f r).depth ≤ 30) : ∀ R : List (List Int), PyData.canLayAll0 (R.map f) = true ∧ PyData.depthAll (R.map f) ≤ 30
  | [] => by simp [PyData.canLayAll0, PyData.depthAll]
  | r :: R => by
    have h := lay_rows f hf R
    have h2 := hf r
    simp only [List.map_cons, PyData.canLayAll0, PyData.depthAll, h.1, h2.1, Bool.and_self, true_and]
    omega
theorem sh_lists (R : List (List Int)) : shapedAll (R.map fun r => PyData.list (dI r)) := by
  have h := lay_rows (fun r => PyData.list (dI r)) (fun r => by
    have h := lay_dI r
    simp only [PyData.canLay0, PyData.depth, h.1, true_and]
    omega) R
  exact ⟨h.1, by omega⟩
theorem sh_tups (R : List (List Int)) : shapedAll (R.map fun r => PyData.tuple (dI r)) := by
  have h := lay_rows (fun r => PyData.tuple (dI r)) (fun r => by
    have h := lay_dI r
    simp only [PyData.canLay0, PyData.depth, h.1, true_and]
    omega) R
  exact ⟨h.1, by omega⟩
theorem sh_nil : shapedAll [] := sh_dI []
theorem eqv_list {ds : List PyData} (h : shapedAll ds) : PyData.eqv (.list ds) (.list ds) = true := SeqAt.eqv_refl _ (SeqAt.canLay_of_shaped (sh_list h))
theorem eqv_tup {ds : List PyData} (h : shapedAll ds) : PyData.eqv (.tuple ds) (.tuple ds) = true := SeqAt.eqv_refl _ (SeqAt.canLay_of_shaped (sh_tup h))
theorem eqv_nil {d : PyData} {ds : List PyData} : PyData.eqv (.list (d :: ds)) (.list []) = false := by simp [PyData.eqv, PyData.eqvAll]
section
variable {K : PySem.W.Frag} {H : Hp}
theorem dp_ints : ∀ r : List Int, DpAll K H (r.map V.int) (dI r)
  | [] => .nil
  | z :: r => .cons (.int z) (dp_ints r)
theorem dp_rowL {v : V} {r : List Int} (h : RowL H v r) : Dp K H v (.list (dI r)) := by
  obtain ⟨a, rfl, e⟩ := h
  exact .lst (SqL.of e) (dp_ints r)
theorem dp_rowT {v : V} {r : List Int} (h : RowT H v r) : Dp K H v (.tuple (dI r)) := by
  obtain ⟨a, rfl, e⟩ := h
  exact .tup e.sq (dp_ints r)
theorem dp_all {f : List Int → PyData} {P : V → List Int → Prop} (hf : ∀ v r, P v r → Dp K H v (f r)) {vs : List V} {R : List (List Int)} (h : All2 P vs R) : DpAll K H vs (R.map f) := by
  induction h with
  | nil => exact .nil
  | cons h _ ih => exact .cons (hf _ _ h) ih
theorem dp_matL {v : V} {R : List (List Int)} (h : MatL H v R) : Dp K H v (.list (R.map fun r => .list (dI r))) := by
  obtain ⟨a, vs, rfl, e, hA⟩ := h
  exact .lst (SqL.of e) (dp_all (f := fun r => PyData.list (dI r)) (fun _ _ => dp_rowL) hA)
theorem dp_matT {v : V} {R : List (List Int)} (h : MatT H v R) : Dp K H v (.tuple (R.map fun r => .tuple (dI r))) := by
  obtain ⟨a, vs, rfl, e, hA⟩ := h
  exact .tup (SqT.of e) (dp_all (f := fun r => PyData.tuple (dI r)) (fun _ _ => dp_rowT) hA)
theorem dp_nil {a : Addr} (h : H a = some (.lst [])) : Dp K H (.ref a) (.list []) := .lst (SqL.of h) .nil
end
/-! list comprehensions that leave some out -/
theorem fm_take {β : Type} {F : List (Option β)} {i : Nat} {o : Option β} (h : F[i]? = some o) : (F.take (i + 1)).filterMap id = (F.take i).filterMap id ++ o.toList := by
  rw [take_snoc h, List.filterMap_append]
  cases o <;> rfl
theorem lc_filt {J : It} {n : Nat} {G : Hp → Prop} {Y : Nat → Hp → V → Hp → Prop} {T : List Addr} {g : TG} {tt : TT} {te : TE} {vs : List Nat} {σ : L2.St} {H1 : Hp} {D : Addr} {β : Type} {Qd : Hp → Prop} (F : List (Option β)) (P : Hp → V → β → Prop) (w : Walk J n G Y) (hn : n = F.length) (hz : n < sizeLine) (hD : H1 D = none) (hG : G H1) (st : ∀ H H', Ext H H' → G H → G H')
    (hP : ∀ H H' v b, Ext H H' → P H v b → P H' v b)
    (step : ∀ (i : Nat) (x : V) (o : Option β) (H H' : Hp) (Qc : VK) (Nx : Hp → Prop), i < n → Y i H x H' → F[i]? = some o → Gr T H1 H → (∃ acc, H D = some (.lst acc)) → (∀ b, o = some b → ∀ y H4, Gr T H H4 → P (mask D H4) y b → Qc y H4) → (o = none → ∀ H4, Gr T H H4 → Nx H4) →
      g x (wipe σ vs) H' fun σ2 H2 => wipe σ2 vs = wipe σ vs ∧ tt σ2 H2 fun c H3 => if c = true then te σ2 H3 Qc else Nx H3)
    (fin : ∀ H ys, H D = some (.lst ys) → All2 (P H) ys (F.filterMap id) → Gr T H1 H → Qd H) :
    ∃ W : Nat → Nat → Hp → Prop, (∃ m, W 0 m (upd H1 D (.lst []))) ∧ ∀ i m H, W i m H →
      (J.stop i H ∧ Qd H) ∨ (J.go i H ∧ ∃ Nx : Hp → Prop, (∀ H', Nx H' → ∃ m', m' < m ∧ W (i + 1) m' H') ∧ ∀ x H', J.yld i H x H' → g x (wipe σ vs) H' fun σ2 H2 => wipe σ2 vs = wipe σ vs ∧ tt σ2 H2 fun b H3 =>
        if b = true then te σ2 H3 fun y H4 => ∃ acc, H4 D = some (.lst acc) ∧ acc.length < sizeLine ∧ Nx (upd H4 D (.lst (acc ++ [y]))) else Nx H3) := by
  subst hn
  refine lc_it w (fun i H => ∃ acc, H D = some (.lst acc) ∧ All2 (P (mask D H)) acc ((F.take i).filterMap id) ∧ Gr T H1 H) ⟨[], upd_same, .nil, (Gr.new hD)⟩ (fun i H _ ⟨acc, _, _, g⟩ => st _ _ g.ext hG) (fun i x H H' hi hp hy => ?_) (fun H ⟨acc, h1, h2, h3⟩ => ?_)
  · obtain ⟨acc, h1, h2, h3⟩ := hp
    have hF := List.getElem?_eq_getElem hi
    refine step i x F[i] H H' _ _ hi hy hF h3 ⟨acc, h1⟩ (fun b eb y H4 g4 p4 => ?_) (fun eb H4 g4 => ?_)
    · refine ⟨acc, g4.ext _ _ h1 (fun _ z => by cases z), ?_, acc ++ [y], upd_same, ?_, (h3.trans g4).upd hD⟩
      · have := h2.length
        have l2 := List.length_filterMap_le id (F.take i)
        rw [List.length_take] at l2
        omega
      · rw [mask_upd, fm_take hF, eb, Option.toList_some]
        exact (h2.mono fun _ _ => hP _ _ _ _ g4.ext.mask).snoc p4
    · refine ⟨acc, g4.ext _ _ h1 (fun _ z => by cases z), ?_, h3.trans g4⟩
      rw [fm_take hF, eb, Option.toList_none, List.append_nil]
      exact h2.mono fun _ _ => hP _ _ _ _ g4.ext.mask
  · rw [List.take_length] at h2
    exact fin H acc h1 (h2.mono fun _ _ => hP _ _ _ _ (mask_ext D H)) h3
/-- a list comprehension of drawn numbers -/
theorem lc_ints {J : It} {n : Nat} {G : Hp → Prop} {Y : Nat → Hp → V → Hp → Prop} {T : List Addr} {g : TG} {te : TE} {vs : List Nat} {σ : L2.St} {H1 : Hp} {D p l : Addr} {Qd : Hp → Prop} (n0 k : Nat) (C : Int → Prop) (w : Walk J n G Y) (hz : n < sizeLine) (hD : H1 D = none) (hG : ∀ H, G H) (h0 : PT T H1 p l n0)
    (step : ∀ (i : Nat) (x : V) (H H' : Hp) (Qc : VK) (Nx : Hp → Prop), i < n → Y i H x H' → PT T H p l (n0 + k * i) → (∀ z H4, C z → PT T H4 p l (n0 + k * (i + 1)) → Gr T (mask p H) (mask p H4) → Qc (.int z) H4) →
      g x (wipe σ vs) H' fun σ2 H2 => wipe σ2 vs = wipe σ vs ∧ tYes σ2 H2 fun c H3 => if c = true then te σ2 H3 Qc else Nx H3)
    (fin : ∀ (H : Hp) (zs : List Int), H D = some (.lst (zs.map V.int)) → zs.length = n → (∀ z ∈ zs, C z) → PT T H p l (n0 + k * n) → Gr T (mask p H1) (mask p H) → Qd H) :
    ∃ W : Nat → Nat → Hp → Prop, (∃ m, W 0 m (upd H1 D (.lst []))) ∧ ∀ i m H, W i m H →
      (J.stop i H ∧ Qd H) ∨ (J.go i H ∧ ∃ Nx : Hp → Prop, (∀ H', Nx H' → ∃ m', m' < m ∧ W (i + 1) m' H') ∧ ∀ x H', J.yld i H x H' → g x (wipe σ vs) H' fun σ2 H2 => wipe σ2 vs = wipe σ vs ∧ tYes σ2 H2 fun b H3 =>
        if b = true then te σ2 H3 fun y H4 => ∃ acc, H4 D = some (.lst acc) ∧ acc.length < sizeLine ∧ Nx (upd H4 D (.lst (acc ++ [y]))) else Nx H3) := by
  have nDp : D ≠ p := h0.fresh hD
  have up : ∀ {H : Hp} {o : HO}, mask p (upd H D o) = upd (mask p H) D o := fun {H o} => by
    funext b
    by_cases z : b = D
    · rw [z, mask_ne nDp, upd_same, upd_same]
    · rw [upd_ne z]
      unfold mask
      split
      · rfl
      · exact upd_ne z
  have mD : mask p H1 D = none := by rw [mask_ne nDp]; exact hD
  have pt : ∀ {H : Hp} {m : Nat} {xs : List V}, PT T H p l m → (H D = none ∨ ∃ ys, H D = some (.lst ys)) → (H l ≠ none → l ≠ D ) → PT T (upd H D (.lst xs)) p l m := fun {H m xs} h e ne => by
    obtain ⟨c, hc, hp⟩ := h.pen
    obtain ⟨ns, a, d, f, e1, e2, e3⟩ := hp.ex
    have n1 : p ≠ D := Ne.symm nDp
    have n2 : l ≠ D := ne (by rw [e2]; intro z; cases z)
    refine ⟨⟨c, hc, ⟨ns, a, d, f, by rw [upd_ne n1]; exact e1, by rw [upd_ne n2]; exact e2, e3⟩⟩, fun P hP => ?_⟩
    obtain ⟨ps, q, t⟩ := h.tab P hP
    refine ⟨ps, ?_, t⟩
    rw [upd_ne]
    · exact q
    · intro z
      rw [z] at q
      rcases e with e | ⟨ys, e⟩
      · rw [e] at q; cases q
      · rw [e] at q; cases q
  have nl : l ≠ D := fun z => by
    obtain ⟨c, hc, hp⟩ := h0.pen
    obtain ⟨ns, a, d, f, e1, e2, e3⟩ := hp.ex
    rw [z, hD] at e2
    cases e2
  refine lc_it w (fun i H => ∃ zs : List Int, H D = some (.lst (zs.map V.int)) ∧ zs.length = i ∧ (∀ z ∈ zs, C z) ∧ PT T H p l (n0 + k * i) ∧ Gr T (mask p H1) (mask p H)) ⟨[], upd_same, rfl, (fun z hz => by cases hz), pt (by rw [Nat.mul_zero]; exact h0) (.inl hD) (fun _ => nl), by rw [up]; exact Gr.new mD⟩ (fun i H _ _ => hG H) (fun i x H H' hi hp hy => ?_) (fun H ⟨zs, h1, h2, h3, h4, h5⟩ => fin H zs h1 h2 h3 h4 h5)
  obtain ⟨zs, h1, h2, h3, h4, h5⟩ := hp
  refine step i x H H' _ _ hi hy h4 fun z H4 cz p4 g4 => ?_
  have e4 : H4 D = some (.lst (zs.map V.int)) := by
    have := g4.ext D (.lst (zs.map V.int)) (by rw [mask_ne nDp]; exact h1) (fun _ z => by cases z)
    rwa [mask_ne nDp] at this
  refine ⟨_, e4, by rw [List.length_map]; omega, zs ++ [z], ?_, by rw [List.length_append, h2]; rfl, fun y hy => ?_, pt p4 (.inr ⟨_, e4⟩) (fun _ => nl), ?_⟩
  · rw [upd_same, List.map_append]
    rfl
  · rcases List.mem_append.mp hy with hy | hy
    · exact h3 y hy
    · rw [List.mem_singleton.mp hy]
      exact cz
  · rw [up]
    exact (h5.trans g4).upd mD
end Z
set_option Elab.async false
set_option linter.all false
set_option maxRecDepth 100000
set_option maxHeartbeats 2000000
namespace Z
open PySem L2 PyProof.Rows TL
/-! signs, names, numbers as words -/
def isLow (c : Nat) : Prop := 97 ≤ c ∧ c ≤ 122
def isDig (c : Nat) : Prop := 48 ≤ c ∧ c ≤ 57
/-- a NAME of at most m signs -/
structure NameW (m : Nat) (s : Str) : Prop where
  ex : ∃ c r, tl s = c :: r ∧ isLow c ∧ (∀ d ∈ r, isLow d ∨ isDig d) ∧ r.length + 1 ≤ m
structure NumW (w : Str) (n : Nat) : Prop where
  dig : ∀ c ∈ tl w, isDig c
  ne : tl w ≠ []
  len : (tl w).length ≤ 4
  val : PySem.NumText.digitsVal (tl w) = n
theorem NameW.mono {m n : Nat} {s : Str} (h : NameW m s) (le : m ≤ n) : NameW n s := by
  obtain ⟨c, r, e, h1, h2, h3⟩ := h.ex
  exact ⟨c, r, e, h1, h2, by omega⟩
theorem NameW.len {m : Nat} {s : Str} (h : NameW m s) : 1 ≤ s.length ∧ s.length ≤ m := by
  obtain ⟨c, r, e, h1, h2, h3⟩ := h.ex
  rw [len_tl, e, List.length_cons]
  omega
theorem NameW.sign {m : Nat} {s : Str} (h : NameW m s) : ∀ c ∈ tl s, isLow c ∨ isDig c := by
  obtain ⟨c, r, e, h1, h2, h3⟩ := h.ex
  rw [e]
  intro d hd
  rcases List.mem_cons.mp hd with z | z
  · rw [z]
    exact .inl h1
  · exact h2 d z
theorem free_sign {c : Nat} (h : isLow c ∨ isDig c) : c ≠ 10 ∧ c ≠ 32 ∧ c ≠ 58 := by
  unfold isLow isDig at h
  omega
theorem NameW.free {m : Nat} {s : Str} (h : NameW m s) {k : Nat} (hk : k = 10 ∨ k = 32 ∨ k = 58) : k ∉ tl s := fun z => by
  have := free_sign (h.sign _ z)
  omega
theorem NumW.free {w : Str} {n : Nat} (h : NumW w n) {k : Nat} (hk : k = 10 ∨ k = 32 ∨ k = 58) : k ∉ tl w := fun z => by
  have := h.dig _ z
  unfold isDig at this
  omega
theorem NumW.int {w : Str} {n : Nat} (h : NumW w n) : PySem.intText? w = some (n : Int) := by
  rw [PySem.intText_digits h.dig h.ne (by rw [len_tl]; have := h.len; omega)]
  rw [h.val]
/-- the plain text of a number -/
def numS (n : Nat) : Str := toString ((n : Nat) : Int)
theorem tl_numS (n : Nat) : tl (numS n) = numL n := tl_num n
theorem numS_len (n : Nat) : (numS n).length = (numL n).length := by rw [len_tl, tl_numS]
theorem numS_W {n : Nat} (h : n < 10000) : NumW (numS n) n := by
  refine ⟨?_, ?_, ?_, ?_⟩
  · rw [tl_numS]
    exact numL_digits n
  · rw [tl_numS]
    exact numL_ne n
  · rw [tl_numS]
    exact numL_len (by decide) (by omega)
  · rw [tl_numS]
    exact numL_val n
/-- with zeros ahead -/
def zf (z : Str) (n : Nat) : Str := if (numS n).length < 4 then cutS (z ++ numS n) (some (-4)) none else numS n
def zeros : List Str := ["", "0", "00", "000"]
def zfL (k n : Nat) : List Nat := (List.replicate k 48 ++ numL n).drop (k + (numL n).length - 4)
theorem zfL_ok : ∀ n, n < 41 → ∀ k, k < 4 → ((zfL k n).all (fun c => decide (48 ≤ c) && decide (c ≤ 57)) && decide (zfL k n ≠ []) && decide ((zfL k n).length ≤ 4) && decide (PySem.NumText.digitsVal (zfL k n) = n)) = true ∧ (numL n).length < 4 := by decide +kernel
theorem tl_zf {z : Str} {k n : Nat} (hz : tl z = List.replicate k 48) (hk : k < 4) (hn : n < 41) : tl (zf z n) = zfL k n := by
  have h := (zfL_ok n hn k hk).2
  unfold zf
  rw [if_pos (by rw [numS_len]; exact h)]
  unfold cutS zfL
  rw [tl_mk]
  have e : tl (z ++ numS n) = List.replicate k 48 ++ numL n := by rw [tl_append, hz, tl_numS]
  have l : (z ++ numS n).length = k + (numL n).length := by rw [len_tl, e, List.length_append, List.length_replicate]
  show ((tl (z ++ numS n)).drop _).take _ = _
  rw [e, l]
  have e1 : HT.sIx (k + (numL n).length) 0 (some (-4)) = k + (numL n).length - 4 := by
    unfold HT.sIx
    simp
    omega
  have e2 : HT.sIx (k + (numL n).length) (k + (numL n).length) none = k + (numL n).length := rfl
  rw [e1, e2]
  rw [List.take_of_length_le]
  rw [List.length_drop, List.length_append, List.length_replicate]
  omega
theorem zf_W {z : Str} {n : Nat} (hz : z ∈ zeros) (hn : n ≤ 40) : NumW (zf z n) n := by
  have g : ∃ k, k < 4 ∧ tl z = List.replicate k 48 := by
    unfold zeros at hz
    simp only [List.mem_cons, List.not_mem_nil, or_false] at hz
    rcases hz with rfl | rfl | rfl | rfl
    · exact ⟨0, by decide, by decide +kernel⟩
    · exact ⟨1, by decide, by decide +kernel⟩
    · exact ⟨2, by decide, by decide +kernel⟩
    · exact ⟨3, by decide, by decide +kernel⟩
  obtain ⟨k, hk, e⟩ := g
  have h := (zfL_ok n (by omega) k hk).1
  simp only [Bool.and_eq_true, decide_eq_true_eq, List.all_eq_true] at h
  obtain ⟨⟨⟨h1, h2⟩, h3⟩, h4⟩ := h
  rw [← tl_zf e hk (by omega)] at h1 h2 h3 h4
  exact ⟨h1, h2, h3, h4⟩
theorem zf_nil {n : Nat} (hn : n ≤ 40) : zf "" n = numS n := by
  refine ext_tl ?_
  rw [tl_zf (k := 0) (by decide +kernel) (by decide) (by omega), tl_numS]
  unfold zfL
  have h := (zfL_ok n (by omega) 0 (by decide)).2
  rw [show 0 + (numL n).length - 4 = 0 by omega]
  rfl
/-! as many distinct members: all of them -/
theorem nodup_le {α : Type} [DecidableEq α] : ∀ {cs L : List α}, cs.Nodup → (∀ c ∈ cs, c ∈ L) → cs.length ≤ L.length
  | [], _, _, _ => Nat.zero_le _
  | c :: cs, L, nd, h => by
    have nd' := List.nodup_cons.mp nd
    have hc := h c (List.mem_cons_self ..)
    have := nodup_le (cs := cs) (L := L.erase c) nd'.2 fun d hd => by
      have ne : d ≠ c := fun z => nd'.1 (z ▸ hd)
      exact (List.mem_erase_of_ne ne).mpr (h d (List.mem_cons_of_mem _ hd))
    rw [List.length_erase_of_mem hc] at this
    have p := List.length_pos_of_mem hc
    rw [List.length_cons]
    omega
theorem nodup_all {α : Type} [DecidableEq α] {cs L : List α} (nd : cs.Nodup) (h : ∀ c ∈ cs, c ∈ L) (l : L.length ≤ cs.length) {x : α} (hx : x ∈ L) : x ∈ cs := by
  refine Classical.byContradiction fun n => ?_
  have := nodup_le (cs := x :: cs) (L := L) (List.nodup_cons.mpr ⟨n, nd⟩) fun d hd => by
    rcases List.mem_cons.mp hd with z | z
    · rw [z]
      exact hx
    · exact h d z
  rw [List.length_cons] at this
  omega
/-! names with a number behind -/
def Suf (i : Nat) (s : Str) : Prop := ∃ x : Str, s = x ++ numS (100 + i)
theorem hund_len : ∀ i, i < 900 → (numL (100 + i)).length = 3 := fun i h => by
  have a := numL_len (n := 100 + i) (k := 3) (by decide) (by omega)
  rw [numL_step (by omega), numL_step (n := (100 + i) / 10) (by omega), List.length_append, List.length_append, numL_lt (by omega)]
  rfl
theorem Suf.inj {i j : Nat} {s : Str} (h : Suf i s) (k : Suf j s) (hi : i < 900) (hj : j < 900) : i = j := by
  obtain ⟨x, e⟩ := h
  obtain ⟨y, e'⟩ := k
  have t := congrArg tl (e.symm.trans e')
  rw [tl_append, tl_append, tl_numS, tl_numS] at t
  have := (List.append_inj' t (by rw [hund_len i hi, hund_len j hj])).2
  have := numL_inj this
  omega
end Z
set_option Elab.async false
set_option linter.all false
set_option maxRecDepth 100000
set_option maxHeartbeats 2000000
namespace ZT
open PySem PySem.Spec PyProof.Rows L2 GenW
open PySem.AutoSeq1 (wpAny_loadPart')
/-! tuple(zip(a, b)) of two tuples of one length, not empty: the zip keeps the first pair that it gave out -/
section
variable {prog : Program} {w : World} {A : Around} {E : Value → Shared → Prop} {s : Shared} {z TI TO T i1 i2 l1 l2 : Addr} {f : Bool} {oT : Obj} {k1 k2 : Nat} {xs ys : Array Value}
theorem held_item {x y : Value} {Q : Option Value → Shared → Prop} (D : ZipApart z TI TO i1 i2 l1 l2) (hz : IsZipHeld s.heap z TI TO T f) (hT : s.heap.get? T = some oT) (hTI : IsPair s.heap TI (.ref i1) (.ref i2))
    (h1 : s.heap.IsTupleIter i1 l1 k1) (h2 : s.heap.IsTupleIter i2 l2 k2) (hl1 : s.heap.IsTuple l1 xs) (hl2 : s.heap.IsTuple l2 ys) (hx : xs[k1]? = some x) (hy : ys[k2]? = some y)
    (hQ : ∀ h', IsZipHeld h' z TI TO T true → h'.IsTupleIter i1 l1 (k1 + 1) → h'.IsTupleIter i2 l2 (k2 + 1) → IsPair h' s.heap.objs.size x y → h'.objs.size = s.heap.objs.size + 1 →
      (∀ c o, c ≠ z → c ≠ i1 → c ≠ i2 → s.heap.get? c = some o → h'.get? c = some o) → Q (some (.ref s.heap.objs.size)) { s with heap := h' }) : wpAny (model prog w) A (pyNext (.ref z)) Q E s := by
  unfold pyNext
  refine wpAny_bind (wpAny_attempt (wpAny_callSpecial?_slot (name := Str.ofString "__next__") (show s.TypeIs (.ref z) "zip" from ⟨_, hz, rfl⟩) F.slot_zip_next (wpAny_call_entry F.slot_zip_next (show s.TypeIs (.ref z) "zip" from ⟨_, hz, rfl⟩) F.entry_zip_next ?_ (F.args_zip_next_1 _))))
  show wpAny (model prog w) A.in1 (field (.ref z) 2 >>= _) _ _ s
  refine wpAny_bind (wpAny_field hz rfl (x := .bool false) rfl ?_)
  show wpAny (model prog w) A.in1 (field (.ref z) 3 >>= _) _ _ s
  refine wpAny_bind (wpAny_field hz rfl (x := .ref TI) rfl (wpAny_bind (wpAny_seqItems hTI rfl ?_)))
  show wpAny (model prog w) A.in1 (Builtin.SmallTypes.ownedTupleIsFree (.ref z) >>= _) _ _ s
  refine wpAny_bind (wpAny_tupleHeld_zip hz hT fun g1 z1 s1 => ?_)
  simp only [Bool.false_eq_true, if_false]
  refine wpAny_bind ?_
  rw [← Array.forIn_toList]
  simp only [List.forIn_cons, List.forIn_nil]
  refine wpAny_bind (wpAny_bind (wpAny_holding (wpAny_bind (m := Builtin.SmallTypes.nextOf (.ref i1)) (RZ.nextOf_tuple_item (s := { s with heap := g1 }) (h1.extBut s1.extBut D.i1z) (hl1.extBut s1.extBut D.l1z) hx fun g2 n1 s2 => wpAny_pure (wpAny_pure ?_)))))
  refine wpAny_bind (wpAny_bind (wpAny_holding (wpAny_bind (m := Builtin.SmallTypes.nextOf (.ref i2)) (RZ.nextOf_tuple_item (s := { s with heap := g2 }) ((h2.extBut s1.extBut D.i2z).extBut s2.extBut D.i12.symm) ((hl2.extBut s1.extBut D.l2z).extBut s2.extBut D.l2i1) hy fun g3 n2 s3 => wpAny_pure (wpAny_pure (wpAny_pure ?_))))))
  refine wpAny_bind (m := newTuple [x, y]) (wpAny_newTuple (wpAny_pure ⟨_, rfl, wpAny_pure ?_⟩))
  have hs : g3.objs.size = s.heap.objs.size := by rw [s3.1, s2.1, s1.1]
  have hz3 : IsZipHeld g3 z TI TO T true := s3.extBut _ _ D.i2z.symm (s2.extBut _ _ D.i1z.symm z1)
  have hp : IsPair (g3.push { cls := .type "tuple", data := .seq #[x, y] }) g3.objs.size x y := Heap.get?_push_size _ rfl
  have hs4 : (g3.push { cls := .type "tuple", data := .seq #[x, y] }).objs.size = g3.objs.size + 1 := Heap.size_push ..
  show Q (some (.ref g3.objs.size)) _
  rw [hs] at hp hs4 ⊢
  exact hQ _ (Heap.get?_push_of_some _ hz3) ((n1.extBut s3.extBut D.i12).at fun o e => Heap.get?_push_of_some _ e) (n2.at fun o e => Heap.get?_push_of_some _ e) hp hs4 fun c o c1 c2 c3 e => Heap.get?_push_of_some _ (s3.extBut _ _ c3 (s2.extBut _ _ c2 (s1.extBut _ _ c1 e)))
theorem held_end {Q : Option Value → Shared → Prop} (hh : A.handled = none) (D : ZipApart z TI TO i1 i2 l1 l2) (hz : IsZipHeld s.heap z TI TO T f) (hT : s.heap.get? T = some oT) (hTI : IsPair s.heap TI (.ref i1) (.ref i2))
    (h1 : s.heap.IsTupleIter i1 l1 k1) (hl1 : s.heap.IsTuple l1 xs) (hx : xs[k1]? = none)
    (hQ : ∀ h', (∀ c o, c ≠ z → c ≠ i1 → c ≠ i2 → s.heap.get? c = some o → h'.get? c = some o) → Q none { s with heap := h' }) : wpAny (model prog w) A (pyNext (.ref z)) Q E s := by
  unfold pyNext
  refine wpAny_bind (wpAny_attempt (wpAny_callSpecial?_slot (name := Str.ofString "__next__") (show s.TypeIs (.ref z) "zip" from ⟨_, hz, rfl⟩) F.slot_zip_next (wpAny_call_entry F.slot_zip_next (show s.TypeIs (.ref z) "zip" from ⟨_, hz, rfl⟩) F.entry_zip_next ?_ (F.args_zip_next_1 _))))
  show wpAny (model prog w) A.in1 (field (.ref z) 2 >>= _) _ _ s
  refine wpAny_bind (wpAny_field hz rfl (x := .bool false) rfl ?_)
  show wpAny (model prog w) A.in1 (field (.ref z) 3 >>= _) _ _ s
  refine wpAny_bind (wpAny_field hz rfl (x := .ref TI) rfl (wpAny_bind (wpAny_seqItems hTI rfl ?_)))
  show wpAny (model prog w) A.in1 (Builtin.SmallTypes.ownedTupleIsFree (.ref z) >>= _) _ _ s
  refine wpAny_bind (wpAny_tupleHeld_zip hz hT fun g1 z1 s1 => ?_)
  simp only [Bool.false_eq_true, if_false]
  refine wpAny_bind ?_
  rw [← Array.forIn_toList]
  simp only [List.forIn_cons, List.forIn_nil]
  refine wpAny_bind (wpAny_bind (wpAny_holding (wpAny_bind (m := Builtin.SmallTypes.nextOf (.ref i1)) (RZ.nextOf_tuple_end (s := { s with heap := g1 }) hh (h1.extBut s1.extBut D.i1z) (hl1.extBut s1.extBut D.l1z) hx fun g2 e s2 he => ?_))))
  obtain ⟨o, ho, hc⟩ := he
  refine wpAny_bind (wpAny_isInstance (T := "StopIteration") (b := true) ⟨o, ho, hc⟩ isSubtype_stop (wpAny_pure (hQ _ ?_)))
  exact fun c o c1 c2 _ x => s2 _ _ c2 (s1.extBut _ _ c1 x)
end
/-- pairs laid one after the other -/
inductive Laid : Hp → List (V × V) → List Addr → Hp → Prop
  | nil {H : Hp} : Laid H [] [] H
  | cons {H H' : Hp} {x y : V} {r : List (V × V)} {p : Addr} {ps : List Addr} (hp : H p = none) (h : Laid (upd H p (.tup [x, y])) r ps H') : Laid H ((x, y) :: r) (p :: ps) H'
structure ZS (X : Cx) (pins : List (Addr × Obj)) (σ : L2.St) (S z TI TO i1 i2 a b T : Addr) (xs ys : List V) (k : Nat) (acc : Array Value) (H : Hp) (s : Shared) : Prop where
  I : Inv X pins σ H s
  ha : H a = some (.tup xs)
  hb : H b = some (.tup ys)
  hT : ∃ q, H T = some (.tup q)
  hz : ∃ f, IsZipHeld s.heap z TI TO T f
  hTI : IsPair s.heap TI (.ref i1) (.ref i2)
  hTO : ∃ u v, IsPair s.heap TO u v
  h1 : s.heap.IsTupleIter i1 a k
  h2 : s.heap.IsTupleIter i2 b k
  hS : ∃ c, s.heap.get? S = some (lstObj acc c)
  fp : ∀ c ∈ [S, z, TI, TO, i1, i2], FpOk X pins H c
theorem upd_tup {H : Hp} {p q : Addr} {o u : HO} (h : H q = none) (e : H p = some u) : upd H q o p = some u := by
  rw [upd_ne]
  · exact e
  · intro z
    rw [z, h] at e
    cases e
section
variable {X : Cx} {pins : List (Addr × Obj)} {σ : L2.St} {S z TI TO i1 i2 a b : Addr} {xs ys : List V} {R : Result → Shared → Prop} {B : Around} {res : Value}
theorem six {P : Addr → Prop} (a1 : P S) (a2 : P z) (a3 : P TI) (a4 : P TO) (a5 : P i1) (a6 : P i2) : ∀ c ∈ [S, z, TI, TO, i1, i2], P c := fun c hc => by
  rcases List.mem_cons.mp hc with rfl | hc
  · exact a1
  rcases List.mem_cons.mp hc with rfl | hc
  · exact a2
  rcases List.mem_cons.mp hc with rfl | hc
  · exact a3
  rcases List.mem_cons.mp hc with rfl | hc
  · exact a4
  rcases List.mem_cons.mp hc with rfl | hc
  · exact a5
  rw [List.mem_singleton.mp hc]
  exact a6
theorem fresh_of {H : Hp} {c p : Addr} {u : HO} (f : FpOk X pins H c) (e : H p = some u) : p ≠ c := fun z => by
  rw [z, f.1] at e
  cases e
theorem zloop (hh : B.handled = none) (D : ZipApart z TI TO i1 i2 a b) (nS : S ≠ z ∧ S ≠ TI ∧ S ≠ TO ∧ S ≠ i1 ∧ S ≠ i2) (hl : xs.length = ys.length) {T : Addr} :
    ∀ (n k : Nat) (s : Shared) (H : Hp) (acc : Array Value) (ws : List V), k + n = xs.length → acc.size = k → xs.length ≤ sizeLine → ZS X pins σ S z TI TO i1 i2 a b T xs ys k acc H s → Vals ws acc.toList →
      (∀ ps H' s' acc' c', Laid H ((xs.drop k).zip (ys.drop k)) ps H' → Inv X pins σ H' s' → H' S = none → s'.heap.get? S = some (lstObj acc' c') → Vals (ws ++ ps.map V.ref) acc'.toList → acc'.size = xs.length → R (.ok (.ret res)) s') →
      codeAny (model X.prog X.w) B (.builtin "list.extend.loop" ⟨[.ref S, .ref z, res], []⟩) R s := by
  intro n
  induction n with
  | zero =>
    intro k s H acc ws hk hac hsz Z rv hR
    obtain ⟨f, hz⟩ := Z.hz
    obtain ⟨q, hT⟩ := Z.hT
    obtain ⟨c, hS⟩ := Z.hS
    obtain ⟨its, ri, p1, _⟩ := Z.I.tuple (SqT.of Z.ha)
    obtain ⟨iT, rT, pT, _⟩ := Z.I.tuple (SqT.of hT)
    obtain ⟨oT, eT, _⟩ := id pT
    refine codeAny_builtin F.entry_extend_loop ?_
    rw [Around.under_plainId F.plain_extend_loop _]
    refine wpAny_bind (m := pyNext (.ref z)) (held_end (A := B.in1) hh D hz eT Z.hTI Z.h1 p1 (by have := ri.length; simp; omega) fun h' hk' => ?_)
    refine wpAny_pure (hR [] H { s with heap := h' } acc c ?_ ?_ (Z.fp S (by simp)).1 (hk' _ _ nS.1 nS.2.2.2.1 nS.2.2.2.2 hS) (by rw [List.map_nil, List.append_nil]; exact rv) (by omega))
    · rw [List.drop_of_length_le (by omega), List.zip_nil_left]
      exact .nil
    · exact Z.I.turnedL (t' := s.toks) (ch := [S, z, TI, TO, i1, i2]) (fun c o hc e => hk' c o (fun q => hc (by simp [q])) (fun q => hc (by simp [q])) (fun q => hc (by simp [q])) e) Z.fp
  | succ n ih =>
    intro k s H acc ws hk hac hsz Z rv hR
    obtain ⟨f, hz⟩ := Z.hz
    obtain ⟨q, hT⟩ := Z.hT
    obtain ⟨c, hS⟩ := Z.hS
    obtain ⟨u0, v0, hTO⟩ := Z.hTO
    obtain ⟨its, ri, p1, _⟩ := Z.I.tuple (SqT.of Z.ha)
    obtain ⟨its2, ri2, p2, _⟩ := Z.I.tuple (SqT.of Z.hb)
    obtain ⟨iT, rT, pT, _⟩ := Z.I.tuple (SqT.of hT)
    obtain ⟨oT, eT, _⟩ := id pT
    have lx : k < xs.length := by omega
    have ly : k < ys.length := by omega
    obtain ⟨u, hu, ru⟩ := ri.get (List.getElem?_eq_getElem lx)
    obtain ⟨v, hv, rv2⟩ := ri2.get (List.getElem?_eq_getElem ly)
    refine codeAny_builtin F.entry_extend_loop ?_
    rw [Around.under_plainId F.plain_extend_loop _]
    refine wpAny_bind (m := pyNext (.ref z)) (held_item (A := B.in1) D hz eT Z.hTI Z.h1 Z.h2 p1 p2 (x := u) (y := v) (by simpa using hu) (by simpa using hv) fun h' z' n1 n2 hP hs hk' => ?_)
    have hS1 : h'.get? S = some (lstObj acc c) := hk' _ _ nS.1 nS.2.2.2.1 nS.2.2.2.2 hS
    have sl : ∀ {c : Addr} {o : Obj}, s.heap.get? c = some o → c ≠ s.heap.objs.size := fun e => Nat.ne_of_lt (Heap.lt_size e)
    have hup := Heap.get?_update_self (Obj.mapSeq (·.push (Value.ref s.heap.objs.size))) hS1 rfl
    have oth : ∀ {b : Addr} {o : Obj}, b ≠ S → h'.get? b = some o → (h'.update S (Obj.mapSeq (·.push (Value.ref s.heap.objs.size)))).get? b = some o := fun hb e => (Heap.get?_update_other _ _ (Ne.symm hb)).trans e
    show wpAny _ B.in1 (updateSeq S (·.push (Value.ref s.heap.objs.size)) >>= _) _ _ _
    refine wpAny_bind (wpAny_updateSeq (s := { s with heap := h' }) hS1 rfl (wpAny_pure ⟨plainId_quiet F.plain_extend_loop _, ?_⟩) (by omega) (by show (acc.push _).size ≤ sizeLine + 1; rw [Array.size_push]; omega))
    have nT : H s.heap.objs.size = none := Z.I.hok.fresh (Nat.le_refl _)
    have new : ObjOk X.prog X.w (upd H s.heap.objs.size (.tup [xs[k], ys[k]])) (h'.update S (Obj.mapSeq (·.push (Value.ref s.heap.objs.size)))) s.heap.objs.size (.tup [xs[k], ys[k]]) :=
      ⟨by show 2 ≤ sizeLine; decide, [u, v], .cons ru (.cons rv2 .nil), ⟨_, oth (Ne.symm (sl hS)) hP, rfl, _, rfl⟩⟩
    have J : Inv X pins σ (upd H s.heap.objs.size (.tup [xs[k], ys[k]])) { s with heap := h'.update S (Obj.mapSeq (·.push (Value.ref s.heap.objs.size))) } :=
      Z.I.turnedNew (t' := s.toks) (ch := [S, z, TI, TO, i1, i2]) (fun c o hc e => oth (fun q => hc (by simp [q])) (hk' c o (fun q => hc (by simp [q])) (fun q => hc (by simp [q])) (fun q => hc (by simp [q])) e)) Z.fp (Nat.le_refl _) new
    obtain ⟨o1, e1, _⟩ := id Z.h1
    obtain ⟨o2, e2, _⟩ := id Z.h2
    refine ih (k + 1) { s with heap := h'.update S (Obj.mapSeq (·.push (Value.ref s.heap.objs.size))) } (upd H s.heap.objs.size (.tup [xs[k], ys[k]])) (acc.push (.ref s.heap.objs.size)) (ws ++ [.ref s.heap.objs.size]) (by omega) (by rw [Array.size_push, hac]) hsz
      ⟨J, upd_tup nT Z.ha, upd_tup nT Z.hb, ⟨_, upd_tup nT hT⟩, ⟨_, oth (Ne.symm nS.1) z'⟩, oth (Ne.symm nS.2.1) (hk' _ _ D.TIz D.TIi1 D.TIi2 Z.hTI), ⟨_, _, oth (Ne.symm nS.2.2.1) (hk' _ _ D.TOz D.TOi1 D.TOi2 hTO)⟩, n1.at fun o e => oth (Ne.symm nS.2.2.2.1) e, n2.at fun o e => oth (Ne.symm nS.2.2.2.2) e, ⟨_, hup⟩, ?_⟩ (by rw [Array.toList_push]; exact rv.append (.cons rfl .nil)) fun ps H' s' acc' c' L J' hn e r sz => ?_
    · have st : ∀ {c : Addr} {o : Obj}, s.heap.get? c = some o → FpOk X pins H c → FpOk X pins (upd H s.heap.objs.size (.tup [xs[k], ys[k]])) c := fun e q => ⟨by rw [upd_ne (sl e)]; exact q.1, q.2⟩
      exact six (st hS (Z.fp _ (by simp))) (st hz (Z.fp _ (by simp))) (st Z.hTI (Z.fp _ (by simp))) (st hTO (Z.fp _ (by simp))) (st e1 (Z.fp _ (by simp))) (st e2 (Z.fp _ (by simp)))
    · refine hR (s.heap.objs.size :: ps) H' s' acc' c' ?_ J' hn e ?_ sz
      · rw [List.drop_eq_getElem_cons lx, List.drop_eq_getElem_cons ly, List.zip_cons_cons]
        exact .cons nT L
      · rw [List.map_cons, List.append_cons]
        exact r
structure ZS0 (X : Cx) (pins : List (Addr × Obj)) (σ : L2.St) (S z TI TO i1 i2 a b : Addr) (xs ys : List V) (H : Hp) (s : Shared) : Prop where
  I : Inv X pins σ H s
  ha : H a = some (.tup xs)
  hb : H b = some (.tup ys)
  hz : IsZip s.heap z TI TO .none
  hTI : IsPair s.heap TI (.ref i1) (.ref i2)
  hTO : ∃ u v, IsPair s.heap TO u v
  h1 : s.heap.IsTupleIter i1 a 0
  h2 : s.heap.IsTupleIter i2 b 0
  hS : ∃ c, s.heap.get? S = some (lstObj #[] c)
  fp : ∀ c ∈ [S, z, TI, TO, i1, i2], FpOk X pins H c
theorem zfirst (hh : B.handled = none) (D : ZipApart z TI TO i1 i2 a b) (nS : S ≠ z ∧ S ≠ TI ∧ S ≠ TO ∧ S ≠ i1 ∧ S ≠ i2) (hl : xs.length = ys.length) (hp : 0 < xs.length) {s : Shared} {H : Hp} (hsz : xs.length ≤ sizeLine) (Z : ZS0 X pins σ S z TI TO i1 i2 a b xs ys H s)
    (hR : ∀ ps H' s' acc' c', Laid H (xs.zip ys) ps H' → Inv X pins σ H' s' → H' S = none → s'.heap.get? S = some (lstObj acc' c') → Vals (ps.map V.ref) acc'.toList → acc'.size = xs.length → R (.ok (.ret res)) s') :
    codeAny (model X.prog X.w) B (.builtin "list.extend.loop" ⟨[.ref S, .ref z, res], []⟩) R s := by
  obtain ⟨c, hS⟩ := Z.hS
  obtain ⟨u0, v0, hTO⟩ := Z.hTO
  obtain ⟨its, ri, p1, _⟩ := Z.I.tuple (SqT.of Z.ha)
  obtain ⟨its2, ri2, p2, _⟩ := Z.I.tuple (SqT.of Z.hb)
  have ly : 0 < ys.length := by omega
  obtain ⟨u, hu, ru⟩ := ri.get (List.getElem?_eq_getElem hp)
  obtain ⟨v, hv, rv2⟩ := ri2.get (List.getElem?_eq_getElem ly)
  refine codeAny_builtin F.entry_extend_loop ?_
  rw [Around.under_plainId F.plain_extend_loop _]
  refine wpAny_bind (m := pyNext (.ref z)) (RZ.pyNext_zipT_item (A := B.in1) D Z.hz Z.hTI hTO Z.h1 Z.h2 p1 p2 (x := u) (y := v) (by simpa using hu) (by simpa using hv) fun h' z' hTO' n1 n2 hP hs hk' => ?_)
  have hS1 : h'.get? S = some (lstObj #[] c) := hk' _ _ nS.1 nS.2.2.1 nS.2.2.2.1 nS.2.2.2.2 hS
  have sl : ∀ {c : Addr} {o : Obj}, s.heap.get? c = some o → c ≠ s.heap.objs.size := fun e => Nat.ne_of_lt (Heap.lt_size e)
  have hup := Heap.get?_update_self (Obj.mapSeq (·.push (Value.ref s.heap.objs.size))) hS1 rfl
  have oth : ∀ {b : Addr} {o : Obj}, b ≠ S → h'.get? b = some o → (h'.update S (Obj.mapSeq (·.push (Value.ref s.heap.objs.size)))).get? b = some o := fun hb e => (Heap.get?_update_other _ _ (Ne.symm hb)).trans e
  show wpAny _ B.in1 (updateSeq S (·.push (Value.ref s.heap.objs.size)) >>= _) _ _ _
  refine wpAny_bind (wpAny_updateSeq (s := { s with heap := h' }) hS1 rfl (wpAny_pure ⟨plainId_quiet F.plain_extend_loop _, ?_⟩) (by show 0 ≤ sizeLine; omega) (by show 1 ≤ sizeLine + 1; omega))
  have nT : H s.heap.objs.size = none := Z.I.hok.fresh (Nat.le_refl _)
  have new : ObjOk X.prog X.w (upd H s.heap.objs.size (.tup [xs[0], ys[0]])) (h'.update S (Obj.mapSeq (·.push (Value.ref s.heap.objs.size)))) s.heap.objs.size (.tup [xs[0], ys[0]]) :=
    ⟨by show 2 ≤ sizeLine; decide, [u, v], .cons ru (.cons rv2 .nil), ⟨_, oth (Ne.symm (sl hS)) hP, rfl, _, rfl⟩⟩
  have J : Inv X pins σ (upd H s.heap.objs.size (.tup [xs[0], ys[0]])) { s with heap := h'.update S (Obj.mapSeq (·.push (Value.ref s.heap.objs.size))) } :=
    Z.I.turnedNew (t' := s.toks) (ch := [S, z, TI, TO, i1, i2]) (fun c o hc e => oth (fun q => hc (by simp [q])) (hk' c o (fun q => hc (by simp [q])) (fun q => hc (by simp [q])) (fun q => hc (by simp [q])) (fun q => hc (by simp [q])) e)) Z.fp (Nat.le_refl _) new
  obtain ⟨o1, e1, _⟩ := id Z.h1
  obtain ⟨o2, e2, _⟩ := id Z.h2
  refine zloop (T := s.heap.objs.size) hh D nS hl (xs.length - 1) 1 { s with heap := h'.update S (Obj.mapSeq (·.push (Value.ref s.heap.objs.size))) } (upd H s.heap.objs.size (.tup [xs[0], ys[0]])) (#[Value.ref s.heap.objs.size]) [.ref s.heap.objs.size] (by omega) rfl hsz
    ⟨J, upd_tup nT Z.ha, upd_tup nT Z.hb, ⟨_, upd_same⟩, ⟨false, oth (Ne.symm nS.1) z'⟩, oth (Ne.symm nS.2.1) (hk' _ _ D.TIz D.TITO D.TIi1 D.TIi2 Z.hTI), ⟨_, _, oth (Ne.symm nS.2.2.1) hTO'⟩, n1.at fun o e => oth (Ne.symm nS.2.2.2.1) e, n2.at fun o e => oth (Ne.symm nS.2.2.2.2) e, ⟨_, hup⟩, ?_⟩ (.cons rfl .nil) fun ps H' s' acc' c' L J' hn e r sz => ?_
  · have st : ∀ {c : Addr} {o : Obj}, s.heap.get? c = some o → FpOk X pins H c → FpOk X pins (upd H s.heap.objs.size (.tup [xs[0], ys[0]])) c := fun e q => ⟨by rw [upd_ne (sl e)]; exact q.1, q.2⟩
    exact six (st hS (Z.fp _ (by simp))) (st Z.hz (Z.fp _ (by simp))) (st Z.hTI (Z.fp _ (by simp))) (st hTO (Z.fp _ (by simp))) (st e1 (Z.fp _ (by simp))) (st e2 (Z.fp _ (by simp)))
  · refine hR (s.heap.objs.size :: ps) H' s' acc' c' ?_ J' hn e r sz
    have ex : xs = xs[0] :: xs.drop 1 := by rw [← List.drop_eq_getElem_cons hp, List.drop_zero]
    have ey : ys = ys[0] :: ys.drop 1 := by rw [← List.drop_eq_getElem_cons ly, List.drop_zero]
    rw [ex, ey, List.zip_cons_cons]
    exact .cons nT L
theorem zip_no_len : typeLookup (.type "zip") "__len__" = pure none := am_miss_of_fast (by decide +kernel)
theorem zip_no_hint : typeLookup (.type "zip") "__length_hint__" = pure none := am_miss_of_fast (by decide +kernel)
structure ZM (X : Cx) (pins : List (Addr × Obj)) (σ : L2.St) (z TI TO i1 i2 a b : Addr) (xs ys : List V) (H : Hp) (s : Shared) : Prop where
  D : ZipApart z TI TO i1 i2 a b
  I : Inv X pins σ H s
  ha : H a = some (.tup xs)
  hb : H b = some (.tup ys)
  hz : IsZip s.heap z TI TO .none
  hTI : IsPair s.heap TI (.ref i1) (.ref i2)
  hTO : ∃ u v, IsPair s.heap TO u v
  h1 : s.heap.IsTupleIter i1 a 0
  h2 : s.heap.IsTupleIter i2 b 0
  fp : ∀ c ∈ [z, TI, TO, i1, i2], FpOk X pins H c
theorem collect_zt {s : Shared} {H : Hp} {Q : List Value → Shared → Prop} {E : Value → Shared → Prop} (hh : B.handled = none) (hl : xs.length = ys.length) (hp : 0 < xs.length) (hsz : xs.length ≤ sizeLine) (M : ZM X pins σ z TI TO i1 i2 a b xs ys H s)
    (hQ : ∀ ps H' s' (acc : Array Value), Laid H (xs.zip ys) ps H' → Inv X pins σ H' s' → Vals (ps.map V.ref) acc.toList → acc.size ≤ sizeLine → Q acc.toList s') : wpAny (model X.prog X.w) B (collect (.ref z)) Q E s := by
  obtain ⟨u0, v0, hTO⟩ := M.hTO
  obtain ⟨o1, e1, _⟩ := id M.h1
  obtain ⟨o2, e2, _⟩ := id M.h2
  have gz : ∀ {c : Addr} {o : Obj}, s.heap.get? c = some o → s.heap.objs.size ≠ c := fun e => Nat.ne_of_gt (Heap.lt_size e)
  have k1 : ∀ b o, s.heap.get? b = some o → (s.heap.push { cls := .type "list", data := .seq ([] : List Value).toArray }).get? b = some o := fun b o e => Heap.get?_push_of_some _ e
  have ty : ∀ {h : Heap}, IsZip h z TI TO .none → ({ s with heap := h } : Shared).TypeIs (.ref z) "zip" := fun q => ⟨_, q, rfl⟩
  unfold collect
  refine wpAny_bind (wpAny_runValue (codeAny_builtin F.entry_proto_collect ?_))
  rw [Around.under_plainId F.plain_proto_collect _]
  show wpAny _ B.in1 (newList [] >>= fun l => again (.builtin "list.__iadd__" ⟨[l, .ref z], []⟩)) _ _ s
  refine wpAny_bind (wpAny_newObj_type (wpAny_pure ⟨plainId_quiet F.plain_list_iadd _, codeAny_builtin F.entry_list_iadd ?_⟩))
  rw [Around.under_plainId F.plain_list_iadd _]
  show wpAny _ B.in1 (Builtin.List.listExtendWith (.ref s.heap.objs.size) (.ref z) (.ref s.heap.objs.size)) _ _ _
  unfold Builtin.List.listExtendWith
  refine wpAny_bind (wpAny_typeOf (ty (k1 _ _ M.hz)) ?_)
  have q1 : Builtin.List.listSameRef (.ref s.heap.objs.size) (.ref z) = false := by simp [Builtin.List.listSameRef, gz M.hz]
  have q2 : (Value.type "zip" == Value.type "list") = false := by decide
  have q3 : (Value.type "zip" == Value.type "tuple") = false := by decide
  simp only [q1, q2, q3, Bool.or_false, Bool.false_eq_true, if_false]
  refine wpAny_bind (wpAny_pyIter_zip (s := { s with heap := _ }) (k1 _ _ M.hz) ?_)
  refine wpAny_bind (wpAny_holding ?_)
  unfold Builtin.List.listLengthHint
  refine wpAny_bind (wpAny_specialOf (ty (k1 _ _ M.hz)) zip_no_len ?_)
  show wpAny _ B.in1 (specialOf (Value.ref z) (Str.ofString "__length_hint__") >>= _) _ _ _
  refine wpAny_bind (wpAny_specialOf (ty (k1 _ _ M.hz)) zip_no_hint (wpAny_pure ?_))
  show wpAny _ B.in1 (rule "list.extend.makes-room" >>= fun _ => Builtin.List.listTouch (.ref s.heap.objs.size) >>= fun _ =>
    again (.builtin "list.extend.loop" ⟨[.ref s.heap.objs.size, .ref z, .ref s.heap.objs.size], []⟩)) _ _ _
  refine wpAny_bind (wpAny_rule (wpAny_bind ?_))
  have hS₁ : (s.heap.push { cls := .type "list", data := .seq ([] : List Value).toArray }).get? s.heap.objs.size = some { cls := .type "list", data := .seq ([] : List Value).toArray } := Heap.get?_push_size _ rfl
  show wpAny _ B.in1 (updateSeq s.heap.objs.size (·.push .none) >>= fun _ => updateSeq s.heap.objs.size (·.pop)) _ _ _
  refine wpAny_bind (wpAny_updateSeq hS₁ rfl ?_)
  have hS₂ := Heap.get?_update_self (Obj.mapSeq (·.push Value.none)) hS₁ rfl
  refine wpAny_updateSeq (hz := by seq_fits) hS₂ rfl ?_
  have hS₃ := Heap.get?_update_self (Obj.mapSeq (·.pop)) hS₂ rfl
  have oth : ∀ b o, s.heap.get? b = some o →
      (((s.heap.push { cls := .type "list", data := .seq ([] : List Value).toArray }).update s.heap.objs.size (Obj.mapSeq (·.push Value.none))).update s.heap.objs.size (Obj.mapSeq (·.pop))).get? b = some o :=
    fun b o e => (Heap.get?_update_other _ _ (gz e)).trans ((Heap.get?_update_other _ _ (gz e)).trans (k1 b o e))
  refine wpAny_pure ⟨plainId_quiet F.plain_extend_loop _, zfirst (X := X) (pins := pins) (σ := σ) (TI := TI) (TO := TO) (i1 := i1) (i2 := i2) (a := a) (b := b) (xs := xs) (ys := ys) (H := H) hh M.D ⟨gz M.hz, gz M.hTI, gz hTO, gz e1, gz e2⟩ hl hp hsz ⟨M.I.kept (t' := s.toks) oth, M.ha, M.hb, oth _ _ M.hz, oth _ _ M.hTI, ⟨_, _, oth _ _ hTO⟩, M.h1.at fun o e => oth _ _ e, M.h2.at fun o e => oth _ _ e, ⟨_, hS₃⟩, ?_⟩ fun ps H' s' acc' c' L J hn e r sz => ?_⟩
  · refine six ?_ (M.fp _ (by simp)) (M.fp _ (by simp)) (M.fp _ (by simp)) (M.fp _ (by simp)) (M.fp _ (by simp))
    exact M.I.fpOk (Nat.le_refl _) (M.I.hok.fresh (Nat.le_refl _))
  · show wpAny _ B (load s.heap.objs.size >>= _) _ _ s'
    exact wpAny_bind (wpAny_load e (wpAny_pure (hQ ps H' s' acc' L J r (by omega))))
end
section
variable {X : Cx} {pins : List (Addr × Obj)} {σ : L2.St} {z TI TO i1 i2 a b : Addr} {xs ys : List V}
theorem meets_tuple_zt {H : Hp} (hl : xs.length = ys.length) (hp : 0 < xs.length) (hsz : xs.length ≤ sizeLine) :
    MeetsIn X.prog X.w (Builtin.«tuple.__new__» ⟨[.type "tuple", .ref z], []⟩)
      (fun A R s => A.in1.handled = none ∧ ZM X pins σ z TI TO i1 i2 a b xs ys H s ∧
        ∀ (ps : List Addr) (H' : Hp) (s' : Shared) (acc : Array Value), Laid H (xs.zip ys) ps H' → L2.Inv X pins σ H' s' → Vals (ps.map V.ref) acc.toList → acc.size ≤ sizeLine → R (.ok (.ret (.ref s'.heap.objs.size))) { s' with heap := s'.heap.push { cls := .type "tuple", data := .seq acc } }) :=
  .of_wp fun A R s h => by
    obtain ⟨hf, M, h⟩ := h
    have hsub := sub_tuple_self
    have hinit := init_tuple_lookup
    have hmh := madeHere_tuple
    have hT : s.TypeIs (.ref z) "zip" := ⟨_, M.hz, rfl⟩
    wp_walk using wpAny_typeOf hT, collect_zt (X := X) hf hl hp hsz M
    intro ps H' s' acc L I rv hz
    show wpAny _ _ (Builtin.Tuple.tupleExact acc.toList.toArray >>= fun v => ret v) _ _ _
    unfold Builtin.Tuple.tupleExact
    refine wpAny_bind (wpAny_newObj_type ?_ (show acc.toList.toArray.size ≤ sizeLine by simpa using hz))
    refine wpAny_pure ⟨_, rfl, ?_⟩
    rw [Array.toArray_toList]
    exact h ps H' s' acc L I rv hz
end
/-- tuple(zip(e, e2)) of two tuples of one length -/
def tZT (ta : TA) : TE := fun σ H Q => ta σ H fun vs H1 => ∃ (a b : Addr) (xs ys : List V), vs = [.ref a, .ref b] ∧ H1 a = some (.tup xs) ∧ H1 b = some (.tup ys) ∧ xs.length = ys.length ∧ 0 < xs.length ∧
  ∀ (ps : List Addr) (H2 : Hp), Laid H1 (xs.zip ys) ps H2 → ∀ q, H2 q = none → Q (.ref q) (upd H2 q (.tup (ps.map V.ref)))
theorem pe_zipTup {X : Cx} {e e2 : Expr} {ta : TA} {p p2 pos pos2 : Pos} (hr : Room 1 X.A) (hg : Gl X "tuple") (hm : X.mg "tuple" = none) (hg2 : Gl X "zip") (hm2 : X.mg "zip" = none) (ha : PA X [e, e2] ta)
    (na : starEach [.Call (.Name "zip" p2) [e, e2] [] pos2] X.env = (false, eval (.Call (.Name "zip" p2) [e, e2] [] pos2) X.env) :: starEach [] X.env := by rfl)
    (hs : starEach [e, e2] X.env = (false, eval e X.env) :: starEach [e2] X.env := by rfl) (hpl : (backTo pos2 (starEach [e2] X.env)).any (·.1) = false := by rfl) :
    PE X (.Call (.Name "tuple" p) [.Call (.Name "zip" p2) [e, e2] [] pos2] [] pos) (tZT ta) := by
  refine ⟨fun pins s σ H Q I h => ?_⟩
  refine Call_ (ld_blt I hg hm PySem.Pv.boot_tuple (PyProof.Rows.callWith_type1 (args_cons ?_ na) na))
  refine Call_ (ld_blt I hg2 hm2 PyProof.Rows.boot_zip (PyProof.Rows.callWith_type1 (thn (ha.run pos2 pins s σ H _ I h) fun us s1 ⟨vs, H1, I1, r1, q1⟩ => ?_) hs hpl))
  obtain ⟨a, b, xs, ys, rfl, hqx, hqy, hl, hp, q⟩ := q1
  obtain ⟨u1, u2, rfl, ra, rb⟩ := vals2 r1
  cases ra
  cases rb
  obtain ⟨its, rv, p1, hzz⟩ := I1.tuple (SqT.of hqx)
  obtain ⟨its2, rv2, p2, _⟩ := I1.tuple (SqT.of hqy)
  have la := ZX.is_lt (t := true) (show ZX.IsOf true s1.heap a its.toArray from p1)
  have lb := ZX.is_lt (t := true) (show ZX.IsOf true s1.heap b its2.toArray from p2)
  refine RZ.call_zipT (show s1.heap.IsTuple a its.toArray from p1) (show s1.heap.IsTuple b its2.toArray from p2) fun h' hz hTI hTO e1 e2 hsz hk => ?_
  have I2 : Inv X pins σ H1 { s1 with heap := h' } := I1.kept (t' := s1.toks) hk
  refine args_nil ?_
  have fr : ∀ c, s1.heap.objs.size ≤ c → FpOk X pins H1 c := fun c hle => I1.fpOk hle (I1.hok.fresh hle)
  have M : ZM X pins σ (s1.heap.objs.size + 4) (s1.heap.objs.size + 2) (s1.heap.objs.size + 3) s1.heap.objs.size (s1.heap.objs.size + 1) a b xs ys H1 { s1 with heap := h' } :=
    ⟨PySem.W.ktu_apart s1.heap.objs.size a b la lb, I2, hqx, hqy, hz, hTI, ⟨_, _, hTO⟩, e1, e2, fun c hc => by
      have hle : s1.heap.objs.size ≤ c := by
        have e' : c = s1.heap.objs.size + 4 ∨ c = s1.heap.objs.size + 2 ∨ c = s1.heap.objs.size + 3 ∨ c = s1.heap.objs.size ∨ c = s1.heap.objs.size + 1 := by simpa using hc
        rcases e' with rfl | rfl | rfl | rfl | rfl
        · exact Nat.le_add_right _ _
        · exact Nat.le_add_right _ _
        · exact Nat.le_add_right _ _
        · exact Nat.le_refl _
        · exact Nat.le_add_right _ _
      exact fr c hle⟩
  refine callType_newIn F.called_tuple (by decide) (F.typeCall_tuple_1 _) (F.newCall_tuple_1 _) (fun obj => F.args_object_init_2 obj _) F.entry_tuple_new (meets_tuple_zt (X := X) (pins := pins) (σ := σ) (H := H1) hl hp hzz)
    ⟨hr.hd, M, fun ps H' s2 acc L J rv hz => ⟨⟨_, Heap.get?_push_size _ rfl, rfl⟩, ?_⟩⟩
  have J2 : L2.Inv X pins σ (upd H' s2.heap.objs.size (.tup (ps.map V.ref))) { s2 with heap := s2.heap.push { cls := .type "tuple", data := .seq acc } } :=
    J.laid (t' := s2.toks) (fun b o e => Heap.get?_push_of_some _ e) (Nat.le_refl _) (show ObjOk X.prog X.w _ _ _ (.tup (ps.map V.ref)) from ⟨by rw [rv.length, Array.length_toList]; exact hz, acc.toList, rv, by rw [Array.toArray_toList]; exact IsTup.new _ _⟩)
  exact ⟨.ref s2.heap.objs.size, _, J2, rfl, q ps H' L _ (J.hok.fresh (Nat.le_refl _))⟩
end ZT
set_option Elab.async false
set_option linter.all false
set_option maxRecDepth 100000
set_option maxHeartbeats 2000000
namespace Z
open PySem L2 PyProof.Rows ZX GX TL
/-! names that the law draws -/
abbrev s_l_name : Stmt := topS 30
theorem sc_l_name : FnScope ["_law_pen_here", "_law_used", "_law_signs", "_law_name_here", "_law_k"] ["_law_pen_here", "_law_used"] (defScope s_l_name) := ⟨rfl, rfl, rfl, by decide +kernel, rfl, by decide +kernel, by decide +kernel⟩
theorem lsz {m : Nat} (h : m ≤ 1000) : m < sizeLine := small1000 h
def alphabet : Str := "abcdefghijklmnopqrstuvwxyz0123456789"
theorem alpha_len : (tl alphabet).length = 36 := by decide +kernel
theorem alpha_low : ∀ j, j < 26 → 97 ≤ (tl alphabet).getD j 0 ∧ (tl alphabet).getD j 0 ≤ 122 := by decide +kernel
theorem alpha_sign : ∀ j, j < 36 → (97 ≤ (tl alphabet).getD j 0 ∧ (tl alphabet).getD j 0 ≤ 122) ∨ (48 ≤ (tl alphabet).getD j 0 ∧ (tl alphabet).getD j 0 ≤ 57) := by decide +kernel
theorem alpha_at {d : Int} (h0 : 0 ≤ d) (h1 : d < 36) : ∃ c, atI (tl alphabet) d = some c ∧ (isLow c ∨ isDig c) ∧ (d < 26 → isLow c) := by
  have hd : d = ((d.toNat : Nat) : Int) := (Int.toNat_of_nonneg h0).symm
  have hl : d.toNat < (tl alphabet).length := by rw [alpha_len]; omega
  refine ⟨(tl alphabet).getD d.toNat 0, ?_, alpha_sign _ (by omega), fun h => alpha_low _ (by omega)⟩
  rw [hd]
  refine atI_nat ?_
  rw [Int.toNat_natCast, List.getD_eq_getElem?_getD, List.getElem?_eq_getElem hl]
  rfl
def strV (s : Str) : V := .str s
theorem eqV_str (a b : Str) : eqV (.str a) (.str b) = decide (a = b) := by
  unfold eqV
  by_cases h : a = b
  · simp [h]
  · simp [h]
theorem inV_str (x : Str) (xs : List Str) : inV (.str x) (xs.map V.str) = decide (x ∈ xs) := by
  unfold inV
  rw [List.any_map]
  by_cases h : x ∈ xs
  · rw [decide_eq_true h]
    refine List.any_eq_true.mpr ⟨x, h, ?_⟩
    show eqV (.str x) (.str x) = true
    rw [eqV_str]
    simp
  · rw [decide_eq_false h]
    refine List.any_eq_false.mpr fun y hy => ?_
    show ¬ eqV (.str y) (.str x) = true
    rw [eqV_str]
    intro z
    exact h (of_decide_eq_true z ▸ hy)
theorem flat_strs (xs : List Str) : (xs.map V.str).all flatV = true := by
  rw [List.all_map]
  exact List.all_eq_true.mpr fun _ _ => rfl
/-- what is drawn beside a list that grows -/
structure DG (T : List Addr) (p l u : Addr) (H H' : Hp) (n' : Nat) : Prop where
  pt : PT T H' p l n'
  gr : Gr T (mask u (mask p H)) (mask u (mask p H'))
def spName (T : List Addr) : Sp := fun vs H Q _ => ∃ (p l u : Addr) (n : Nat) (ns : List Str), vs = [.ref p, .ref u] ∧ PT T H p l n ∧ n < 2 ^ 39 ∧ H u = some (.lst (ns.map V.str)) ∧ l ≠ u ∧ ns.length ≤ 20 ∧
  ∀ (x : Str) (H' : Hp), NameW 11 x → x ∉ ns → DG T p l u H H' (n + 9) → H' u = some (.lst ((ns ++ [x]).map V.str)) → Q (.str x) H'
theorem pick_of (xs : List Int) {v : V} (h : v ∈ xs.map V.int) : ∃ z ∈ xs, v = .int z := by
  obtain ⟨z, hz, e⟩ := List.mem_map.mp h
  exact ⟨z, hz, e.symm⟩
theorem cut8 {m : Nat} {s : Str} (h : NameW m s) : NameW 8 (cutS s none (some 8)) := by
  obtain ⟨c, r, e, h1, h2, h3⟩ := h.ex
  refine ⟨c, r.take 7, ?_, h1, fun d hd => h2 d (List.mem_of_mem_take hd), by rw [List.length_take]; omega⟩
  unfold cutS
  rw [tl_mk]
  show ((tl s).drop _).take _ = _
  have l : s.length = r.length + 1 := by rw [len_tl, e]; rfl
  rw [show HT.sIx s.length 0 none = 0 from rfl, show HT.sIx s.length s.length (some 8) = min 8 s.length from HT.sIx_nat _ _ 8, e, l]
  rw [List.drop_zero, Nat.sub_zero]
  rcases Nat.lt_or_ge (r.length + 1) 8 with z | z
  · rw [Nat.min_eq_right (by omega), List.take_succ_cons, List.take_of_length_le (Nat.le_refl _), List.take_of_length_le (by omega)]
  · rw [Nat.min_eq_left z]
    rfl
theorem name_suf {s : Str} (h : NameW 8 s) {i : Nat} (hi : i < 900) : NameW 11 (s ++ numS (100 + i)) := by
  obtain ⟨c, r, e, h1, h2, h3⟩ := h.ex
  refine ⟨c, r ++ numL (100 + i), by rw [tl_append, e, tl_numS]; rfl, h1, fun d hd => ?_, by rw [List.length_append, hund_len i hi]; omega⟩
  rcases List.mem_append.mp hd with z | z
  · exact h2 d z
  · exact .inr (numL_digits _ d z)
theorem PT.un {T : List Addr} {H : Hp} {p l u : Addr} {n : Nat} {xs : List V} (h : PT T H p l n) (hu : H u = some (.lst xs)) : u ≠ p := h.ne hu (fun _ z => by cases z)
/-- another object is written over -/
theorem PT.put {T : List Addr} {H : Hp} {p l u : Addr} {n : Nat} {o o' : HO} (h : PT T H p l n) (hl : l ≠ u) (hu : H u = some o) (n1 : ∀ kvs, o ≠ .dK kvs) (n2 : ∀ ps, o ≠ .tbl ps) : PT T (upd H u o') p l n := by
  have nup := h.ne hu n1
  obtain ⟨c, hc, h1⟩ := h.pen
  obtain ⟨ns, a, d, f, e1, e2, e3⟩ := h1.ex
  refine ⟨⟨c, hc, ⟨ns, a, d, f, by rw [upd_ne nup.symm]; exact e1, by rw [upd_ne hl]; exact e2, e3⟩⟩, fun P hP => ?_⟩
  obtain ⟨ps, q, t⟩ := h.tab P hP
  refine ⟨ps, ?_, t⟩
  rw [upd_ne]
  · exact q
  · intro z
    rw [z, hu] at q
    exact n2 ps (Option.some.inj q)
theorem mask_put {p u : Addr} {H : Hp} {o : HO} (h : u ≠ p) : mask u (mask p (upd H u o)) = mask u (mask p H) := by
  funext b
  unfold mask
  split
  · rfl
  · split
    · rfl
    · exact upd_ne (by assumption)
section
variable {P : Program} {w : World} {K : PySem.W.Frag} {mg : Str → Option Value} {base : Heap} {T : List Addr}
theorem ok_l_name {f : Addr} {fd : FuncData} (F : Fun K "_law_name" "_law_name" s_l_name f fd) (br : mg "range" = none) (bn : mg "len" = none) (bs : mg "str" = none) (D : Fx P w K mg base "_law_draw" 1 ["_law_pen_here", "_law_many"] (spDr T)) (PK : Fx P w K mg base "_law_pick" 2 ["_law_pen_here", "_law_some"] (spPk T K)) :
    FnOk P w K mg base CX0 3 f fd ["_law_pen_here", "_law_used"] (spName T) := by
  refine F.ok sc_l_name (fun vs H Q E h => ?_) (fun cdv A outer s H vs Q E hr h => ?_)
  · obtain ⟨p, l, u, n, ns, rfl, _⟩ := h
    rfl
  · obtain ⟨p, l, u, n, ns, rfl, hP, hn, hU, hlu, hns, k⟩ := h
    refine ⟨_, (pss_cons (ps_set (i := 2) sc_l_name.nd rfl (Or.inl rfl) pe_str)
      (pss_cons (ps_set (i := 3) sc_l_name.nd rfl (Or.inl rfl) (pe_ix ix_str (pv 2) (pe_fx D (hr.mono (by decide)) (pa_cons (pv 0) (pa_cons pe_int pa_nil))) (fun _ _ => rfl)))
      (pss_cons (ps_for PassesOwn.never rfl (pi_range1 (by rfl) br (pa_cons (pe_fx PK hr (pa_cons (pv 0) (pa_cons (pe_lst (pa_cons pe_int (pa_cons pe_int (pa_cons pe_int (pa_cons pe_int (pa_cons pe_int (pa_cons pe_int pa_nil))))))) pa_nil))) pa_nil)) (pg_name (i := 4) sc_l_name.nd rfl (Or.inl rfl))
        (pss_one (ps_set (i := 3) sc_l_name.nd rfl (Or.inl rfl) (pe_op op_add_str (pv 3) (pe_ix ix_str (pv 2) (pe_fx D (hr.mono (by decide)) (pa_cons (pv 0) (pa_cons pe_int pa_nil))) (fun _ _ => rfl))))))
      (C8.pss_cut (ps_for PassesOwn.never rfl (pi_range1 (by rfl) br (pa_cons (pe_op op_add (pe_callB lenH (by rfl) bn (by decide +kernel) (pa_cons (pv 1) pa_nil)) pe_int) pa_nil)) (pg_name (i := 4) sc_l_name.nd rfl (Or.inl rfl))
        (pss_cons (ps_if (pt_cmpR op_notIn_seq (pv 3) (pv 1) rfl) (pss_one ps_break) pss_nil)
        (pss_one (ps_set (i := 3) sc_l_name.nd rfl (Or.inl rfl) (pe_op op_add_str (pe_slice sl_str (pv 3) po_none (po_some pe_int)) (pe_callTy call_str_int (by rfl) bs (by decide +kernel) (pa_cons (pe_op op_add pe_int (pv 4)) pa_nil)))))))
      (pss_cons (ps_expr (pe_bm PySem.F.plainAttrs_list PySem.F.slot_list_append PySem.F.type_list_append mt_append (pv 1) (pa_cons (pv 3) pa_nil)))
      (pss_one (ps_ret (pv 3)))))))), ?_⟩
    have big : ∀ {m : Nat}, m ≤ 1000 → m ≤ sizeLine := fun h => Nat.le_of_lt (lsz h)
    have nup := hP.un hU
    have uat : ∀ {H' : Hp}, Gr T (mask p H) (mask p H') → H' u = some (.lst (ns.map V.str)) := fun {H'} g => by
      have := g.ext u (.lst (ns.map V.str)) (by rw [mask_ne nup]; exact hU) (fun _ z => by cases z)
      rwa [mask_ne nup] at this
    have al : alphabet.length ≤ sizeLine := by rw [len_tl, alpha_len]; exact big (by decide)
    -- the first sign
    refine ⟨_, rfl, _, rfl, p, l, n, 26, rfl, hP, by omega, by decide, by decide, fun d H1 d0 d1 hP1 e1 => ?_⟩
    obtain ⟨c, hc, _, hlow⟩ := alpha_at d0 (by omega)
    refine ⟨alphabet, d, c, rfl, rfl, al, hc, ?_⟩
    have g1 : Gr T (mask p H) (mask p H1) := by rw [e1]; exact .refl T _
    -- more signs
    refine ⟨_, rfl, (by show 6 ≤ sizeLine; exact big (by decide)), fun q hq => ?_⟩
    refine ⟨p, l, q, n + 1, _, rfl, hP1.gr (Gr.new hq), by omega, .inl (SqL.of upd_same), (by show 0 < 6; decide), (by show 6 < 1000; decide), fun v H2 hv hP2 e2 => ?_⟩
    obtain ⟨m, hm, rfl⟩ := pick_of [0, 0, 1, 2, 4, 7] hv
    have hm0 : 0 ≤ m ∧ m ≤ 7 := by
      simp only [List.mem_cons, List.not_mem_nil, or_false] at hm
      omega
    have g2 : Gr T (mask p H) (mask p H2) := by
      rw [e2]
      exact g1.trans (Gr.new (T := T) hq).mask
    refine ⟨m, rfl, by omega, by omega, ?_⟩
    refine for_range (lo := 0) (n := m.toNat) (fun i σ' H' => ∃ (x : Str) (v4 : Option V), σ' = [some (.ref p), some (.ref u), some (.str alphabet), some (.str x), v4] ∧ NameW (i + 1) x ∧ PT T H' p l (n + 2 + i) ∧ Gr T (mask p H) (mask p H'))
      ⟨⟨#[c]⟩, none, rfl, ⟨c, [], rfl, hlow d1, (fun d hd => by cases hd), Nat.le_refl _⟩, hP2, g2⟩ ?_ ?_
    · rintro i σ' H3 hi ⟨x, v4, rfl, hx, hP3, g3⟩
      refine ⟨_, rfl, _, rfl, _, rfl, p, l, n + 2 + i, 36, rfl, hP3, by omega, by decide, by decide, fun d H4 d0 d1 hP4 e4 => ?_⟩
      obtain ⟨c, hc, hs, _⟩ := alpha_at d0 d1
      refine ⟨alphabet, d, c, rfl, rfl, al, hc, _, _, rfl, rfl, ?_, ?_⟩
      · have := hx.len
        show x.length + 1 ≤ sizeLine
        exact big (by omega)
      · refine ⟨_, _, rfl, ?_, hP4, by rw [e4]; exact g3⟩
        obtain ⟨c0, r, e, h1, h2, h3⟩ := hx.ex
        refine ⟨c0, r ++ [c], by rw [tl_append, e]; rfl, h1, fun b hb => ?_, by rw [List.length_append]; show r.length + 1 + 1 ≤ i + 1 + 1; omega⟩
        rcases List.mem_append.mp hb with z | z
        · exact h2 b z
        · rw [List.mem_singleton.mp z]
          exact hs
    · rintro σ' H3 ⟨x, v4, rfl, hx, hP3, g3⟩
      -- one that is not used
      refine ⟨fun σ' H' => ∃ (y : Str) (v4 : Option V), σ' = [some (.ref p), some (.ref u), some (.str alphabet), some (.str y), v4] ∧ NameW 11 y ∧ y ∉ ns ∧ H' = H3, ?_, ?_⟩
      · refine ⟨_, rfl, false, u, _, rfl, uat g3, _, _, rfl, rfl, ?_⟩
        refine ⟨_, rfl, by rw [List.length_map]; omega, by rw [List.length_map]; omega, ?_⟩
        rw [List.length_map, show ((ns.length : Int) + 1).toNat = ns.length + 1 by omega]
        refine for_range (lo := 0) (n := ns.length + 1) (fun i σ' H' => ∃ (y : Str) (v4 : Option V) (cs : List Str), σ' = [some (.ref p), some (.ref u), some (.str alphabet), some (.str y), v4] ∧ NameW 11 y ∧ H' = H3 ∧
          (∀ j c, cs[j]? = some c → Suf j c ∧ c ∈ ns) ∧ cs.length = i - 1 ∧ (0 < i → Suf (i - 1) y))
          ⟨x, v4, [], rfl, hx.mono (by omega), rfl, (fun j c h => by simp at h), rfl, (fun h => absurd h (Nat.lt_irrefl _))⟩ ?_ ?_
        · rintro i σ' H4 hi ⟨y, v4, cs, rfl, hy, rfl, hcs, lcs, hsuf⟩
          refine ⟨_, rfl, _, rfl, u, _, rfl, .inl (SqL.of (uat g3)), rfl, flat_strs ns, _, rfl, ?_⟩
          rw [inV_str]
          refine ite2 (fun h => ?_) (fun h => ?_)
          · exact ⟨y, _, rfl, hy.mono (by decide), by simpa using h, rfl⟩
          · have h : y ∈ ns := by simpa using h
            have ly := hy.len
            have ny := cut8 hy
            have l8 := ny.len
            refine ⟨_, rfl, 8, rfl, y, rfl, big (by omega), _, rfl, _, _, rfl, rfl, _, rfl, ?_, ?_⟩
            · have : (100 + (0 + (i : Int))).natAbs = 100 + i := by omega
              rw [this]
              exact Nat.lt_of_le_of_lt (Nat.log2_le_self _) (by omega)
            have e : (100 + (0 + (i : Int)) : Int) = ((100 + i : Nat) : Int) := by omega
            rw [e]
            have nn := name_suf ny (i := i) (by omega)
            refine ⟨_, _, rfl, rfl, ?_, _, _, (if i = 0 then [] else cs ++ [y]), rfl, nn, rfl, ?_, ?_, fun _ => ⟨_, rfl⟩⟩
            · have := nn.len
              rw [len_tl, tl_append, List.length_append, ← len_tl, ← len_tl] at this
              show _ + (numS (100 + i)).length ≤ _
              exact big (by omega)
            · intro j c hj
              split at hj
              · simp at hj
              · rcases Nat.lt_or_ge j cs.length with z | z
                · rw [List.getElem?_append_left z] at hj
                  exact hcs j c hj
                · rw [List.getElem?_append_right z] at hj
                  have : j = cs.length := by
                    rcases Nat.eq_zero_or_pos (j - cs.length) with q | q
                    · omega
                    · rw [List.getElem?_singleton, if_neg (by omega)] at hj
                      cases hj
                  subst this
                  rw [Nat.sub_self] at hj
                  have : y = c := by simpa using hj
                  subst this
                  rw [lcs]
                  exact ⟨hsuf (by omega), h⟩
            · split
              · simp; omega
              · rw [List.length_append, lcs]
                show i - 1 + 1 = i + 1 - 1
                omega
        · rintro σ' H4 ⟨y, v4, cs, rfl, hy, rfl, hcs, lcs, hsuf⟩
          refine ⟨y, _, rfl, hy.mono (by decide), fun hm => ?_, rfl⟩
          have sy := hsuf (by omega)
          have nd : cs.Nodup := by
            refine List.pairwise_iff_getElem.mpr fun i j hi hj hij z => ?_
            have a := (hcs i _ (List.getElem?_eq_getElem (by omega))).1
            have b := (hcs j _ (List.getElem?_eq_getElem hj)).1
            rw [z] at a
            have := a.inj b (by omega) (by omega)
            omega
          have hin := nodup_all nd (fun c hc => by
            obtain ⟨j, hj, e⟩ := List.getElem_of_mem hc
            exact (hcs j c (by rw [List.getElem?_eq_getElem hj, e])).2) (by omega) hm
          obtain ⟨j, hj, e⟩ := List.getElem_of_mem hin
          have a := (hcs j y (by rw [List.getElem?_eq_getElem hj, e])).1
          have := a.inj sy (by omega) (by omega)
          omega
      · rintro σ' H4 ⟨y, v4, rfl, hy, hnot, rfl⟩
        refine ⟨_, rfl, .inl ⟨rfl, _, SqL.of (uat g3)⟩, _, rfl, u, _, _, rfl, rfl, uat g3, (by rw [List.length_map]; exact lsz (by omega)), ?_⟩
        refine ⟨_, rfl, k y _ hy hnot ⟨?_, ?_⟩ ?_⟩
        · exact (hP3.put hlu (uat g3) (fun _ z => by cases z) (fun _ z => by cases z)).mono (by omega)
        · rw [mask_put nup]
          exact g3.mask
        · rw [List.map_append]
          exact upd_same
end
end Z
set_option Elab.async false
set_option linter.all false
set_option maxRecDepth 100000
set_option maxHeartbeats 2000000
namespace Z
open PySem L2 PyProof.Rows ZX GX TL
abbrev s_l_names : Stmt := topS 31
theorem sc_l_names : FnScope ["_law_pen_here", "_law_many", "_law_used", "_law_k"] ["_law_pen_here", "_law_many"] (defScope s_l_names) := ⟨rfl, rfl, rfl, by decide +kernel, rfl, by decide +kernel, by decide +kernel⟩
theorem Gr.unmask {T : List Addr} {A B B' : Hp} {u : Addr} (h : A u = none) (g : Gr T A B) (g' : Gr T (Z.mask u B) (Z.mask u B')) : Gr T A B' := by
  have tabs : ∀ {P}, P ≠ u → (GxR.TabG B P ↔ GxR.TabG (Z.mask u B) P) := fun {P} ne => by
    unfold GxR.TabG
    rw [mask_ne ne]
  refine ⟨fun b o e n => ?_, fun P t => ?_, fun b e => ?_, fun P n ps e => ?_⟩
  · have ne : b ≠ u := fun z => by rw [z, h] at e; cases e
    have := g'.ext b o (by rw [mask_ne ne]; exact g.ext b o e n) n
    rwa [mask_ne ne] at this
  · have ne : P ≠ u := fun z => by
      obtain ⟨ps, e, _⟩ := t
      rw [z, h] at e
      cases e
    obtain ⟨ps, e, q⟩ := g.tab P t
    obtain ⟨ps', e', q'⟩ := g'.tab P ⟨ps, by rw [mask_ne ne]; exact e, q⟩
    exact ⟨ps', by rw [mask_ne ne] at e'; exact e', q'⟩
  · by_cases z : b = u
    · rw [z]
      exact h
    · refine g.stay b ?_
      have := g'.stay b (by rw [mask_ne z]; exact e)
      rwa [mask_ne z] at this
  · have ne : P ≠ u := fun z => by rw [z, h] at e; cases e
    have := g'.keep P n ps (by rw [mask_ne ne]; exact g.keep P n ps e)
    rwa [mask_ne ne] at this
/-- a list of names -/
def Names (H : Hp) (v : V) (ns : List Str) : Prop := ∃ a, v = .ref a ∧ H a = some (.lst (ns.map V.str))
theorem Names.ext {H H' : Hp} {v : V} {ns : List Str} (x : Ext H H') (h : Names H v ns) : Names H' v ns := by
  obtain ⟨a, e, q⟩ := h
  exact ⟨a, e, x _ _ q fun _ z => by cases z⟩
def spNames (T : List Addr) : Sp := fun vs H Q _ => ∃ (p l : Addr) (n m : Nat), vs = [.ref p, .int (m : Int)] ∧ PT T H p l n ∧ n < 2 ^ 38 ∧ m ≤ 20 ∧
  ∀ (v : V) (ns : List Str) (H' : Hp), ns.length = m → ns.Nodup → (∀ x ∈ ns, NameW 11 x) → PT T H' p l (n + 9 * m) → Gr T (mask p H) (mask p H') → Names (mask p H') v ns → Q v H'
theorem mask_upd_ne {p q : Addr} {H : Hp} {o : HO} (h : q ≠ p) : mask p (upd H q o) = upd (mask p H) q o := by
  funext b
  by_cases z : b = q
  · rw [z, mask_ne h, upd_same, upd_same]
  · rw [upd_ne z]
    unfold mask
    split
    · rfl
    · exact upd_ne z
theorem PT.cell {T : List Addr} {H : Hp} {p l : Addr} {n : Nat} (h : PT T H p l n) {q : Addr} (e : H q = none) : l ≠ q := fun z => by
  obtain ⟨c, hc, h1⟩ := h.pen
  obtain ⟨ns, a, d, f, e1, e2, e3⟩ := h1.ex
  rw [z, e] at e2
  cases e2
section
variable {P : Program} {w : World} {K : PySem.W.Frag} {mg : Str → Option Value} {base : Heap} {T : List Addr}
theorem ok_l_names {f : Addr} {fd : FuncData} (F : Fun K "_law_names" "_law_names" s_l_names f fd) (br : mg "range" = none) (NM : Fx P w K mg base "_law_name" 3 ["_law_pen_here", "_law_used"] (spName T)) :
    FnOk P w K mg base CX0 4 f fd ["_law_pen_here", "_law_many"] (spNames T) := by
  refine F.ok sc_l_names (fun vs H Q E h => ?_) (fun cdv A outer s H vs Q E hr h => ?_)
  · obtain ⟨p, l, n, m, rfl, _⟩ := h
    rfl
  · obtain ⟨p, l, n, m, rfl, hP, hn, hm, k⟩ := h
    refine ⟨_, (pss_cons (ps_set (i := 2) sc_l_names.nd rfl (Or.inr rfl) (pe_lst pa_nil))
      (pss_one (ps_ret (pe_lc (own := [("_law_k", 3)]) (g := gName 3) (tt := tYes) rfl sc_l_names.nd (pi_range1 (by rfl) br (pa_cons (pv 1) pa_nil)) (blkOk_by (own := [("_law_k", 3)]) (N := ["_law_pen_here", "_law_many", "_law_used", "_law_k"]) (sc := defScope s_l_names) (by decide +kernel))
        (fun _ _ _ _ _ => pg_name (i := 3) sc_l_names.nd rfl (Or.inl rfl)) (fun _ _ _ _ _ => pts_nil) (fun _ _ _ _ _ => pe_fx NM hr (pa_cons (pv 0) (pa_cons (pv 2) pa_nil))))))), ?_⟩
    refine ⟨(by show 0 ≤ sizeLine; exact Nat.zero_le _), fun u hu => ?_⟩
    have nup := hP.fresh hu
    have hlu := hP.cell hu
    have hP1 : PT T (upd H u (.lst [])) p l n := hP.gr (Gr.new hu)
    have g1 : Gr T (mask p H) (mask p (upd H u (.lst []))) := (Gr.new (T := T) hu).mask
    refine ⟨_, rfl, m, rfl, by omega, by omega, fun D hD => ?_⟩
    rw [Int.toNat_natCast]
    have nDp := hP1.fresh hD
    have hlD := hP1.cell hD
    have nDu : D ≠ u := fun z => by rw [z, upd_same] at hD; cases hD
    have hD0 : H D = none := by rw [upd_ne nDu] at hD; exact hD
    refine lc_it walk_range (fun i H' => ∃ ns : List Str, H' D = some (.lst (ns.map V.str)) ∧ H' u = some (.lst (ns.map V.str)) ∧ ns.length = i ∧ ns.Nodup ∧ (∀ x ∈ ns, NameW 11 x) ∧ PT T H' p l (n + 9 * i) ∧ Gr T (mask p H) (mask p H'))
      ⟨[], upd_same, (by rw [upd_ne nDu.symm]; exact upd_same), rfl, List.nodup_nil, (fun x hx => by cases hx), hP1.gr (Gr.new hD), g1.trans (Gr.new (T := T) hD).mask⟩ (fun _ _ _ _ => True.intro) ?_ ?_
    · rintro i x H1 H2 hi ⟨ns, e1, e2, l1, nd, nm, hP2, g2⟩ hy
      obtain ⟨rfl, rfl⟩ := hy
      refine ⟨rfl, ?_⟩
      dsimp only [tYes]
      refine iteT ?_
      refine ⟨_, rfl, _, rfl, p, l, u, n + 9 * i, ns, rfl, hP2, by omega, e2, hlu, by omega, fun x H3 hx hnot dg hu3 => ?_⟩
      have mD : (mask u (mask p H2)) D = some (.lst (ns.map V.str)) := by rw [mask_ne nDu, mask_ne nDp]; exact e1
      have e3 : H3 D = some (.lst (ns.map V.str)) := by
        have := dg.gr.ext _ _ mD (fun _ z => by cases z)
        rwa [mask_ne nDu, mask_ne nDp] at this
      refine ⟨_, e3, by rw [List.length_map]; exact lsz (by omega), ns ++ [x], by rw [List.map_append]; exact upd_same, by rw [upd_ne nDu.symm]; exact hu3, by rw [List.length_append, l1]; rfl, ?_, ?_, ?_, ?_⟩
      · refine List.nodup_append.mpr ⟨nd, List.nodup_cons.mpr ⟨by simp, List.nodup_nil⟩, ?_⟩
        intro a ha b hb z
        rw [List.mem_singleton.mp hb] at z
        exact hnot (z ▸ ha)
      · intro y hy
        rcases List.mem_append.mp hy with z | z
        · exact nm y z
        · rw [List.mem_singleton.mp z]
          exact hx
      · exact (dg.pt.put hlD e3 (fun _ z => by cases z) (fun _ z => by cases z)).mono (by omega)
      · rw [mask_upd_ne nDp]
        exact (Gr.unmask (u := u) (by rw [mask_ne nup]; exact hu) g2 dg.gr).upd (by rw [mask_ne nDp]; exact hD0)
    · rintro H1 ⟨ns, e1, e2, l1, nd, nm, hP2, g2⟩
      exact k _ ns H1 l1 nd nm hP2 g2 ⟨D, rfl, by rw [mask_ne nDp]; exact e1⟩
end
end Z
set_option Elab.async false
set_option linter.all false
set_option maxRecDepth 100000
set_option maxHeartbeats 2000000
namespace Z
open PySem L2 PyProof.Rows ZX GX TL
/-! links that the law draws -/
abbrev s_l_links : Stmt := topS 32
theorem sc_l_links : FnScope ["_law_pen_here", "_law_free", "_law_found", "_law_left", "_law_lap", "_law_name_here"] ["_law_pen_here", "_law_free"] (defScope s_l_links) := ⟨rfl, rfl, rfl, by decide +kernel, rfl, by decide +kernel, by decide +kernel⟩
abbrev Item := Str × Nat
def ItemV (H : Hp) (v : V) (it : Item) : Prop := ∃ a, v = .ref a ∧ H a = some (.tup [.str it.1, .int (it.2 : Int)])
theorem ItemV.ext {H H' : Hp} {v : V} {it : Item} (x : Ext H H') (h : ItemV H v it) : ItemV H' v it := by
  obtain ⟨a, e, q⟩ := h
  exact ⟨a, e, x _ _ q fun _ z => by cases z⟩
theorem ItemV.put {H : Hp} {v : V} {it : Item} {q : Addr} {o o' : HO} (hq : H q = some o) (no : ∀ xs, o ≠ .tup xs) (h : ItemV H v it) : ItemV (upd H q o') v it := by
  obtain ⟨a, e, h⟩ := h
  refine ⟨a, e, ?_⟩
  rw [upd_ne]
  · exact h
  · intro z
    rw [z, hq] at h
    exact no _ (Option.some.inj h)
def ItemsV (H : Hp) (v : V) (its : List Item) : Prop := ∃ a vs, v = .ref a ∧ H a = some (.lst vs) ∧ All2 (ItemV H) vs its
theorem ItemsV.ext {H H' : Hp} {v : V} {its : List Item} (x : Ext H H') (h : ItemsV H v its) : ItemsV H' v its := by
  obtain ⟨a, vs, e, q, m⟩ := h
  exact ⟨a, vs, e, x _ _ q (fun _ z => by cases z), m.mono fun _ _ => ItemV.ext x⟩
theorem Gr.ofeq {T : List Addr} {A B : Hp} (e : B = A) : Gr T A B := by
  rw [e]
  exact .refl T _
theorem Gr.stay' {T : List Addr} {A B : Hp} {p b : Addr} (g : Gr T (Z.mask p A) (Z.mask p B)) (nb : b ≠ p) (e : B b = none) : A b = none := by
  have := g.stay b (by rw [mask_ne nb]; exact e)
  rwa [mask_ne nb] at this
/-- what is new -/
def nw (H H' : Hp) : Hp := fun b => match H b with | none => H' b | some _ => none
theorem nw_at {H H' : Hp} {b : Addr} (h : H b = none) : nw H H' b = H' b := by
  unfold nw
  rw [h]
theorem nw_old {H H' : Hp} {b : Addr} {o : HO} (h : H b = some o) : nw H H' b = none := by
  unfold nw
  rw [h]
theorem nw_upd {H H' : Hp} {q : Addr} {o : HO} (h : H q = none) : nw H (L2.upd H' q o) = L2.upd (nw H H') q o := by
  funext b
  by_cases z : b = q
  · rw [z, nw_at h, upd_same, upd_same]
  · rw [upd_ne z]
    unfold nw
    cases H b with
    | none => exact upd_ne z
    | some _ => rfl
theorem nw_some {H H' : Hp} {b : Addr} {o : HO} (e : nw H H' b = some o) : H b = none ∧ H' b = some o := by
  cases h : H b with
  | none =>
    rw [nw_at h] at e
    exact ⟨rfl, e⟩
  | some u =>
    rw [nw_old h] at e
    cases e
theorem nw_ext {T : List Addr} {H A B : Hp} {p : Addr} (hp : ∃ o, H p = some o) (g : Gr T (Z.mask p A) (Z.mask p B)) : Ext (nw H A) (nw H B) := fun b o e n => by
  obtain ⟨h, e⟩ := nw_some e
  have nb : b ≠ p := fun z => by
    obtain ⟨u, hp⟩ := hp
    rw [← z, h] at hp
    cases hp
  have := g.ext b o (by rw [mask_ne nb]; exact e) n
  rw [mask_ne nb] at this
  rw [nw_at h]
  exact this
theorem nw_le {H H' : Hp} : Ext (nw H H') H' := fun b o e _ => (nw_some e).2
theorem nw_mask {H A : Hp} {p : Addr} (hp : ∃ o, H p = some o) : Ext (nw H A) (Z.mask p A) := fun b o e n => by
  obtain ⟨h, e⟩ := nw_some e
  rw [mask_ne]
  · exact e
  · intro z
    obtain ⟨u, hp⟩ := hp
    rw [← z, h] at hp
    cases hp
theorem nw_sub {H1 H H' : Hp} (s : ∀ b, H1 b = none → H b = none) : Ext (nw H1 H') (nw H H') := fun b o e n => by
  obtain ⟨h, e⟩ := nw_some e
  rw [nw_at (s b h)]
  exact e
theorem PT.hp {T : List Addr} {H : Hp} {p l : Addr} {n : Nat} (h : PT T H p l n) : ∃ o, H p = Option.some o := by
  obtain ⟨c, _, h1⟩ := h.pen
  obtain ⟨ns, a, d, f, e1, _⟩ := h1.ex
  exact ⟨_, e1⟩
/-- links of a mend: helpers among the free ones, each once, amounts -/
structure ItemsOk (free : List Str) (its : List Item) : Prop where
  pos : 1 ≤ its.length
  few : its.length ≤ 3
  nd : (its.map (·.1)).Nodup
  sub : ∀ it ∈ its, it.1 ∈ free
  amt : ∀ it ∈ its, 1 ≤ it.2 ∧ it.2 ≤ 40
def spLinks (T : List Addr) (K : PySem.W.Frag) : Sp := fun vs H Q _ => ∃ (p l fr : Addr) (n : Nat) (free : List Str), vs = [.ref p, .ref fr] ∧ PT T H p l n ∧ n < 2 ^ 38 ∧ H fr = some (.lst (free.map V.str)) ∧ free.Nodup ∧ 1 ≤ free.length ∧ free.length ≤ 20 ∧
  ∀ (v : V) (its : List Item) (H' : Hp), ItemsOk free its → PT T H' p l (n + 20) → Gr T (mask p H) (mask p H') → ItemsV (nw H H') v its → Q v H'
theorem seq_at {i : Int} {n : Nat} (h0 : 0 ≤ i) (h1 : i < n) : seqIndex? i n = some i.toNat := by
  unfold seqIndex?
  simp
  omega
theorem erase_map {α β : Type} (g : α → β) : ∀ (xs : List α) (j : Nat), (xs.map g).eraseIdx j = (xs.eraseIdx j).map g
  | [], _ => rfl
  | _ :: _, 0 => rfl
  | x :: xs, j + 1 => congrArg (g x :: ·) (erase_map g xs j)
theorem perm_take {α : Type} : ∀ {xs : List α} {j : Nat} (h : j < xs.length), (xs[j] :: xs.eraseIdx j).Perm xs
  | [], _, h => absurd h (Nat.not_lt_zero _)
  | x :: xs, 0, _ => .refl _
  | x :: xs, j + 1, h => (List.Perm.swap x _ _).trans ((perm_take (xs := xs) (j := j) (Nat.lt_of_succ_lt_succ h)).cons x)
section
variable {P : Program} {w : World} {K : PySem.W.Frag} {mg : Str → Option Value} {base : Heap} {T : List Addr}
theorem ok_l_links {f : Addr} {fd : FuncData} (F : Fun K "_law_some_links" "_law_some_links" s_l_links f fd) (br : mg "range" = none) (bn : mg "len" = none) (bl : mg "list" = none) (bm : mg "min" = none) (D : Fx P w K mg base "_law_draw" 1 ["_law_pen_here", "_law_many"] (spDr T)) (PK : Fx P w K mg base "_law_pick" 2 ["_law_pen_here", "_law_some"] (spPk T K)) :
    FnOk P w K mg base CX0 3 f fd ["_law_pen_here", "_law_free"] (spLinks T K) := by
  refine F.ok sc_l_links (fun vs H Q E h => ?_) (fun cdv A outer s H vs Q E hr h => ?_)
  · obtain ⟨p, l, fr, n, free, rfl, _⟩ := h
    rfl
  · obtain ⟨p, l, fr, n, free, rfl, hP, hn, hF, nd, l1, l20, k⟩ := h
    have hr1 : Room 1 _ := hr.mono (by decide)
    refine ⟨_, (pss_cons (ps_par (i := 2) (j := 3) (by rfl) sc_l_links.nd rfl rfl (by decide) rfl rfl (pa_cons (pe_lst pa_nil) (pa_cons (pe_callTy (call_listK K) (by rfl) bl (by decide +kernel) (pa_cons (pv 1) pa_nil)) pa_nil)) (by rfl))
      (pss_cons (ps_for PassesOwn.never rfl (pi_range1 (by rfl) br (pa_cons (pe_op op_add pe_int (pe_fx D hr1 (pa_cons (pv 0) (pa_cons (pe_callB (cr_min (by rfl)) (by rfl) bm (by decide +kernel) (pa_cons (pe_lst (pa_cons pe_int (pa_cons (pe_callB lenH (by rfl) bn (by decide +kernel) (pa_cons (pv 3) pa_nil)) pa_nil))) pa_nil)) pa_nil)))) pa_nil)) (pg_name (i := 4) sc_l_links.nd rfl (Or.inl rfl))
        (pss_cons (ps_set (i := 5) sc_l_links.nd rfl (Or.inl rfl) (pe_bm PySem.F.plainAttrs_list PySem.F.slot_list_pop PySem.F.type_list_pop mt_popAt (pv 3) (pa_cons (pe_fx D hr1 (pa_cons (pv 0) (pa_cons (pe_callB lenH (by rfl) bn (by decide +kernel) (pa_cons (pv 3) pa_nil)) pa_nil))) pa_nil)))
        (pss_one (ps_expr (pe_bm PySem.F.plainAttrs_list PySem.F.slot_list_append PySem.F.type_list_append mt_append (pv 2) (pa_cons (pe_tup (pa_cons (pv 5) (pa_cons (pe_fx PK hr (pa_cons (pv 0) (pa_cons (pe_lst (pa_cons pe_int (pa_cons pe_int (pa_cons pe_int (pa_cons pe_int (pa_cons (pe_op op_add pe_int (pe_fx D hr1 (pa_cons (pv 0) (pa_cons pe_int pa_nil)))) pa_nil)))))) pa_nil))) pa_nil))) pa_nil))))))
      (pss_one (ps_ret (pv 2))))), ?_⟩
    have big : ∀ {m : Nat}, m ≤ 1000 → m ≤ sizeLine := fun h => Nat.le_of_lt (lsz h)
    refine ⟨(by show 0 ≤ sizeLine; exact Nat.zero_le _), fun fa hfa => ?_⟩
    have nfp := hP.fresh hfa
    have nff : fr ≠ fa := fun z => by rw [z, hfa] at hF; cases hF
    have hF1 : upd H fa (.lst []) fr = some (.lst (free.map V.str)) := by rw [upd_ne nff]; exact hF
    refine ⟨_, rfl, fr, _, rfl, .inl (SqL.of hF1), fun la hla => ?_⟩
    have nla : la ≠ fa := fun z => by rw [z, upd_same] at hla; cases hla
    have hla0 : H la = none := by rw [upd_ne nla] at hla; exact hla
    have nlp := hP.fresh hla0
    have hP2 : PT T (upd (upd H fa (.lst [])) la (.lst (free.map V.str))) p l n := (hP.gr (Gr.new hfa)).gr (Gr.new hla)
    have g2 : Gr T (mask p H) (mask p (upd (upd H fa (.lst [])) la (.lst (free.map V.str)))) := (Gr.new (T := T) hfa).mask.trans (Gr.new (T := T) hla).mask
    -- how many
    refine ⟨_, _, rfl, _, rfl, _, rfl, false, la, _, rfl, upd_same, (by show 2 ≤ sizeLine; exact big (by decide)), fun q hq => ?_⟩
    refine ⟨q, [3, ((free.map V.str).length : Int)], rfl, SqL.of upd_same, (by show 0 < 2; decide), fun m hm hle => ?_⟩
    have hm1 : 1 ≤ m ∧ m ≤ 3 ∧ m ≤ free.length := by
      have a := hle 3 (by simp)
      have b := hle _ (by simp : ((free.map V.str).length : Int) ∈ [(3 : Int), ((free.map V.str).length : Int)])
      rw [List.length_map] at b hm
      simp only [List.mem_cons, List.not_mem_nil, or_false] at hm
      omega
    refine ⟨p, l, n, m, rfl, hP2.gr (Gr.new hq), by omega, by omega, by omega, fun d H3 d0 d1 hP3 e3 => ?_⟩
    have g3 : Gr T (mask p H) (mask p H3) := by rw [e3]; exact g2.trans (Gr.new (T := T) hq).mask
    have nqf : fa ≠ q := fun z => by rw [← z, upd_ne nla.symm, upd_same] at hq; cases hq
    have nql : la ≠ q := fun z => by rw [← z, upd_same] at hq; cases hq
    have at3 : ∀ {b : Addr} {o : HO}, b ≠ p → (upd (upd (upd H fa (.lst [])) la (.lst (free.map V.str))) q (.lst [.int 3, .int ((free.map V.str).length : Int)])) b = some o → H3 b = some o := fun {b o} nb e => by
      have := congrFun e3 b
      rw [mask_ne nb, mask_ne nb] at this
      rw [this]
      exact e
    have ef3 : H3 fa = some (.lst []) := at3 nfp (by rw [upd_ne nqf, upd_ne nla.symm, upd_same])
    have el3 : H3 la = some (.lst (free.map V.str)) := at3 nlp (by rw [upd_ne nql, upd_same])
    refine ⟨_, _, rfl, rfl, _, rfl, by omega, by omega, ?_⟩
    obtain ⟨c, hc⟩ : ∃ c : Nat, (1 + d : Int) = (c : Int) := ⟨(1 + d).toNat, by omega⟩
    rw [hc, Int.toNat_natCast]
    refine for_range (lo := 0) (n := c) (fun i σ' H' => ∃ (v4 v5 : Option V) (vs : List V) (its : List Item) (rest : List Str), σ' = [some (.ref p), some (.ref fr), some (.ref fa), some (.ref la), v4, v5] ∧
        H' fa = some (.lst vs) ∧ H' la = some (.lst (rest.map V.str)) ∧ All2 (ItemV (nw H H')) vs its ∧ its.length = i ∧ (its.map (·.1) ++ rest).Perm free ∧ (∀ it ∈ its, 1 ≤ it.2 ∧ it.2 ≤ 40) ∧ PT T H' p l (n + 1 + 3 * i) ∧ Gr T (mask p H) (mask p H'))
      ⟨none, none, [], [], free, rfl, ef3, el3, .nil, rfl, .refl _, (fun _ h => by cases h), hP3, g3⟩ ?_ ?_
    · rintro i σ' H4 hi ⟨v4, v5, vs, its, rest, rfl, ef, el, hA, li, pm, am, hP4, g4⟩
      have lr := pm.length_eq
      rw [List.length_append, List.length_map, li] at lr
      have lr0 : 0 < rest.length := by omega
      refine ⟨_, rfl, .inl ⟨rfl, _, SqL.of el⟩, _, rfl, _, rfl, false, la, _, rfl, el, ?_⟩
      refine ⟨p, l, n + 1 + 3 * i, _, rfl, hP4, by omega, by rw [List.length_map]; omega, by rw [List.length_map]; omega, fun j H5 j0 j1 hP5 e5 => ?_⟩
      rw [List.length_map] at j1
      have ef5 : H5 fa = some (.lst vs) := by
        have := congrFun e5 fa
        rw [mask_ne nfp, mask_ne nfp] at this
        rw [this, ef]
      have el5 : H5 la = some (.lst (rest.map V.str)) := by
        have := congrFun e5 la
        rw [mask_ne nlp, mask_ne nlp] at this
        rw [this, el]
      have hj : j.toNat < rest.length := by omega
      refine ⟨la, _, j, j.toNat, .str rest[j.toNat], rfl, rfl, el5, by omega, by omega, seq_at j0 (by rw [List.length_map]; omega), by rw [List.getElem?_map, List.getElem?_eq_getElem hj]; rfl, ?_⟩
      have er : (rest.map V.str).eraseIdx j.toNat = (rest.eraseIdx j.toNat).map V.str := erase_map _ _ _
      rw [er]
      have hP6 : PT T (upd H5 la (.lst ((rest.eraseIdx j.toNat).map V.str))) p l (n + 1 + 3 * i + 1) := hP5.put (hP.cell hla0) el5 (fun _ z => by cases z) (fun _ z => by cases z)
      have m6 : mask p (upd H5 la (.lst ((rest.eraseIdx j.toNat).map V.str))) = upd (mask p H4) la (.lst ((rest.eraseIdx j.toNat).map V.str)) := by rw [mask_upd_ne nlp, e5]
      have g6 : Gr T (mask p H) (mask p (upd H5 la (.lst ((rest.eraseIdx j.toNat).map V.str)))) := by
        rw [m6]
        exact g4.upd (by rw [mask_ne nlp]; exact hla0)
      have A6 : All2 (ItemV (nw H (upd H5 la (.lst ((rest.eraseIdx j.toNat).map V.str))))) vs its := by
        rw [nw_upd hla0]
        exact hA.mono fun _ _ h => (h.ext (nw_ext (T := T) hP.hp (.ofeq e5))).put (by rw [nw_at hla0]; exact el5) (fun _ z => by cases z)
      have el6 : (upd H5 la (.lst ((rest.eraseIdx j.toNat).map V.str))) la = some (.lst ((rest.eraseIdx j.toNat).map V.str)) := upd_same
      have ef6 : (upd H5 la (.lst ((rest.eraseIdx j.toNat).map V.str))) fa = some (.lst vs) := by rw [upd_ne nla.symm]; exact ef5
      generalize upd H5 la (.lst ((rest.eraseIdx j.toNat).map V.str)) = H6 at hP6 g6 A6 el6 ef6 ⊢
      -- the amount
      refine ⟨_, rfl, .inl ⟨rfl, _, SqL.of ef6⟩, _, rfl, _, rfl, _, rfl, p, l, _, 40, rfl, hP6, by omega, by decide, by decide, fun a H7 a0 a1 hP7 e7 => ?_⟩
      refine ⟨_, _, rfl, rfl, (by show 5 ≤ sizeLine; exact big (by decide)), fun q hq => ?_⟩
      refine ⟨p, l, q, _, _, rfl, hP7.gr (Gr.new hq), by omega, .inl (SqL.of upd_same), (by show 0 < 5; decide), (by show 5 < 1000; decide), fun v H8 hv hP8 e8 => ?_⟩
      obtain ⟨z, hz, rfl⟩ := pick_of [1, 1, 2, 3, 1 + a] hv
      obtain ⟨b, rfl⟩ : ∃ b : Nat, z = (b : Int) := ⟨z.toNat, by
        simp only [List.mem_cons, List.not_mem_nil, or_false] at hz
        omega⟩
      have hb : 1 ≤ b ∧ b ≤ 40 := by
        simp only [List.mem_cons, List.not_mem_nil, or_false] at hz
        omega
      have g8' : Gr T (mask p H6) (mask p H8) := by
        rw [e8, ← e7]
        exact (Gr.new (T := T) hq).mask
      have ef8 : H8 fa = some (.lst vs) := by
        have := g8'.ext fa (.lst vs) (by rw [mask_ne nfp]; exact ef6) (fun _ z => by cases z)
        rwa [mask_ne nfp] at this
      have el8 : H8 la = some (.lst ((rest.eraseIdx j.toNat).map V.str)) := by
        have := g8'.ext la (.lst ((rest.eraseIdx j.toNat).map V.str)) (by rw [mask_ne nlp]; exact el6) (fun _ z => by cases z)
        rwa [mask_ne nlp] at this
      refine ⟨(by show 2 ≤ sizeLine; exact big (by decide)), fun t ht => ?_⟩
      have ntp := hP8.fresh ht
      have ntf : fa ≠ t := fun z => by rw [z, ht] at ef8; cases ef8
      have ntl : la ≠ t := fun z => by rw [z, ht] at el8; cases el8
      have lvs := hA.length
      refine ⟨fa, vs, _, rfl, rfl, by rw [upd_ne ntf]; exact ef8, lsz (by omega), ?_⟩
      refine ⟨_, _, vs ++ [.ref t], its ++ [(rest[j.toNat], b)], rest.eraseIdx j.toNat, rfl, upd_same, by rw [upd_ne nla, upd_ne ntl]; exact el8, ?_, by rw [List.length_append, li]; rfl, ?_, ?_, ?_, ?_⟩
      · have t0 : H t = none := (g6.trans g8').stay' ntp ht
        rw [nw_upd hfa, nw_upd t0]
        refine All2.snoc ?_ ?_
        · refine A6.mono fun _ _ h => ItemV.put (o := .lst vs) ?_ (fun _ z => by cases z) ((h.ext (nw_ext hP.hp g8')).ext (Gr.new (T := T) ?_).ext)
          · rw [upd_ne ntf, nw_at hfa]
            exact ef8
          · rw [nw_at t0]
            exact ht
        · exact ⟨t, rfl, by rw [upd_ne ntf.symm]; exact upd_same⟩
      · rw [List.map_append, List.append_assoc]
        refine List.Perm.trans ?_ pm
        exact List.Perm.append_left _ (perm_take hj)
      · intro it hit
        rcases List.mem_append.mp hit with z | z
        · exact am it z
        · rw [List.mem_singleton.mp z]
          exact hb
      · exact ((hP8.gr (Gr.new ht)).put (hP.cell hfa) (by rw [upd_ne ntf]; exact ef8) (fun _ z => by cases z) (fun _ z => by cases z)).mono (by omega)
      · rw [mask_upd_ne nfp]
        exact (g6.trans (g8'.trans (Gr.new (T := T) ht).mask)).upd (by rw [mask_ne nfp]; exact hfa)
    · rintro σ' H4 ⟨v4, v5, vs, its, rest, rfl, ef, el, hA, li, pm, am, hP4, g4⟩
      have nd2 : (its.map (·.1) ++ rest).Nodup := pm.nodup_iff.mpr nd
      refine ⟨_, rfl, k _ its H4 ⟨by omega, by omega, (List.nodup_append.mp nd2).1, fun it hit => ?_, am⟩ (hP4.mono (by omega)) g4 ⟨fa, vs, rfl, by rw [nw_at hfa]; exact ef, hA⟩⟩
      exact pm.mem_iff.mp (List.mem_append_left _ (List.mem_map.mpr ⟨it, hit, rfl⟩))
end
end Z
set_option Elab.async false
set_option linter.all false
set_option maxRecDepth 100000
set_option maxHeartbeats 4000000
namespace Z
open PySem L2 PyProof.Rows ZX GX TL
/-! a mend that the law draws -/
abbrev s_l_mend : Stmt := topS 33
abbrev N_mend : List Str := ["_law_pen_here", "_law_nodes", "_law_label", "_law_node", "_law_free", "_law_mend", "_law_other", "_law_rest", "_law_name_here"]
theorem sc_l_mend : FnScope N_mend ["_law_pen_here", "_law_nodes", "_law_label"] (defScope s_l_mend) := ⟨rfl, rfl, rfl, by decide +kernel, rfl, by decide +kernel, by decide +kernel⟩
structure MendR where
  label : Str
  node : Str
  row : List Item
  two : Option (Str × Nat × List Item)
def MendR.kind (m : MendR) : Str := match m.two with | none => "one" | some _ => "pair"
def MendR.nodes (m : MendR) : List Str := match m.two with | none => [m.node] | some (o, _, _) => [m.node, o]
def MendR.rows (m : MendR) : List (List Item) := match m.two with | none => [m.row] | some (_, _, r) => [m.row, r]
def MendR.swap (m : MendR) : V := match m.two with | none => .non | some (_, c, _) => .int (c : Int)
def mendD (m : MendR) (na ra : Addr) : List (Key × V) := [(.inr "label", .str m.label), (.inr "kind", .str m.kind), (.inr "nodes", .ref na), (.inr "rows", .ref ra), (.inr "swap", m.swap)]
def MendV (H : Hp) (v : V) (m : MendR) : Prop := ∃ a na ra rvs, v = .ref a ∧ H a = some (.dK (mendD m na ra)) ∧ H na = some (.lst (m.nodes.map V.str)) ∧ H ra = some (.lst rvs) ∧ All2 (ItemsV H) rvs m.rows
theorem MendV.ext {H H' : Hp} {v : V} {m : MendR} (x : Ext H H') (h : MendV H v m) : MendV H' v m := by
  obtain ⟨a, na, ra, rvs, e, e1, e2, e3, e4⟩ := h
  exact ⟨a, na, ra, rvs, e, x _ _ e1 (fun _ z => by cases z), x _ _ e2 (fun _ z => by cases z), x _ _ e3 (fun _ z => by cases z), e4.mono fun _ _ => ItemsV.ext x⟩
/-- what a mend's row may hold -/
structure RowOk (names mended : List Str) (its : List Item) : Prop where
  pos : 1 ≤ its.length
  few : its.length ≤ 6
  nd : (its.map (·.1)).Nodup
  sub : ∀ it ∈ its, it.1 ∈ names ∧ it.1 ∉ mended
  amt : ∀ it ∈ its, 1 ≤ it.2 ∧ it.2 ≤ 40
structure MendOk (names : List Str) (m : MendR) : Prop where
  node : m.node ∈ names
  rows : ∀ r ∈ m.rows, RowOk names m.nodes r
  two : ∀ o c r, m.two = some (o, c, r) → o ∈ names ∧ o ≠ m.node ∧ c ≤ 40
theorem ItemsOk.row {free names mended : List Str} {its : List Item} (h : ItemsOk free its) (s : ∀ x ∈ free, x ∈ names ∧ x ∉ mended) : RowOk names mended its :=
  ⟨h.pos, by have := h.few; omega, h.nd, fun it hit => s _ (h.sub it hit), h.amt⟩
theorem Gr.at {T : List Addr} {A B : Hp} {p b : Addr} {o : HO} (g : Gr T (Z.mask p A) (Z.mask p B)) (nb : b ≠ p) (e : A b = some o) (no : ∀ ps, o ≠ .tbl ps) : B b = some o := by
  have := g.ext b o (by rw [mask_ne nb]; exact e) no
  rwa [mask_ne nb] at this
theorem gr_newm {T : List Addr} {p q : Addr} {H : Hp} {o : HO} (h : H q = none) : Gr T (Z.mask p H) (Z.mask p (L2.upd H q o)) := (Gr.new (T := T) h).mask
theorem PT.putD {T : List Addr} {H : Hp} {p l u : Addr} {n : Nat} {kvs : List (Key × V)} {o' : HO} (h : PT T H p l n) (nup : u ≠ p) (hu : H u = some (.dK kvs)) : PT T (L2.upd H u o') p l n := by
  obtain ⟨c, hc, h1⟩ := h.pen
  obtain ⟨ns, a, d, f, e1, e2, e3⟩ := h1.ex
  have hl : l ≠ u := fun z => by
    rw [z, hu] at e2
    cases e2
  refine ⟨⟨c, hc, ⟨ns, a, d, f, by rw [upd_ne nup.symm]; exact e1, by rw [upd_ne hl]; exact e2, e3⟩⟩, fun P hP => ?_⟩
  obtain ⟨ps, q, t⟩ := h.tab P hP
  refine ⟨ps, ?_, t⟩
  rw [upd_ne]
  · exact q
  · intro z
    rw [z, hu] at q
    cases q
theorem ItemsV.put {H : Hp} {v : V} {its : List Item} {q : Addr} {o o' : HO} (hq : H q = some o) (no : ∀ xs, o ≠ .tup xs) (no2 : ∀ xs, o ≠ .lst xs) (h : ItemsV H v its) : ItemsV (L2.upd H q o') v its := by
  obtain ⟨a, vs, e, q1, m⟩ := h
  refine ⟨a, vs, e, ?_, m.mono fun _ _ h => h.put hq no⟩
  rw [upd_ne]
  · exact q1
  · intro z
    rw [z, hq] at q1
    exact no2 _ (Option.some.inj q1)
theorem upd_twice {H : Hp} {a : Addr} {o o' : HO} : L2.upd (L2.upd H a o) a o' = L2.upd H a o' := by
  funext b
  by_cases h : b = a
  · rw [h, upd_same, upd_same]
  · rw [upd_ne h, upd_ne h, upd_ne h]
/-- names that are kept -/
def keepF (nodes : List Str) (y : Str) : List (Option Str) := nodes.map fun x => if x = y then none else some x
theorem keepF_fm (nodes : List Str) (y : Str) : (keepF nodes y).filterMap id = nodes.filter (· ≠ y) := by
  unfold keepF
  rw [List.filterMap_map]
  induction nodes with
  | nil => rfl
  | cons x xs ih =>
    rw [List.filterMap_cons, List.filter_cons]
    by_cases h : x = y
    · subst h
      simpa using ih
    · simp [h]
      simpa using ih
def StrV (_ : Hp) (v : V) (b : Str) : Prop := v = .str b
theorem all_str {H : Hp} : ∀ {ys : List V} {bs : List Str}, All2 (StrV H) ys bs → ys = bs.map V.str
  | _, _, .nil => rfl
  | _, _, .cons (a := y) h t => by
    have h : y = _ := h
    rw [h, all_str t]
    rfl
def spMend (T : List Addr) : Sp := fun vs H Q _ => ∃ (p l q : Addr) (n : Nat) (nodes : List Str) (label : Str), vs = [.ref p, .ref q, .str label] ∧ PT T H p l n ∧ n < 2 ^ 37 ∧ H q = some (.lst (nodes.map V.str)) ∧ nodes.Nodup ∧ 2 ≤ nodes.length ∧ nodes.length ≤ 20 ∧
  ∀ (v : V) (m : MendR) (H' : Hp), m.label = label → MendOk nodes m → PT T H' p l (n + 70) → Gr T (mask p H) (mask p H') → MendV (nw H H') v m → Q v H'
theorem len_filter {nodes : List Str} {y : Str} (nd : nodes.Nodup) (h : y ∈ nodes) : (nodes.filter (· ≠ y)).length + 1 = nodes.length := by
  induction nodes with
  | nil => cases h
  | cons x xs ih =>
    obtain ⟨a, b⟩ := List.nodup_cons.mp nd
    rcases List.mem_cons.mp h with z | z
    · subst z
      have : xs.filter (· ≠ y) = xs := List.filter_eq_self.mpr fun w hw => by
        have : w ≠ y := fun z => a (z ▸ hw)
        simpa using this
      rw [List.filter_cons, if_neg (by simp), this]
      rfl
    · have ne : x ≠ y := fun q => a (q ▸ z)
      rw [List.filter_cons, if_pos (by simpa using ne), List.length_cons, ih b z]
      rfl
section
variable {P : Program} {w : World} {K : PySem.W.Frag} {mg : Str → Option Value} {base : Heap} {T : List Addr}
theorem ok_l_mend {f : Addr} {fd : FuncData} (F : Fun K "_law_some_mend" "_law_some_mend" s_l_mend f fd) (bn : mg "len" = none) (D : Fx P w K mg base "_law_draw" 1 ["_law_pen_here", "_law_many"] (spDr T)) (PK : Fx P w K mg base "_law_pick" 2 ["_law_pen_here", "_law_some"] (spPk T K)) (LK : Fx P w K mg base "_law_some_links" 3 ["_law_pen_here", "_law_free"] (spLinks T K)) :
    FnOk P w K mg base CX0 4 f fd ["_law_pen_here", "_law_nodes", "_law_label"] (spMend T) := by
  refine F.ok sc_l_mend (fun vs H Q E h => ?_) (fun cdv A outer s H vs Q E hr h => ?_)
  · obtain ⟨p, l, q, n, nodes, label, rfl, _⟩ := h
    rfl
  · obtain ⟨p, l, q, n, nodes, label, rfl, hP, hn, hF, nd, l2, l20, k⟩ := h
    have hr1 : Room 1 _ := hr.mono (by decide)
    have hr2 : Room 2 _ := hr.mono (by decide)
    have hu := hu_of hr
    refine ⟨_, (pss_cons (ps_set (i := 3) sc_l_mend.nd rfl (Or.inr rfl) (pe_fx PK hr2 (pa_cons (pv 0) (pa_cons (pv 1) pa_nil))))
      (pss_cons (ps_setLc (i := 4) (own := [("_law_name_here", 8)]) (g := gName 8) (tt := _) rfl sc_l_mend.nd rfl rfl (sw_true rfl rfl rfl (by decide +kernel)) (pi_sqK K (pv 1)) (blkOk_by (own := [("_law_name_here", 8)]) (N := N_mend) (sc := defScope s_l_mend) (by decide +kernel))
          (fun _ _ _ _ _ => pg_name (i := 8) sc_l_mend.nd rfl (Or.inl rfl)) (fun _ _ _ _ _ => pts_one (pt_cmpR op_ne (pv 8) (pv 3) (nomark _))) (fun _ _ _ _ _ => pv 8))
      (pss_cons (ps_set (i := 5) sc_l_mend.nd rfl (Or.inl rfl) (pe_disp (pps_cons pe_str (pv 2) (pps_cons pe_str pe_str (pps_cons pe_str (pe_lst (pa_cons (pv 3) pa_nil)) (pps_cons pe_str (pe_lst (pa_cons (pe_fx LK hr (pa_cons (pv 0) (pa_cons (pv 4) pa_nil))) pa_nil)) (pps_cons pe_str pe_non pps_nil))))) (by rfl) (by rfl) (fun z => by cases z) (by decide)))
      (C8.pss_cut (ps_if (PW.pt (pw_and (pt_cmpR op_gt (pe_callB lenH (by rfl) bn (by decide +kernel) (pa_cons (pv 1) pa_nil)) pe_int (nomark _)) (pw_and1 (pt_cmpR op_eq (pe_fx D hr1 (pa_cons (pv 0) (pa_cons pe_int pa_nil))) pe_int (nomark _)))))
          (pss_cons (ps_set (i := 6) sc_l_mend.nd rfl (Or.inr rfl) (pe_fx PK hr2 (pa_cons (pv 0) (pa_cons (pv 4) pa_nil))))
          (pss_cons (ps_setLc (i := 7) (own := [("_law_name_here", 8)]) (g := gName 8) (tt := _) rfl sc_l_mend.nd rfl rfl (sw_true rfl rfl rfl (by decide +kernel)) (pi_sqK K (pv 4)) (blkOk_by (own := [("_law_name_here", 8)]) (N := N_mend) (sc := defScope s_l_mend) (by decide +kernel))
              (fun _ _ _ _ _ => pg_name (i := 8) sc_l_mend.nd rfl (Or.inl rfl)) (fun _ _ _ _ _ => pts_one (pt_cmpR op_ne (pv 8) (pv 6) (nomark _))) (fun _ _ _ _ _ => pv 8))
          (pss_cons (ps_asg (pe_tup (pa_cons pe_str (pa_cons (pe_lst (pa_cons (pv 3) (pa_cons (pv 6) pa_nil))) (pa_cons (pe_fx D hr1 (pa_cons (pv 0) (pa_cons pe_int pa_nil))) pa_nil))))
            (pg_tup rfl (pgs_cons (pg_sub (pv 5) pe_str (set_dict hu)) (pgs_cons (pg_sub (pv 5) pe_str (set_dict hu)) (pgs_cons (pg_sub (pv 5) pe_str (set_dict hu)) pgs_nil)))))
          (pss_one (ps_dput hu (pv 5) pe_str (pe_lst (pa_cons (pe_fx LK hr (pa_cons (pv 0) (pa_cons (pv 7) pa_nil))) (pa_cons (pe_fx LK hr (pa_cons (pv 0) (pa_cons (pv 7) pa_nil))) pa_nil))) rfl)))))
          pss_nil)
      (pss_one (ps_ret (pv 5))))))), ?_⟩
    have big : ∀ {m : Nat}, m ≤ 1000 → m ≤ sizeLine := fun h => Nat.le_of_lt (lsz h)
    have nqp : q ≠ p := hP.un hF
    refine ⟨_, rfl, _, rfl, p, l, q, n, _, rfl, hP, by omega, .inl (SqL.of hF), by rw [List.length_map]; omega, by rw [List.length_map]; omega, fun v H1 hv hP1 e1 => ?_⟩
    obtain ⟨node, hnode, rfl⟩ := List.mem_map.mp hv
    have g1 : Gr T (mask p H) (mask p H1) := .ofeq e1
    have hF1 := g1.at nqp hF (fun _ z => by cases z)
    have lfree := len_filter nd hnode
    -- those that are free
    refine ⟨_, rfl, q, _, false, rfl, sqL hF1, fun fa hfa => lc_filt (T := T) (keepF nodes node) StrV walk_sq (by unfold keepF; rw [List.length_map, List.length_map]) (by rw [List.length_map]; exact lsz (by omega)) hfa (sqL hF1) Ext.sqof (fun _ _ _ _ _ h => h) ?_ ?_⟩
    · rintro j y o H7 H8 Qc Nx hj hy hF g7 hacc kY kN
      obtain ⟨rfl, hx⟩ := hy
      rw [List.length_map] at hj
      rw [List.getElem?_map, List.getElem?_eq_getElem hj] at hx
      have hx : V.str nodes[j] = y := Option.some.inj hx
      subst hx
      unfold keepF at hF
      rw [List.getElem?_map, List.getElem?_eq_getElem hj] at hF
      have hF : (if nodes[j] = node then none else some nodes[j]) = o := Option.some.inj hF
      refine ⟨rfl, _, rfl, _, rfl, rfl, _, rfl, ?_⟩
      refine ite2 (fun h => ?_) (fun h => ?_)
      · have h : nodes[j] ≠ node := fun z => by rw [z] at h; simp at h
        rw [if_neg h] at hF
        exact ⟨_, rfl, kY _ hF.symm _ _ (.refl T _) rfl⟩
      · have h : nodes[j] = node := Classical.byContradiction fun z => h (by simpa using z)
        rw [if_pos h] at hF
        exact kN hF.symm _ (.refl T _)
    intro H2 ys hD2 hA2 g2
    rw [keepF_fm] at hA2
    rw [all_str hA2] at hD2
    have lf : (nodes.filter (· ≠ node)).length + 1 = nodes.length := lfree
    have ndf : (nodes.filter (· ≠ node)).Nodup := nd.filter _
    have memf : ∀ x ∈ nodes.filter (· ≠ node), x ∈ nodes ∧ x ≠ node := fun x hx => by
      have := List.mem_filter.mp hx
      exact ⟨this.1, by simpa using this.2⟩
    generalize nodes.filter (· ≠ node) = free at hD2 lf ndf memf
    have nfp : fa ≠ p := hP1.fresh hfa
    have hP2 : PT T H2 p l (n + 1) := hP1.gr g2
    have g2' : Gr T (mask p H) (mask p H2) := g1.trans g2.mask
    -- the mend of one
    refine fun pd hpd => ⟨_, rfl, _, rfl, (by show 1 ≤ sizeLine; exact big (by decide)), fun na hna => ?_⟩
    have npd : pd ≠ p := hP2.fresh hpd
    have n1 : na ≠ pd := fun z => by rw [z, upd_same] at hna; cases hna
    have g3 : Gr T H2 (upd (upd H2 pd (.dK [])) na (.lst [.str node])) := (Gr.new hpd).trans (Gr.new hna)
    have hP3 := hP2.gr g3
    have nnp : na ≠ p := (hP2.gr (Gr.new hpd)).fresh hna
    have hF3 := g3.ext _ _ hD2 (fun _ z => by cases z)
    have ed3 : (upd (upd H2 pd (.dK [])) na (.lst [.str node])) pd = some (.dK []) := by rw [upd_ne n1.symm]; exact upd_same
    have en3 : (upd (upd H2 pd (.dK [])) na (.lst [.str node])) na = some (.lst [.str node]) := upd_same
    generalize upd (upd H2 pd (.dK [])) na (.lst [.str node]) = H3 at g3 hP3 hF3 ed3 en3 ⊢
    refine ⟨_, rfl, _, rfl, p, l, fa, n + 1, free, rfl, hP3, by omega, hF3, ndf, by omega, by omega, fun v its H4 ok4 hP4 g4 it4 => ?_⟩
    refine ⟨(by show 1 ≤ sizeLine; exact big (by decide)), fun ra hra => ?_⟩
    have nrp : ra ≠ p := hP4.fresh hra
    have ed4 : H4 pd = some (.dK []) := g4.at npd ed3 (fun _ z => by cases z)
    have n2 : pd ≠ ra := fun z => by rw [← z, ed4] at hra; cases hra
    refine ⟨by rw [upd_ne n2]; exact ed4, mendD ⟨label, node, its, none⟩ na ra, rfl, (by show 5 ≤ 15; decide), ?_⟩
    rw [show mergeK [] (mendD ⟨label, node, its, none⟩ na ra) = mendD ⟨label, node, its, none⟩ na ra by kernel_rfl]
    have hP5 : PT T (upd (upd H4 ra (.lst [v])) pd (.dK (mendD ⟨label, node, its, none⟩ na ra))) p l (n + 1 + 20) :=
      (hP4.gr (Gr.new (o := .lst [v]) hra)).putD npd (by rw [upd_ne n2]; exact ed4)
    have g5 : Gr T (mask p H) (mask p (upd (upd H4 ra (.lst [v])) pd (.dK (mendD ⟨label, node, its, none⟩ na ra)))) := by
      rw [mask_upd_ne npd]
      refine Gr.upd (g2'.trans (g3.mask.trans (g4.trans (gr_newm hra)))) ?_
      rw [mask_ne npd]
      exact g1.stay' npd (g2.stay pd hpd)
    have lgrow : Gr T (mask p H2) (mask p H4) := g3.mask.trans g4
    have hF5 : (upd (upd H4 ra (.lst [v])) pd (.dK (mendD ⟨label, node, its, none⟩ na ra))) q = some (.lst (nodes.map V.str)) := g5.at nqp hF (fun _ z => by cases z)
    have fP : fa ≠ pd := fun z => by rw [z, hpd] at hD2; cases hD2
    have fR : fa ≠ ra := fun z => by rw [← z, g4.at nfp hF3 (fun _ z => by cases z)] at hra; cases hra
    have hFf5 : (upd (upd H4 ra (.lst [v])) pd (.dK (mendD ⟨label, node, its, none⟩ na ra))) fa = some (.lst (free.map V.str)) := by
      rw [upd_ne fP, upd_ne fR]
      exact g4.at nfp hF3 (fun _ z => by cases z)
    have en4 : H4 na = some (.lst [.str node]) := g4.at nnp en3 (fun _ z => by cases z)
    have nR : na ≠ ra := fun z => by rw [← z, en4] at hra; cases hra
    have na0 : H na = none := (g2'.trans (gr_newm hpd)).stay' nnp hna
    have ra0 : H ra = none := (g2'.trans lgrow).stay' nrp hra
    have pd0 : H pd = none := g2'.stay' npd hpd
    have MV5 : MendV (nw H (upd (upd H4 ra (.lst [v])) pd (.dK (mendD ⟨label, node, its, none⟩ na ra)))) (.ref pd) ⟨label, node, its, none⟩ := by
      rw [nw_upd pd0, nw_upd ra0]
      refine ⟨pd, na, ra, [v], rfl, upd_same, ?_, ?_, ?_⟩
      · rw [upd_ne n1, upd_ne nR, nw_at na0]
        exact en4
      · rw [upd_ne n2.symm]
        exact upd_same
      · refine .cons (ItemsV.put (o := .dK []) ?_ (fun _ z => by cases z) (fun _ z => by cases z) ((it4.ext (nw_sub (H := H) fun b hb => ?_)).ext ?_)) .nil
        · rw [upd_ne n2, nw_at pd0]
          exact ed4
        · by_cases z : b = p
          · obtain ⟨o, ho⟩ := hP3.hp
            rw [z, ho] at hb
            cases hb
          · exact (g2'.trans g3.mask).stay' z hb
        · exact (Gr.new (T := T) (by rw [nw_at ra0]; exact hra)).ext
    have MO5 : MendOk nodes ⟨label, node, its, none⟩ := ⟨hnode, fun r hr => by
      have : r = its := List.mem_singleton.mp hr
      rw [this]
      exact ok4.row fun x hx => ⟨(memf x hx).1, fun z => (memf x hx).2 (List.mem_singleton.mp z)⟩, fun _ _ _ z => by cases z⟩
    generalize hH5 : upd (upd H4 ra (.lst [v])) pd (.dK (mendD ⟨label, node, its, none⟩ na ra)) = H5 at hP5 g5 hF5 hFf5 MV5
    have ed5 : H5 pd = some (.dK (mendD ⟨label, node, its, none⟩ na ra)) := by rw [← hH5]; exact upd_same
    clear hH5
    refine ⟨fun σ' H' => ∃ (v6 v7 : Option V) (m : MendR), σ' = [some (.ref p), some (.ref q), some (.str label), some (.str node), some (.ref fa), some (.ref pd), v6, v7, none] ∧ m.label = label ∧ MendOk nodes m ∧ PT T H' p l (n + 70) ∧ Gr T (mask p H) (mask p H') ∧ MendV (nw H H') (.ref pd) m, ?_, ?_⟩
    · have fail : ∀ {H' : Hp}, PT T H' p l (n + 22) → mask p H' = mask p H5 → ∃ (v6 v7 : Option V) (m : MendR), [some (.ref p), some (.ref q), some (.str label), some (.str node), some (.ref fa), some (.ref pd), none, none, none] = [some (V.ref p), some (.ref q), some (.str label), some (.str node), some (.ref fa), some (.ref pd), v6, v7, none] ∧ m.label = label ∧ MendOk nodes m ∧ PT T H' p l (n + 70) ∧ Gr T (mask p H) (mask p H') ∧ MendV (nw H H') (.ref pd) m := fun {H'} h e =>
        ⟨none, none, _, rfl, rfl, MO5, h.mono (by omega), by rw [e]; exact g5, MV5.ext (nw_ext (T := T) hP.hp (.ofeq e))⟩
      refine ⟨_, rfl, false, q, _, rfl, hF5, _, _, rfl, rfl, _, rfl, ?_⟩
      refine ite2 (fun hlen => ?_) (fun _ => iteF (fail (hP5.mono (by omega)) rfl))
      have hlen : 2 < nodes.length := by
        have := of_decide_eq_true hlen
        rw [List.length_map] at this
        omega
      refine ⟨_, rfl, p, l, n + 1 + 20, 3, rfl, hP5, by omega, by decide, by decide, fun d H6 d0 d1 hP6 e6 => ?_⟩
      refine ⟨rfl, _, rfl, ?_⟩
      refine ite2 (fun _ => ?_) (fun _ => fail hP6 e6)
      have g6 : Gr T (mask p H5) (mask p H6) := .ofeq e6
      have hF6 := g6.at nfp hFf5 (fun _ z => by cases z)
      -- the other one
      refine ⟨_, rfl, _, rfl, p, l, fa, n + 22, _, rfl, hP6, by omega, .inl (SqL.of hF6), by rw [List.length_map]; omega, by rw [List.length_map]; omega, fun v7 H7 hv7 hP7 e7 => ?_⟩
      obtain ⟨other, hoth, rfl⟩ := List.mem_map.mp hv7
      have g7 : Gr T (mask p H6) (mask p H7) := .ofeq e7
      have hF7 := g7.at nfp hF6 (fun _ z => by cases z)
      have lrest := len_filter ndf hoth
      refine ⟨_, rfl, fa, _, false, rfl, sqL hF7, fun ta hta => lc_filt (T := T) (keepF free other) StrV walk_sq (by unfold keepF; rw [List.length_map, List.length_map]) (by rw [List.length_map]; exact lsz (by omega)) hta (sqL hF7) Ext.sqof (fun _ _ _ _ _ h => h) ?_ ?_⟩
      · rintro j y o H8 H9 Qc Nx hj hy hFo g8 hacc kY kN
        obtain ⟨rfl, hx⟩ := hy
        rw [List.length_map] at hj
        rw [List.getElem?_map, List.getElem?_eq_getElem hj] at hx
        have hx : V.str free[j] = y := Option.some.inj hx
        subst hx
        unfold keepF at hFo
        rw [List.getElem?_map, List.getElem?_eq_getElem hj] at hFo
        have hFo : (if free[j] = other then none else some free[j]) = o := Option.some.inj hFo
        refine ⟨rfl, _, rfl, _, rfl, rfl, _, rfl, ?_⟩
        refine ite2 (fun h => ?_) (fun h => ?_)
        · have h : free[j] ≠ other := fun z => by rw [z] at h; simp at h
          rw [if_neg h] at hFo
          exact ⟨_, rfl, kY _ hFo.symm _ _ (.refl T _) rfl⟩
        · have h : free[j] = other := Classical.byContradiction fun z => h (by simpa using z)
          rw [if_pos h] at hFo
          exact kN hFo.symm _ (.refl T _)
      intro H8 ys8 hD8 hA8 g8
      rw [keepF_fm] at hA8
      rw [all_str hA8] at hD8
      have ndr : (free.filter (· ≠ other)).Nodup := ndf.filter _
      have memr : ∀ x ∈ free.filter (· ≠ other), x ∈ nodes ∧ x ∉ [node, other] := fun x hx => by
        have := List.mem_filter.mp hx
        have h2 : x ≠ other := by simpa using this.2
        have h1 := memf x this.1
        refine ⟨h1.1, fun z => ?_⟩
        rcases List.mem_cons.mp z with z | z
        · exact h1.2 z
        · exact h2 (List.mem_singleton.mp z)
      have lr : (free.filter (· ≠ other)).length + 1 = free.length := lrest
      generalize free.filter (· ≠ other) = rest at hD8 ndr memr lr
      have hP8 := hP7.gr g8
      have ntp : ta ≠ p := hP7.fresh hta
      have g58 : Gr T (mask p H5) (mask p H8) := (g6.trans g7).trans g8.mask
      have ed8 := g58.at npd ed5 (fun _ z => by cases z)
      -- "pair", both nodes, the swap
      refine ⟨_, rfl, _, rfl, (by show 2 ≤ sizeLine; exact big (by decide)), fun oa hoa => ?_⟩
      have nop : oa ≠ p := hP8.fresh hoa
      refine ⟨_, rfl, p, l, n + 23, 4, rfl, hP8.gr (Gr.new hoa), by omega, by decide, by decide, fun c H9 c0 c1 hP9 e9 => ?_⟩
      have g9 : Gr T (mask p H8) (mask p H9) := by
        rw [e9]
        exact gr_newm hoa
      have eo9 : H9 oa = some (.lst [.str node, .str other]) := by
        have := congrFun e9 oa
        rw [mask_ne nop, mask_ne nop, upd_same] at this
        exact this
      refine ⟨(by show 3 ≤ sizeLine; exact big (by decide)), fun tt htt => ?_⟩
      have ntt : tt ≠ p := hP9.fresh htt
      refine ⟨tt, _, rfl, SqT.of upd_same, rfl, ?_⟩
      have ed9 := g9.at npd ed8 (fun _ z => by cases z)
      have ptt : pd ≠ tt := fun z => by rw [← z, ed9] at htt; cases htt
      have hP10 : PT T (upd H9 tt (.tup [.str "pair", .ref oa, .int c])) p l (n + 24) := hP9.gr (Gr.new htt)
      have ed10 : (upd H9 tt (.tup [.str "pair", .ref oa, .int c])) pd = some (.dK (mendD ⟨label, node, its, none⟩ na ra)) := by rw [upd_ne ptt]; exact ed9
      obtain ⟨cn, rfl⟩ : ∃ cn : Nat, c = (cn : Int) := ⟨c.toNat, by omega⟩
      refine ⟨_, _, rfl, _, rfl, pd, _, rfl, DPut.k (k := Sum.inr "kind") ed10 (by show 5 < sizeLine; exact lsz (by decide)), ?_⟩
      refine ⟨_, _, rfl, _, rfl, pd, _, rfl, DPut.k (k := Sum.inr "nodes") upd_same ?_, ?_⟩
      · show (putK (mendD ⟨label, node, its, none⟩ na ra) (Sum.inr "kind") (.str "pair")).length < sizeLine
        rw [show (putK (mendD ⟨label, node, its, none⟩ na ra) (Sum.inr "kind") (.str "pair")).length = 5 by kernel_rfl]
        exact lsz (by decide)
      refine ⟨_, _, rfl, _, rfl, pd, _, rfl, DPut.k (k := Sum.inr "swap") upd_same ?_, rfl, ?_⟩
      · rw [show (putK (putK (mendD ⟨label, node, its, none⟩ na ra) (Sum.inr "kind") (.str "pair")) (Sum.inr "nodes") (.ref oa)).length = 5 by kernel_rfl]
        exact lsz (by decide)
      have e3 : putK (putK (putK (mendD ⟨label, node, its, none⟩ na ra) (Sum.inr "kind") (.str "pair")) (Sum.inr "nodes") (.ref oa)) (Sum.inr "swap") (.int (cn : Int)) = mendD ⟨label, node, its, some (other, cn, [])⟩ oa ra := by kernel_rfl
      rw [e3, upd_twice, upd_twice]
      have hP11 : PT T (upd (upd H9 tt (.tup [.str "pair", .ref oa, .int (cn : Int)])) pd (.dK (mendD ⟨label, node, its, some (other, cn, [])⟩ oa ra))) p l (n + 24) := hP10.putD npd ed10
      have g11 : Gr T (mask p H) (mask p (upd (upd H9 tt (.tup [.str "pair", .ref oa, .int (cn : Int)])) pd (.dK (mendD ⟨label, node, its, some (other, cn, [])⟩ oa ra)))) := by
        rw [mask_upd_ne npd]
        exact Gr.upd (((g5.trans g58).trans g9).trans (gr_newm htt)) (by rw [mask_ne npd]; exact pd0)
      have ed11 : (upd (upd H9 tt (.tup [.str "pair", .ref oa, .int (cn : Int)])) pd (.dK (mendD ⟨label, node, its, some (other, cn, [])⟩ oa ra))) pd = some (.dK (mendD ⟨label, node, its, some (other, cn, [])⟩ oa ra)) := upd_same
      have ta9 : H9 ta = some (.lst (rest.map V.str)) := g9.at ntp hD8 (fun _ z => by cases z)
      have ta11 : (upd (upd H9 tt (.tup [.str "pair", .ref oa, .int (cn : Int)])) pd (.dK (mendD ⟨label, node, its, some (other, cn, [])⟩ oa ra))) ta = some (.lst (rest.map V.str)) := by
        rw [upd_ne (fun z => by rw [z, ed8] at hD8; cases hD8), upd_ne (fun z => by rw [← z, ta9] at htt; cases htt)]
        exact ta9
      have oa11 : (upd (upd H9 tt (.tup [.str "pair", .ref oa, .int (cn : Int)])) pd (.dK (mendD ⟨label, node, its, some (other, cn, [])⟩ oa ra))) oa = some (.lst [.str node, .str other]) := by
        rw [upd_ne (fun z => by rw [z, ed9] at eo9; cases eo9), upd_ne (fun z => by rw [← z, eo9] at htt; cases htt)]
        exact eo9
      generalize upd (upd H9 tt (.tup [.str "pair", .ref oa, .int (cn : Int)])) pd (.dK (mendD ⟨label, node, its, some (other, cn, [])⟩ oa ra)) = H11 at hP11 g11 ed11 ta11 oa11 ⊢
      -- both rows
      refine ⟨_, rfl, _, rfl, p, l, ta, n + 24, rest, rfl, hP11, by omega, ta11, ndr, by omega, by omega, fun w1 it1 H12 ok12 hP12 g12 iv1 => ?_⟩
      have ta12 := g12.at ntp ta11 (fun _ z => by cases z)
      refine ⟨_, rfl, _, rfl, p, l, ta, n + 24 + 20, rest, rfl, hP12, by omega, ta12, ndr, by omega, by omega, fun w2 it2 H13 ok13 hP13 g13 iv2 => ?_⟩
      refine ⟨(by show 2 ≤ sizeLine; exact big (by decide)), fun rb hrb => ?_⟩
      have nrb : rb ≠ p := hP13.fresh hrb
      have ed13 := (g12.trans g13).at npd ed11 (fun _ z => by cases z)
      have oa13 := (g12.trans g13).at nop oa11 (fun _ z => by cases z)
      have pr : pd ≠ rb := fun z => by rw [← z, ed13] at hrb; cases hrb
      have or : oa ≠ rb := fun z => by rw [← z, oa13] at hrb; cases hrb
      have po : oa ≠ pd := fun z => by rw [z, ed13] at oa13; cases oa13
      have ed14 : (upd H13 rb (.lst [w1, w2])) pd = some (.dK (mendD ⟨label, node, its, some (other, cn, [])⟩ oa ra)) := by rw [upd_ne pr]; exact ed13
      refine ⟨_, rfl, pd, _, rfl, DPut.k (k := Sum.inr "rows") ed14 (by show 5 < sizeLine; exact lsz (by decide)), ?_⟩
      rw [show putK (mendD ⟨label, node, its, some (other, cn, [])⟩ oa ra) (Sum.inr "rows") (.ref rb) = mendD ⟨label, node, it1, some (other, cn, it2)⟩ oa rb by kernel_rfl]
      refine ⟨_, _, ⟨label, node, it1, some (other, cn, it2)⟩, rfl, rfl, ⟨hnode, fun r hr => ?_, fun o c r z => ?_⟩, ?_, ?_, ?_⟩
      · have : r = it1 ∨ r = it2 := by
          rcases List.mem_cons.mp hr with z | z
          · exact .inl z
          · exact .inr (List.mem_singleton.mp z)
        rcases this with rfl | rfl
        · exact ok12.row memr
        · exact ok13.row memr
      · injection z with z
        injection z with z1 z
        injection z with z2 z3
        subst z1 z2 z3
        exact ⟨(memf _ hoth).1, (memf _ hoth).2, by omega⟩
      · exact ((hP13.gr (Gr.new hrb)).putD npd ed14).mono (by omega)
      · rw [mask_upd_ne npd]
        exact Gr.upd (((g11.trans g12).trans g13).trans (gr_newm hrb)) (by rw [mask_ne npd]; exact pd0)
      · have oa0 : H oa = none := (g5.trans g58).stay' nop hoa
        have rb0 : H rb = none := ((g11.trans g12).trans g13).stay' nrb hrb
        have st11 : ∀ b, H11 b = none → H b = none := fun b hb => by
          by_cases z : b = p
          · obtain ⟨o, ho⟩ := hP11.hp
            rw [z, ho] at hb
            cases hb
          · exact g11.stay' z hb
        have st12 : ∀ b, H12 b = none → H b = none := fun b hb => by
          by_cases z : b = p
          · obtain ⟨o, ho⟩ := hP12.hp
            rw [z, ho] at hb
            cases hb
          · exact (g11.trans g12).stay' z hb
        rw [nw_upd pd0, nw_upd rb0]
        refine ⟨pd, oa, rb, [w1, w2], rfl, upd_same, ?_, ?_, ?_⟩
        · rw [upd_ne po, upd_ne or, nw_at oa0]
          exact oa13
        · rw [upd_ne pr.symm]
          exact upd_same
        · have gg : ∀ {w0 : V} {it0 : List Item}, ItemsV (nw H H13) w0 it0 → ItemsV (upd (upd (nw H H13) rb (.lst [w1, w2])) pd (.dK (mendD ⟨label, node, it1, some (other, cn, it2)⟩ oa rb))) w0 it0 := fun h => by
            refine ItemsV.put (o := .dK (mendD ⟨label, node, its, some (other, cn, [])⟩ oa ra)) ?_ (fun _ z => by cases z) (fun _ z => by cases z) (h.ext (Gr.new (T := T) (by rw [nw_at rb0]; exact hrb)).ext)
            rw [upd_ne pr, nw_at pd0]
            exact ed13
          exact .cons (gg ((iv1.ext (nw_sub st11)).ext (nw_ext hP.hp g13))) (.cons (gg (iv2.ext (nw_sub st12))) .nil)
    · rintro σ' H' ⟨v6, v7, m, rfl, ml, mo, hP', g', mv⟩
      exact ⟨_, rfl, k _ m H' ml mo hP' g' mv⟩
end
end Z
set_option Elab.async false
set_option linter.all false
set_option maxRecDepth 100000
set_option maxHeartbeats 4000000
namespace Z
open PySem L2 PyProof.Rows ZX GX TL
/-! readers that the law draws -/
abbrev s_l_readers : Stmt := topS 34
abbrev N_readers : List Str := ["_law_pen_here", "_law_nodes", "_law_many", "_law_found", "_law_lap", "_law_items", "_law_left", "_law_turn", "_law_limit"]
theorem sc_l_readers : FnScope N_readers ["_law_pen_here", "_law_nodes", "_law_many"] (defScope s_l_readers) := ⟨rfl, rfl, rfl, by decide +kernel, rfl, by decide +kernel, by decide +kernel⟩
abbrev Place := Str × Option Nat
def limV : Option Nat → V
  | none => .non
  | some k => .int (k : Int)
def PlaceV (H : Hp) (v : V) (it : Place) : Prop := ∃ a, v = .ref a ∧ H a = some (.tup [.str it.1, limV it.2])
theorem PlaceV.ext {H H' : Hp} {v : V} {it : Place} (x : Ext H H') (h : PlaceV H v it) : PlaceV H' v it := by
  obtain ⟨a, e, q⟩ := h
  exact ⟨a, e, x _ _ q fun _ z => by cases z⟩
theorem PlaceV.put {H : Hp} {v : V} {it : Place} {q : Addr} {o o' : HO} (hq : H q = some o) (no : ∀ xs, o ≠ .tup xs) (h : PlaceV H v it) : PlaceV (upd H q o') v it := by
  obtain ⟨a, e, h⟩ := h
  refine ⟨a, e, ?_⟩
  rw [upd_ne]
  · exact h
  · intro z
    rw [z, hq] at h
    exact no _ (Option.some.inj h)
def PlacesV (H : Hp) (v : V) (its : List Place) : Prop := ∃ a vs, v = .ref a ∧ H a = some (.lst vs) ∧ All2 (PlaceV H) vs its
theorem PlacesV.ext {H H' : Hp} {v : V} {its : List Place} (x : Ext H H') (h : PlacesV H v its) : PlacesV H' v its := by
  obtain ⟨a, vs, e, q, m⟩ := h
  exact ⟨a, vs, e, x _ _ q (fun _ z => by cases z), m.mono fun _ _ => PlaceV.ext x⟩
def ReadersV (H : Hp) (v : V) (rs : List (List Place)) : Prop := ∃ a vs, v = .ref a ∧ H a = some (.lst vs) ∧ All2 (PlacesV H) vs rs
theorem ReadersV.ext {H H' : Hp} {v : V} {rs : List (List Place)} (x : Ext H H') (h : ReadersV H v rs) : ReadersV H' v rs := by
  obtain ⟨a, vs, e, q, m⟩ := h
  exact ⟨a, vs, e, x _ _ q (fun _ z => by cases z), m.mono fun _ _ => PlacesV.ext x⟩
/-- a reader: nodes, each once, some with limits -/
structure ReaderOk (names : List Str) (r : List Place) : Prop where
  pos : 1 ≤ r.length
  few : r.length ≤ names.length
  nd : (r.map (·.1)).Nodup
  sub : ∀ it ∈ r, it.1 ∈ names
  lim : ∀ it ∈ r, ∀ k, it.2 = some k → k ≤ 40
def spReaders (T : List Addr) : Sp := fun vs H Q _ => ∃ (p l q : Addr) (n m : Nat) (nodes : List Str), vs = [.ref p, .ref q, .int (m : Int)] ∧ PT T H p l n ∧ n < 2 ^ 36 ∧ H q = some (.lst (nodes.map V.str)) ∧ nodes.Nodup ∧ 1 ≤ nodes.length ∧ nodes.length ≤ 20 ∧ 1 ≤ m ∧ m ≤ 20 ∧
  ∀ (v : V) (rs : List (List Place)) (H' : Hp), 1 ≤ rs.length → rs.length ≤ m → (∀ r ∈ rs, ReaderOk nodes r) → PT T H' p l (n + 2000) → Gr T (mask p H) (mask p H') → ReadersV (mask p H') v rs → Q v H'
section
variable {P : Program} {w : World} {K : PySem.W.Frag} {mg : Str → Option Value} {base : Heap} {T : List Addr}
theorem ok_l_readers {f : Addr} {fd : FuncData} (F : Fun K "_law_some_readers" "_law_some_readers" s_l_readers f fd) (br : mg "range" = none) (bn : mg "len" = none) (bl : mg "list" = none) (D : Fx P w K mg base "_law_draw" 1 ["_law_pen_here", "_law_many"] (spDr T)) (PK : Fx P w K mg base "_law_pick" 2 ["_law_pen_here", "_law_some"] (spPk T K)) :
    FnOk P w K mg base CX0 3 f fd ["_law_pen_here", "_law_nodes", "_law_many"] (spReaders T) := by
  refine F.ok sc_l_readers (fun vs H Q E h => ?_) (fun cdv A outer s H vs Q E hr h => ?_)
  · obtain ⟨p, l, q, n, m, nodes, rfl, _⟩ := h
    rfl
  · obtain ⟨p, l, q, n, m, nodes, rfl, hP, hn, hF, nd, l1, l20, m1, m20, k⟩ := h
    have hr1 : Room 1 _ := hr.mono (by decide)
    refine ⟨_, (pss_cons (ps_set (i := 3) sc_l_readers.nd rfl (Or.inl rfl) (pe_lst pa_nil))
      (pss_cons (ps_for PassesOwn.never rfl (pi_range1 (by rfl) br (pa_cons (pe_op op_add pe_int (pe_fx D hr1 (pa_cons (pv 0) (pa_cons (pv 2) pa_nil)))) pa_nil)) (pg_name (i := 4) sc_l_readers.nd rfl (Or.inl rfl))
        (pss_cons (ps_par (i := 5) (j := 6) (by rfl) sc_l_readers.nd rfl rfl (by decide) rfl rfl (pa_cons (pe_lst pa_nil) (pa_cons (pe_callTy (call_listK K) (by rfl) bl (by decide +kernel) (pa_cons (pv 1) pa_nil)) pa_nil)) (by rfl))
        (pss_cons (ps_for PassesOwn.never rfl (pi_range1 (by rfl) br (pa_cons (pe_op op_add pe_int (pe_fx D hr1 (pa_cons (pv 0) (pa_cons (pe_callB lenH (by rfl) bn (by decide +kernel) (pa_cons (pv 1) pa_nil)) pa_nil)))) pa_nil)) (pg_name (i := 7) sc_l_readers.nd rfl (Or.inl rfl))
          (pss_cons (ps_set (i := 8) sc_l_readers.nd rfl (Or.inl rfl) (pe_fx PK hr (pa_cons (pv 0) (pa_cons (pe_lst (pa_cons pe_non (pa_cons pe_non (pa_cons pe_non (pa_cons (pe_fx D hr1 (pa_cons (pv 0) (pa_cons pe_int pa_nil))) (pa_cons (pe_fx D hr1 (pa_cons (pv 0) (pa_cons pe_int pa_nil))) pa_nil)))))) pa_nil))))
          (pss_one (ps_expr (pe_bm PySem.F.plainAttrs_list PySem.F.slot_list_append PySem.F.type_list_append mt_append (pv 5) (pa_cons (pe_tup (pa_cons (pe_bm PySem.F.plainAttrs_list PySem.F.slot_list_pop PySem.F.type_list_pop mt_popAt (pv 6) (pa_cons (pe_fx D hr1 (pa_cons (pv 0) (pa_cons (pe_callB lenH (by rfl) bn (by decide +kernel) (pa_cons (pv 6) pa_nil)) pa_nil))) pa_nil)) (pa_cons (pv 8) pa_nil))) pa_nil))))))
        (pss_one (ps_expr (pe_bm PySem.F.plainAttrs_list PySem.F.slot_list_append PySem.F.type_list_append mt_append (pv 3) (pa_cons (pv 5) pa_nil)))))))
      (pss_one (ps_ret (pv 3))))), ?_⟩
    have big : ∀ {m : Nat}, m ≤ 1000 → m ≤ sizeLine := fun h => Nat.le_of_lt (lsz h)
    have nqp : q ≠ p := hP.un hF
    refine ⟨(by show 0 ≤ sizeLine; exact Nat.zero_le _), fun fa hfa => ?_⟩
    have nfp := hP.fresh hfa
    have nqf : q ≠ fa := fun z => by rw [z, hfa] at hF; cases hF
    refine ⟨_, rfl, _, rfl, p, l, n, m, rfl, hP.gr (Gr.new hfa), by omega, by omega, by omega, fun d H1 d0 d1 hP1 e1 => ?_⟩
    have g1 : Gr T (mask p H) (mask p H1) := by rw [e1]; exact gr_newm hfa
    have ef1 : H1 fa = some (.lst []) := by
      have := congrFun e1 fa
      rw [mask_ne nfp, mask_ne nfp, upd_same] at this
      exact this
    refine ⟨_, _, rfl, rfl, _, rfl, by omega, by omega, ?_⟩
    obtain ⟨c, hc⟩ : ∃ c : Nat, (1 + d : Int) = (c : Int) := ⟨(1 + d).toNat, by omega⟩
    rw [hc, Int.toNat_natCast]
    refine for_range (lo := 0) (n := c) (fun i σ' H' => ∃ (v4 v5 v6 v7 v8 : Option V) (vs : List V) (rs : List (List Place)), σ' = [some (.ref p), some (.ref q), some (.int (m : Int)), some (.ref fa), v4, v5, v6, v7, v8] ∧
        H' fa = some (.lst vs) ∧ All2 (PlacesV (mask fa (mask p H'))) vs rs ∧ rs.length = i ∧ (∀ r ∈ rs, ReaderOk nodes r) ∧ PT T H' p l (n + 1 + 90 * i) ∧ Gr T (mask p H) (mask p H'))
      ⟨none, none, none, none, none, [], [], rfl, ef1, .nil, rfl, (fun _ h => by cases h), hP1, g1⟩ ?_ ?_
    · rintro i σ' H2 hi ⟨v4, v5, v6, v7, v8, vs, rs, rfl, ef, hA, li, rok, hP2, g2⟩
      have hF2 := g2.at nqp hF (fun _ z => by cases z)
      -- a reader
      refine ⟨(by show 0 ≤ sizeLine; exact Nat.zero_le _), fun ia hia => ?_⟩
      have nip := hP2.fresh hia
      have nif : fa ≠ ia := fun z => by rw [z, hia] at ef; cases ef
      have nqi : q ≠ ia := fun z => by rw [z, hia] at hF2; cases hF2
      refine ⟨_, rfl, q, _, rfl, .inl (SqL.of (by rw [upd_ne nqi]; exact hF2)), fun la hla => ?_⟩
      have nli : la ≠ ia := fun z => by rw [z, upd_same] at hla; cases hla
      have hla0 : H2 la = none := by rw [upd_ne nli] at hla; exact hla
      have nlp := hP2.fresh hla0
      have hP3 : PT T (upd (upd H2 ia (.lst [])) la (.lst (nodes.map V.str))) p l (n + 1 + 90 * i) := (hP2.gr (Gr.new hia)).gr (Gr.new hla)
      have g3 : Gr T (mask p H2) (mask p (upd (upd H2 ia (.lst [])) la (.lst (nodes.map V.str)))) := (gr_newm hia).trans (gr_newm hla)
      have hF3 := g3.at nqp hF2 (fun _ z => by cases z)
      have ei3 : (upd (upd H2 ia (.lst [])) la (.lst (nodes.map V.str))) ia = some (.lst []) := by rw [upd_ne nli.symm, upd_same]
      have el3 : (upd (upd H2 ia (.lst [])) la (.lst (nodes.map V.str))) la = some (.lst (nodes.map V.str)) := upd_same
      generalize upd (upd H2 ia (.lst [])) la (.lst (nodes.map V.str)) = H3 at hP3 g3 hF3 ei3 el3 ⊢
      refine ⟨_, _, rfl, _, rfl, _, rfl, false, q, _, rfl, hF3, p, l, _, _, rfl, hP3, by omega, by rw [List.length_map]; omega, by rw [List.length_map]; omega, fun d' H4 d0' d1' hP4 e4 => ?_⟩
      rw [List.length_map] at d1'
      have g4 : Gr T (mask p H2) (mask p H4) := g3.trans (.ofeq e4)
      have ei4 : H4 ia = some (.lst []) := (Gr.ofeq (T := T) e4).at nip ei3 (fun _ z => by cases z)
      have el4 : H4 la = some (.lst (nodes.map V.str)) := (Gr.ofeq (T := T) e4).at nlp el3 (fun _ z => by cases z)
      refine ⟨_, _, rfl, rfl, _, rfl, by omega, by omega, ?_⟩
      obtain ⟨b, hb⟩ : ∃ b : Nat, (1 + d' : Int) = (b : Int) := ⟨(1 + d').toNat, by omega⟩
      rw [hb, Int.toNat_natCast]
      refine for_range (lo := 0) (n := b) (fun j σ' H' => ∃ (v7 v8 : Option V) (ws : List V) (its : List Place) (rest : List Str), σ' = [some (.ref p), some (.ref q), some (.int (m : Int)), some (.ref fa), some (.int (0 + (i : Int))), some (.ref ia), some (.ref la), v7, v8] ∧
          H' ia = some (.lst ws) ∧ H' la = some (.lst (rest.map V.str)) ∧ All2 (PlaceV (mask p H')) ws its ∧ its.length = j ∧ (its.map (·.1) ++ rest).Perm nodes ∧ (∀ it ∈ its, ∀ k, it.2 = some k → k ≤ 40) ∧ PT T H' p l (n + 1 + 90 * i + 1 + 4 * j) ∧ Gr T (mask p H2) (mask p H'))
        ⟨v7, v8, [], [], nodes, rfl, ei4, el4, .nil, rfl, .refl _, (fun _ h => by cases h), hP4, g4⟩ ?_ ?_
      · rintro j σ' H5 hj ⟨v7, v8, ws, its, rest, rfl, ei, el, hB, lj, pm, lm, hP5, g5⟩
        have lr := pm.length_eq
        rw [List.length_append, List.length_map, lj] at lr
        -- its limit
        refine ⟨_, rfl, _, rfl, p, l, _, 5, rfl, hP5, by omega, by decide, by decide, fun a H6 a0 a1 hP6 e6 => ?_⟩
        refine ⟨_, rfl, p, l, _, 41, rfl, hP6, by omega, by decide, by decide, fun a' H7 a0' a1' hP7 e7 => ?_⟩
        refine ⟨(by show 5 ≤ sizeLine; exact big (by decide)), fun q5 hq5 => ?_⟩
        refine ⟨p, l, q5, _, _, rfl, hP7.gr (Gr.new hq5), by omega, .inl (SqL.of upd_same), (by show 0 < 5; decide), (by show 5 < 1000; decide), fun v H8 hv hP8 e8 => ?_⟩
        obtain ⟨lim, hlim, rfl⟩ : ∃ lim : Option Nat, (∀ k, lim = some k → k ≤ 40) ∧ v = limV lim := by
          simp only [List.mem_cons, List.not_mem_nil, or_false] at hv
          rcases hv with rfl | rfl | rfl | rfl | rfl
          · exact ⟨none, (fun _ z => by cases z), rfl⟩
          · exact ⟨none, (fun _ z => by cases z), rfl⟩
          · exact ⟨none, (fun _ z => by cases z), rfl⟩
          · exact ⟨some a.toNat, (fun k z => by cases z; omega), by show V.int a = V.int ((a.toNat : Nat) : Int); rw [Int.toNat_of_nonneg a0]⟩
          · exact ⟨some a'.toNat, (fun k z => by cases z; omega), by show V.int a' = V.int ((a'.toNat : Nat) : Int); rw [Int.toNat_of_nonneg a0']⟩
        have g8 : Gr T (mask p H5) (mask p H8) := by
          rw [e8, ← e6, ← e7]
          exact gr_newm hq5
        have ei8 := g8.at nip ei (fun _ z => by cases z)
        have el8 := g8.at nlp el (fun _ z => by cases z)
        -- its node
        refine ⟨_, rfl, .inl ⟨rfl, _, SqL.of ei8⟩, _, rfl, .inl ⟨rfl, _, SqL.of el8⟩, _, rfl, _, rfl, false, la, _, rfl, el8, ?_⟩
        refine ⟨p, l, _, _, rfl, hP8, by omega, by rw [List.length_map]; omega, by rw [List.length_map]; omega, fun t H9 t0 t1 hP9 e9 => ?_⟩
        rw [List.length_map] at t1
        have g9 : Gr T (mask p H5) (mask p H9) := g8.trans (.ofeq e9)
        have ei9 := g9.at nip ei (fun _ z => by cases z)
        have el9 := g9.at nlp el (fun _ z => by cases z)
        have ht : t.toNat < rest.length := by omega
        refine ⟨la, _, t, t.toNat, .str rest[t.toNat], rfl, rfl, el9, by omega, by omega, seq_at t0 (by rw [List.length_map]; omega), by rw [List.getElem?_map, List.getElem?_eq_getElem ht]; rfl, ?_⟩
        rw [erase_map]
        refine ⟨_, rfl, (by show 2 ≤ sizeLine; exact big (by decide)), fun tp htp => ?_⟩
        have hP10 : PT T (upd H9 la (.lst ((rest.eraseIdx t.toNat).map V.str))) p l (n + 1 + 90 * i + 1 + 4 * j + 1 + 1 + 1 + 1) := hP9.put (hP2.cell hla0) el9 (fun _ z => by cases z) (fun _ z => by cases z)
        have ntp := hP10.fresh htp
        have nlt : la ≠ tp := fun z => by rw [← z, upd_same] at htp; cases htp
        have ei10 : (upd H9 la (.lst ((rest.eraseIdx t.toNat).map V.str))) ia = some (.lst ws) := by rw [upd_ne nli.symm]; exact ei9
        have nit : ia ≠ tp := fun z => by rw [← z, ei10] at htp; cases htp
        have lws := hB.length
        refine ⟨ia, ws, _, rfl, rfl, by rw [upd_ne nit]; exact ei10, lsz (by omega), ?_⟩
        refine ⟨_, _, ws ++ [.ref tp], its ++ [(rest[t.toNat], lim)], rest.eraseIdx t.toNat, rfl, upd_same, by rw [upd_ne nli, upd_ne nlt]; exact upd_same, ?_, by rw [List.length_append, lj]; rfl, ?_, ?_, ?_, ?_⟩
        · rw [mask_upd_ne nip, mask_upd_ne ntp, mask_upd_ne nlp]
          refine All2.snoc (hB.mono fun _ _ h => ?_) ⟨tp, rfl, by rw [upd_ne nit.symm]; exact upd_same⟩
          refine PlaceV.put (o := .lst ws) ?_ (fun _ z => by cases z) (PlaceV.ext (Gr.new (T := T) ?_).ext (PlaceV.put (o := .lst (rest.map V.str)) ?_ (fun _ z => by cases z) (h.ext g9.ext)))
          · rw [upd_ne nit, upd_ne nli.symm, mask_ne nip]
            exact ei9
          · rw [upd_ne nlt.symm, mask_ne ntp]
            rw [upd_ne nlt.symm] at htp
            exact htp
          · rw [mask_ne nlp]
            exact el9
        · rw [List.map_append, List.append_assoc]
          exact (List.Perm.append_left _ (perm_take ht)).trans pm
        · intro it hit
          rcases List.mem_append.mp hit with z | z
          · exact lm it z
          · rw [List.mem_singleton.mp z]
            exact hlim
        · exact ((hP10.gr (Gr.new htp)).put (hP2.cell hia) (by rw [upd_ne nit]; exact ei10) (fun _ z => by cases z) (fun _ z => by cases z)).mono (by omega)
        · rw [mask_upd_ne nip, mask_upd_ne ntp, mask_upd_ne nlp]
          refine Gr.upd ?_ (by rw [mask_ne nip]; exact hia)
          refine Gr.trans (Gr.upd (g5.trans g9) (by rw [mask_ne nlp]; exact hla0)) (Gr.new ?_)
          rw [upd_ne nlt.symm, mask_ne ntp]
          rw [upd_ne nlt.symm] at htp
          exact htp
      · rintro σ' H5 ⟨v7, v8, ws, its, rest, rfl, ei, el, hB, lj, pm, lm, hP5, g5⟩
        have ef5 := g5.at nfp ef (fun _ z => by cases z)
        have lvs := hA.length
        have nd2 : (its.map (·.1) ++ rest).Nodup := pm.nodup_iff.mpr nd
        have lr := pm.length_eq
        rw [List.length_append, List.length_map, lj] at lr
        refine ⟨_, rfl, .inl ⟨rfl, _, SqL.of ef5⟩, _, rfl, fa, vs, _, rfl, rfl, ef5, lsz (by omega), ?_⟩
        refine ⟨_, _, _, _, _, vs ++ [.ref ia], rs ++ [its], rfl, upd_same, ?_, by rw [List.length_append, li]; rfl, ?_, ?_, ?_⟩
        · rw [mask_put nfp]
          refine All2.snoc (hA.mono fun _ _ h => h.ext g5.mask.ext) ⟨ia, ws, rfl, by rw [mask_ne nif.symm, mask_ne nip]; exact ei, hB.mono fun _ _ h => ?_⟩
          obtain ⟨a, e, h⟩ := h
          refine ⟨a, e, ?_⟩
          rw [mask_ne]
          · exact h
          · intro z
            rw [z, mask_ne nfp, ef5] at h
            cases h
        · intro r hr
          rcases List.mem_append.mp hr with z | z
          · exact rok r z
          · rw [List.mem_singleton.mp z]
            exact ⟨by omega, by omega, (List.nodup_append.mp nd2).1, fun it hit => pm.mem_iff.mp (List.mem_append_left _ (List.mem_map.mpr ⟨it, hit, rfl⟩)), lm⟩
        · exact (hP5.put (hP.cell hfa) ef5 (fun _ z => by cases z) (fun _ z => by cases z)).mono (by omega)
        · rw [mask_upd_ne nfp]
          exact (g2.trans g5).upd (by rw [mask_ne nfp]; exact hfa)
    · rintro σ' H2 ⟨v4, v5, v6, v7, v8, vs, rs, rfl, ef, hA, li, rok, hP2, g2⟩
      exact ⟨_, rfl, k _ rs H2 (by omega) (by omega) rok (hP2.mono (by omega)) g2 ⟨fa, vs, rfl, by rw [mask_ne nfp]; exact ef, hA.mono fun _ _ h => h.ext (mask_ext fa _)⟩⟩
end
end Z
set_option Elab.async false
set_option linter.all false
set_option maxRecDepth 100000
set_option maxHeartbeats 4000000
namespace Z
open PySem L2 PyProof.Rows ZX GX TL
/-! a store that the law draws -/
abbrev s_l_store : Stmt := topS 35
abbrev N_store : List Str := ["_law_pen_here", "_law_many", "_law_mends", "_law_room", "_law_nodes", "_law_rooms", "_law_new", "_law_labels", "_law_k", "_law_name_here", "_law_store", "_law_lap"]
theorem sc_l_store : FnScope N_store ["_law_pen_here", "_law_many", "_law_mends", "_law_room"] (defScope s_l_store) := ⟨rfl, rfl, rfl, by decide +kernel, rfl, by decide +kernel, by decide +kernel⟩
structure NodeR where
  name : Str
  room : Nat
  isNew : Bool
structure StoreR where
  file : Nat
  nodes : List NodeR
  mends : List MendR
  readers : List (List Place)
def namesOf (xs : List NodeR) : List Str := xs.map (·.name)
def newsOf (xs : List NodeR) : List Str := (xs.filter (·.isNew)).map (·.name)
def roomsD (xs : List NodeR) : List (Key × V) := xs.map fun x => (.inr x.name, .int (x.room : Int))
def StoreR.names (s : StoreR) : List Str := namesOf s.nodes
def storeD (file : Nat) (na ra wa ma qa : Addr) : List (Key × V) := [(.inr "file", .int (file : Int)), (.inr "nodes", .ref na), (.inr "rooms", .ref ra), (.inr "new", .ref wa), (.inr "mends", .ref ma), (.inr "readers", .ref qa)]
def StoreV (H : Hp) (v : V) (s : StoreR) : Prop := ∃ a na ra wa ma qa mvs, v = .ref a ∧ H a = some (.dK (storeD s.file na ra wa ma qa)) ∧ H na = some (.lst (s.names.map V.str)) ∧ H ra = some (.dK (roomsD s.nodes)) ∧ H wa = some (.lst ((newsOf s.nodes).map V.str)) ∧
  H ma = some (.lst mvs) ∧ All2 (MendV H) mvs s.mends ∧ ReadersV H (.ref qa) s.readers
theorem StoreV.ext {H H' : Hp} {v : V} {s : StoreR} (x : Ext H H') (h : StoreV H v s) : StoreV H' v s := by
  obtain ⟨a, na, ra, wa, ma, qa, mvs, e, e1, e2, e3, e4, e5, e6, e7⟩ := h
  exact ⟨a, na, ra, wa, ma, qa, mvs, e, x _ _ e1 (fun _ z => by cases z), x _ _ e2 (fun _ z => by cases z), x _ _ e3 (fun _ z => by cases z), x _ _ e4 (fun _ z => by cases z), x _ _ e5 (fun _ z => by cases z), e6.mono fun _ _ => MendV.ext x, e7.ext x⟩
structure StoreOk (s : StoreR) : Prop where
  file : 1 ≤ s.file ∧ s.file ≤ 40
  pos : 1 ≤ s.nodes.length
  few : s.nodes.length ≤ 7
  nd : s.names.Nodup
  name : ∀ x ∈ s.names, NameW 11 x
  room : ∀ x ∈ s.nodes, x.room ≤ 40
  old : ∃ x ∈ s.nodes, x.isNew = false
  mfew : s.mends.length ≤ 12
  mnd : (s.mends.map (·.label)).Nodup
  mname : ∀ m ∈ s.mends, NameW 11 m.label
  mok : ∀ m ∈ s.mends, MendOk s.names m
  rpos : 1 ≤ s.readers.length
  rfew : s.readers.length ≤ 9
  rok : ∀ r ∈ s.readers, ReaderOk s.names r
def spStore (T : List Addr) : Sp := fun vs H Q _ => ∃ (p l : Addr) (n many mends room : Nat), vs = [.ref p, .int (many : Int), .int (mends : Int), .int (room : Int)] ∧ PT T H p l n ∧ n < 2 ^ 35 ∧ 1 ≤ many ∧ many ≤ 7 ∧ mends ≤ 12 ∧ 1 ≤ room ∧ room ≤ 40 ∧
  ∀ (v : V) (s : StoreR) (H' : Hp), StoreOk s → s.readers.length ≤ 8 → PT T H' p l (n + 5000) → Gr T (mask p H) (mask p H') → StoreV (mask p H') v s → Q v H'
theorem dget {H : Hp} {a : Addr} {kvs : List (Key × V)} {k : Str} {v : V} (h : H a = some (.dK kvs)) (e : valV kvs (Sum.inr k : Key) = some v) : DGet H a (.str k) (some v) := e ▸ DGet.k (k := Sum.inr k) h
theorem valV_rooms {xs : List NodeR} {x : Str} (h : x ∉ namesOf xs) : valV (roomsD xs) (Sum.inr x : Key) = none := by
  induction xs with
  | nil => rfl
  | cons y ys ih =>
    have h1 : x ≠ y.name := fun z => h (by rw [z]; exact List.mem_cons_self ..)
    have h2 : x ∉ namesOf ys := fun z => h (List.mem_cons_of_mem _ z)
    have := ih h2
    unfold valV at this ⊢
    show Option.map _ (List.find? _ ((Sum.inr y.name, V.int (y.room : Int)) :: roomsD ys)) = none
    rw [List.find?_cons_of_neg]
    · exact this
    · intro z
      have := of_decide_eq_true z
      injection this with this
      exact h1 this.symm
theorem mend_ne {m : MendR} {a b : Addr} {fl : Nat} {na ra wa ma qa : Addr} : mendD m a b ≠ storeD fl na ra wa ma qa := fun h => by
  have := congrArg List.length h
  unfold mendD storeD at this
  simp at this
theorem MendV.putS {H : Hp} {v : V} {m : MendR} {q : Addr} {o' : HO} {fl : Nat} {na ra wa ma qa : Addr} (hq : H q = some (.dK (storeD fl na ra wa ma qa))) (h : MendV H v m) : MendV (L2.upd H q o') v m := by
  obtain ⟨a, n1, r1, rvs, e, e1, e2, e3, e4⟩ := h
  refine ⟨a, n1, r1, rvs, e, ?_, ?_, ?_, e4.mono fun _ _ h => h.put hq (fun _ z => by cases z) (fun _ z => by cases z)⟩
  · rw [upd_ne]
    · exact e1
    · intro z
      rw [z, hq] at e1
      have := Option.some.inj e1
      injection this with this
      exact mend_ne this.symm
  · rw [upd_ne]
    · exact e2
    · intro z
      rw [z, hq] at e2
      cases e2
  · rw [upd_ne]
    · exact e3
    · intro z
      rw [z, hq] at e3
      cases e3
theorem PlacesV.putD {H : Hp} {v : V} {r : List Place} {q : Addr} {kvs : List (Key × V)} {o' : HO} (hq : H q = some (.dK kvs)) (h : PlacesV H v r) : PlacesV (L2.upd H q o') v r := by
  obtain ⟨a, vs, e, e1, e2⟩ := h
  refine ⟨a, vs, e, ?_, e2.mono fun _ _ h => h.put hq (fun _ z => by cases z)⟩
  rw [upd_ne]
  · exact e1
  · intro z
    rw [z, hq] at e1
    cases e1
theorem mask3_put {p u m : Addr} {H : Hp} {o : HO} : mask m (mask u (mask p (upd H m o))) = mask m (mask u (mask p H)) := by
  funext b
  unfold mask
  split
  · rfl
  · split
    · rfl
    · split
      · rfl
      · exact upd_ne (by assumption)
theorem DG.at {T : List Addr} {p l u b : Addr} {n : Nat} {A B : Hp} {o : HO} (g : DG T p l u A B n) (nb : b ≠ p) (nu : b ≠ u) (e : A b = some o) (no : ∀ ps, o ≠ .tbl ps) : B b = some o := by
  have := g.gr.ext b o (by rw [mask_ne nu, mask_ne nb]; exact e) no
  rwa [mask_ne nu, mask_ne nb] at this
theorem nd_snoc {α : Type} {xs : List α} {x : α} (h : xs.Nodup) (n : x ∉ xs) : (xs ++ [x]).Nodup := by
  refine List.nodup_append.mpr ⟨h, List.nodup_cons.mpr ⟨by simp, List.nodup_nil⟩, ?_⟩
  intro a ha b hb z
  rw [List.mem_singleton.mp hb] at z
  exact n (z ▸ ha)
theorem all_snoc {α : Type} {P : α → Prop} {xs : List α} {x : α} (h : ∀ y ∈ xs, P y) (n : P x) : ∀ y ∈ xs ++ [x], P y := fun y hy => by
  rcases List.mem_append.mp hy with z | z
  · exact h y z
  · rw [List.mem_singleton.mp z]
    exact n
section
variable {P : Program} {w : World} {K : PySem.W.Frag} {mg : Str → Option Value} {base : Heap} {T : List Addr}
theorem ok_l_store {f : Addr} {fd : FuncData} (F : Fun K "_law_any_store" "_law_any_store" s_l_store f fd) (br : mg "range" = none) (bn : mg "len" = none) (be : mg "enumerate" = none) (D : Fx P w K mg base "_law_draw" 1 ["_law_pen_here", "_law_many"] (spDr T)) (PK : Fx P w K mg base "_law_pick" 2 ["_law_pen_here", "_law_some"] (spPk T K))
    (NM : Fx P w K mg base "_law_name" 3 ["_law_pen_here", "_law_used"] (spName T)) (NS : Fx P w K mg base "_law_names" 4 ["_law_pen_here", "_law_many"] (spNames T)) (MD : Fx P w K mg base "_law_some_mend" 4 ["_law_pen_here", "_law_nodes", "_law_label"] (spMend T)) (RD : Fx P w K mg base "_law_some_readers" 3 ["_law_pen_here", "_law_nodes", "_law_many"] (spReaders T)) :
    FnOk P w K mg base CX0 5 f fd ["_law_pen_here", "_law_many", "_law_mends", "_law_room"] (spStore T) := by
  refine F.ok sc_l_store (fun vs H Q E h => ?_) (fun cdv A outer s H vs Q E hr h => ?_)
  · obtain ⟨p, l, n, many, mends, room, rfl, _⟩ := h
    rfl
  · obtain ⟨p, l, n, many, mends, room, rfl, hP, hn, ha1, ha7, hm12, hr1', hr40, k⟩ := h
    have hr1 : Room 1 _ := hr.mono (by decide)
    have hr2 : Room 2 _ := hr.mono (by decide)
    have hr3 : Room 3 _ := hr.mono (by decide)
    have hu := hu_of hr
    refine ⟨_, (pss_cons (ps_set (i := 4) sc_l_store.nd rfl (Or.inl rfl) (pe_fx NS hr (pa_cons (pv 0) (pa_cons (pe_op op_add pe_int (pe_fx D hr1 (pa_cons (pv 0) (pa_cons (pv 1) pa_nil)))) pa_nil))))
      (pss_cons (ps_par3 (i := 5) (j := 6) (l := 7) (by rfl) sc_l_store.nd rfl rfl rfl (by decide) (by decide) (by decide) rfl rfl rfl (pa_cons pe_dnewK (pa_cons (pe_lst pa_nil) (pa_cons (pe_lst pa_nil) pa_nil))) (by rfl))
      (pss_cons (ps_for PassesOwn.never rfl (pi_enum (by rfl) be (pa_cons (pv 4) pa_nil)) (pg_tup rfl (pgs_cons (pg_name (i := 8) sc_l_store.nd rfl (Or.inl rfl)) (pgs_cons (pg_name (i := 9) sc_l_store.nd rfl (Or.inl rfl)) pgs_nil)))
        (pss_cons (ps_dput hu (pv 5) (pv 9) (pe_fx PK hr2 (pa_cons (pv 0) (pa_cons (pe_lst (pa_cons (pe_fx D hr1 (pa_cons (pv 0) (pa_cons (pe_op op_add (pv 3) pe_int) pa_nil))) (pa_cons (pe_op op_add pe_int (pe_fx D hr1 (pa_cons (pv 0) (pa_cons (pv 3) pa_nil)))) (pa_cons (pv 3) pa_nil)))) pa_nil))) rfl)
        (pss_one (ps_if (PW.pt (pw_and (pt_cmpR op_gt (pv 8) pe_int (nomark _)) (pw_and1 (pt_cmpR op_eq (pe_fx D hr1 (pa_cons (pv 0) (pa_cons pe_int pa_nil))) pe_int (nomark _)))))
          (pss_one (ps_expr (pe_bm PySem.F.plainAttrs_list PySem.F.slot_list_append PySem.F.type_list_append mt_append (pv 6) (pa_cons (pv 9) pa_nil)))) pss_nil))))
      (pss_cons (ps_set (i := 10) sc_l_store.nd rfl (Or.inl rfl) (pe_disp (pps_cons pe_str (pe_op op_add pe_int (pe_fx D hr1 (pa_cons (pv 0) (pa_cons pe_int pa_nil)))) (pps_cons pe_str (pv 4) (pps_cons pe_str (pv 5) (pps_cons pe_str (pv 6) (pps_cons pe_str (pe_lst pa_nil) (pps_cons pe_str (pe_lst pa_nil) pps_nil)))))) (by rfl) (by rfl) (fun z => by cases z) (by decide)))
      (C8.pss_cut (ps_for PassesOwn.never rfl (pi_range1 (by rfl) br (pa_cons (pe_ifExp (pt_cmpR op_gt (pe_callB lenH (by rfl) bn (by decide +kernel) (pa_cons (pv 4) pa_nil)) pe_int (nomark _)) (pe_fx D hr1 (pa_cons (pv 0) (pa_cons (pe_op op_add (pv 2) pe_int) pa_nil))) pe_int) pa_nil)) (pg_name (i := 11) sc_l_store.nd rfl (Or.inl rfl))
        (pss_one (ps_expr (pe_bm PySem.F.plainAttrs_list PySem.F.slot_list_append PySem.F.type_list_append mt_append (pe_dget hu (pv 10) pe_str (fun _ _ => rfl)) (pa_cons (pe_fx MD hr (pa_cons (pv 0) (pa_cons (pv 4) (pa_cons (pe_fx NM hr3 (pa_cons (pv 0) (pa_cons (pv 7) pa_nil))) pa_nil)))) pa_nil)))))
      (pss_cons (ps_dput hu (pv 10) pe_str (pe_fx RD hr3 (pa_cons (pv 0) (pa_cons (pv 4) (pa_cons (pe_fx PK hr2 (pa_cons (pv 0) (pa_cons (pe_lst (pa_cons pe_int (pa_cons pe_int (pa_cons pe_int (pa_cons pe_int pa_nil))))) pa_nil))) pa_nil)))) rfl)
      (pss_one (ps_ret (pv 10))))))))), ?_⟩
    have big : ∀ {m : Nat}, m ≤ 1000 → m ≤ sizeLine := fun h => Nat.le_of_lt (lsz h)
    -- the nodes
    refine ⟨_, rfl, _, rfl, _, rfl, p, l, n, many, rfl, hP, by omega, by omega, by omega, fun d H1 d0 d1 hP1 e1 => ?_⟩
    obtain ⟨c, hc⟩ : ∃ c : Nat, (1 + d : Int) = (c : Int) := ⟨(1 + d).toNat, by omega⟩
    refine ⟨_, _, rfl, rfl, ?_⟩
    refine ⟨p, l, n + 1, c, (by rw [← hc]; rfl), hP1, by omega, by omega, fun v ns H2 lns nd nmW hP2 g2 hN2 => ?_⟩
    obtain ⟨na, rfl, en2m⟩ := hN2
    have g2' : Gr T (mask p H) (mask p H2) := (Gr.ofeq (T := T) e1).trans g2
    have en2 : H2 na = some (.lst (ns.map V.str)) := un_mask en2m
    have nnp : na ≠ p := hP2.un en2
    -- what is told of them
    refine fun ra hra => ⟨(by show 0 ≤ sizeLine; exact Nat.zero_le _), fun wa hwa => ⟨(by show 0 ≤ sizeLine; exact Nat.zero_le _), fun la hla => ⟨_, _, _, rfl, ?_⟩⟩⟩
    have nwr : wa ≠ ra := fun z => by rw [z, upd_same] at hwa; cases hwa
    have hwa0 : H2 wa = none := by rw [upd_ne nwr] at hwa; exact hwa
    have nlw : la ≠ wa := fun z => by rw [z, upd_same] at hla; cases hla
    have nlr : la ≠ ra := fun z => by rw [z, upd_ne nwr.symm, upd_same] at hla; cases hla
    have hla0 : H2 la = none := by rw [upd_ne nlw, upd_ne nlr] at hla; exact hla
    have nrp := hP2.fresh hra
    have nwp := hP2.fresh hwa0
    have nlp := hP2.fresh hla0
    have nna : na ≠ ra ∧ na ≠ wa ∧ na ≠ la := ⟨(fun z => by rw [← z, en2] at hra; cases hra), (fun z => by rw [← z, en2] at hwa0; cases hwa0), (fun z => by rw [← z, en2] at hla0; cases hla0)⟩
    have hP3 : PT T (upd (upd (upd H2 ra (.dK [])) wa (.lst [])) la (.lst [])) p l (n + 1 + 9 * c) := ((hP2.gr (Gr.new hra)).gr (Gr.new hwa)).gr (Gr.new hla)
    have g3 : Gr T (mask p H2) (mask p (upd (upd (upd H2 ra (.dK [])) wa (.lst [])) la (.lst []))) := ((gr_newm hra).trans (gr_newm hwa)).trans (gr_newm hla)
    have er3 : (upd (upd (upd H2 ra (.dK [])) wa (.lst [])) la (.lst [])) ra = some (.dK []) := by rw [upd_ne nlr.symm, upd_ne nwr.symm, upd_same]
    have ew3 : (upd (upd (upd H2 ra (.dK [])) wa (.lst [])) la (.lst [])) wa = some (.lst []) := by rw [upd_ne nlw.symm, upd_same]
    have el3 : (upd (upd (upd H2 ra (.dK [])) wa (.lst [])) la (.lst [])) la = some (.lst []) := upd_same
    have en3 := g3.at nnp en2 (fun _ z => by cases z)
    generalize upd (upd (upd H2 ra (.dK [])) wa (.lst [])) la (.lst []) = H3 at hP3 g3 er3 ew3 el3 en3 ⊢
    refine ⟨_, rfl, na, _, rfl, SqL.of en3, for_it walk_enum (fun i σ' H' => ∃ (v8 v9 : Option V) (xs : List NodeR), σ' = [some (.ref p), some (.int (many : Int)), some (.int (mends : Int)), some (.int (room : Int)), some (.ref na), some (.ref ra), some (.ref wa), some (.ref la), v8, v9, none, none] ∧
        namesOf xs = ns.take i ∧ (∀ x ∈ xs, x.room ≤ 40) ∧ (0 < i → ∃ x ∈ xs, x.isNew = false) ∧ H' ra = some (.dK (roomsD xs)) ∧ H' wa = some (.lst ((newsOf xs).map V.str)) ∧ H' la = some (.lst []) ∧ H' na = some (.lst (ns.map V.str)) ∧ PT T H' p l (n + 1 + 9 * c + 4 * i) ∧ Gr T (mask p H2) (mask p H'))
      ⟨none, none, [], rfl, rfl, (fun _ h => by cases h), (fun h => absurd h (Nat.lt_irrefl _)), er3, ew3, el3, en3, hP3, g3⟩ (fun i σ' H' _ h => by obtain ⟨_, _, _, _, _, _, _, _, _, _, h, _⟩ := h; exact SqL.of h) ?_ ?_⟩
    · rintro i x σ' H4 H4' hi ⟨v8, v9, xs, rfl, hxs, rm, ol, er, ew, el, en, hP4, g4⟩ hy
      obtain ⟨tp, x1, x2, rfl, htp, rfl, hx1, hx2⟩ := hy
      rw [List.length_map] at hi
      have hx1 : V.int ((i : Nat) : Int) = x1 := Option.some.inj hx1
      have hx2 : V.str ns[i] = x2 := by
        have hx2 : (ns.map V.str)[i]? = some x2 := hx2
        rw [List.getElem?_map, List.getElem?_eq_getElem hi] at hx2
        exact Option.some.inj hx2
      subst hx1 hx2
      have lxs : xs.length = i := by
        have := congrArg List.length hxs
        unfold namesOf at this
        rw [List.length_map, List.length_take] at this
        omega
      refine ⟨tp, _, rfl, SqT.of upd_same, rfl, _, _, rfl, _, _, rfl, rfl, ?_⟩
      have ntp := hP4.fresh htp
      have ntr : ra ≠ tp := fun z => by rw [← z, er] at htp; cases htp
      have ntw : wa ≠ tp := fun z => by rw [← z, ew] at htp; cases htp
      have ntl : la ≠ tp := fun z => by rw [← z, el] at htp; cases htp
      have ntn : na ≠ tp := fun z => by rw [← z, en] at htp; cases htp
      have hP5 := hP4.gr (Gr.new (o := .tup [.int (i : Int), .str ns[i]]) htp)
      have g5 : Gr T (mask p H2) (mask p (upd H4 tp (.tup [.int (i : Int), .str ns[i]]))) := g4.trans (gr_newm htp)
      have er5 : (upd H4 tp (.tup [.int (i : Int), .str ns[i]])) ra = some (.dK (roomsD xs)) := by rw [upd_ne ntr]; exact er
      have ew5 : (upd H4 tp (.tup [.int (i : Int), .str ns[i]])) wa = some (.lst ((newsOf xs).map V.str)) := by rw [upd_ne ntw]; exact ew
      have el5 : (upd H4 tp (.tup [.int (i : Int), .str ns[i]])) la = some (.lst []) := by rw [upd_ne ntl]; exact el
      have en5 : (upd H4 tp (.tup [.int (i : Int), .str ns[i]])) na = some (.lst (ns.map V.str)) := by rw [upd_ne ntn]; exact en
      generalize upd H4 tp (.tup [.int (i : Int), .str ns[i]]) = H5 at hP5 g5 er5 ew5 el5 en5 ⊢
      -- its room
      refine ⟨_, rfl, _, rfl, _, rfl, _, _, rfl, rfl, p, l, _, _, rfl, hP5, by omega, by omega, by omega, fun a H6 a0 a1 hP6 e6 => ?_⟩
      refine ⟨_, rfl, _, rfl, p, l, _, _, rfl, hP6, by omega, by omega, by omega, fun b H7 b0 b1 hP7 e7 => ?_⟩
      refine ⟨_, _, rfl, rfl, _, rfl, (by show 3 ≤ sizeLine; exact big (by decide)), fun q3 hq3 => ?_⟩
      refine ⟨p, l, q3, _, _, rfl, hP7.gr (Gr.new hq3), by omega, .inl (SqL.of upd_same), (by show 0 < 3; decide), (by show 3 < 1000; decide), fun v H8 hv hP8 e8 => ?_⟩
      obtain ⟨z, hz, rfl⟩ := pick_of [a, 1 + b, (room : Int)] hv
      obtain ⟨r, rfl⟩ : ∃ r : Nat, z = (r : Int) := ⟨z.toNat, by
        simp only [List.mem_cons, List.not_mem_nil, or_false] at hz
        omega⟩
      have hr40 : r ≤ 40 := by
        simp only [List.mem_cons, List.not_mem_nil, or_false] at hz
        omega
      have g8' : Gr T (mask p H5) (mask p H8) := by
        rw [e8, ← e6, ← e7]
        exact gr_newm hq3
      have er8 := g8'.at nrp er5 (fun _ z => by cases z)
      have ew8 := g8'.at nwp ew5 (fun _ z => by cases z)
      have el8 := g8'.at nlp el5 (fun _ z => by cases z)
      have en8 := g8'.at nnp en5 (fun _ z => by cases z)
      have fresh : ns[i] ∉ namesOf xs := fun z => by
        rw [hxs] at z
        obtain ⟨j, hj, e⟩ := List.getElem_of_mem z
        rw [List.length_take] at hj
        rw [List.getElem_take] at e
        have := (List.getElem_inj nd).mp e
        omega
      refine ⟨_, rfl, _, rfl, ra, _, rfl, DPut.k (k := Sum.inr ns[i]) er8 (by unfold roomsD; rw [List.length_map, lxs]; exact lsz (by omega)), ?_⟩
      rw [putK_new _ (valV_rooms fresh)]
      have e9 : roomsD xs ++ [((Sum.inr ns[i] : Key), V.int (r : Int))] = roomsD (xs ++ [⟨ns[i], r, false⟩]) ∧ roomsD xs ++ [((Sum.inr ns[i] : Key), V.int (r : Int))] = roomsD (xs ++ [⟨ns[i], r, true⟩]) := by
        constructor
        · unfold roomsD
          rw [List.map_append]
          rfl
        · unfold roomsD
          rw [List.map_append]
          rfl
      have hP9 : PT T (upd H8 ra (.dK (roomsD xs ++ [((Sum.inr ns[i] : Key), V.int (r : Int))]))) p l (n + 1 + 9 * c + 4 * i + 3) := hP8.putD nrp er8
      have g9 : Gr T (mask p H2) (mask p (upd H8 ra (.dK (roomsD xs ++ [((Sum.inr ns[i] : Key), V.int (r : Int))])))) := by
        rw [mask_upd_ne nrp]
        exact (g5.trans g8').upd (by rw [mask_ne nrp]; exact hra)
      have er9 : (upd H8 ra (.dK (roomsD xs ++ [((Sum.inr ns[i] : Key), V.int (r : Int))]))) ra = some (.dK (roomsD xs ++ [((Sum.inr ns[i] : Key), V.int (r : Int))])) := upd_same
      have ew9 : (upd H8 ra (.dK (roomsD xs ++ [((Sum.inr ns[i] : Key), V.int (r : Int))]))) wa = some (.lst ((newsOf xs).map V.str)) := by rw [upd_ne nwr]; exact ew8
      have el9 : (upd H8 ra (.dK (roomsD xs ++ [((Sum.inr ns[i] : Key), V.int (r : Int))]))) la = some (.lst []) := by rw [upd_ne nlr]; exact el8
      have en9 : (upd H8 ra (.dK (roomsD xs ++ [((Sum.inr ns[i] : Key), V.int (r : Int))]))) na = some (.lst (ns.map V.str)) := by rw [upd_ne nna.1]; exact en8
      generalize upd H8 ra (.dK (roomsD xs ++ [((Sum.inr ns[i] : Key), V.int (r : Int))])) = H9 at hP9 g9 er9 ew9 el9 en9 ⊢
      have old : ∀ {H' : Hp}, PT T H' p l (n + 1 + 9 * c + 4 * i + 4) → mask p H' = mask p H9 → ∃ (v8 v9 : Option V) (xs : List NodeR), [some (V.ref p), some (.int (many : Int)), some (.int (mends : Int)), some (.int (room : Int)), some (.ref na), some (.ref ra), some (.ref wa), some (.ref la), some (.int (i : Int)), some (.str ns[i]), none, none] = [some (V.ref p), some (.int (many : Int)), some (.int (mends : Int)), some (.int (room : Int)), some (.ref na), some (.ref ra), some (.ref wa), some (.ref la), v8, v9, none, none] ∧
          namesOf xs = ns.take (i + 1) ∧ (∀ x ∈ xs, x.room ≤ 40) ∧ (0 < i + 1 → ∃ x ∈ xs, x.isNew = false) ∧ H' ra = some (.dK (roomsD xs)) ∧ H' wa = some (.lst ((newsOf xs).map V.str)) ∧ H' la = some (.lst []) ∧ H' na = some (.lst (ns.map V.str)) ∧ PT T H' p l (n + 1 + 9 * c + 4 * (i + 1)) ∧ Gr T (mask p H2) (mask p H') := fun {H'} hq e => by
        have gq : Gr T (mask p H9) (mask p H') := .ofeq e
        refine ⟨_, _, xs ++ [⟨ns[i], r, false⟩], rfl, ?_, all_snoc rm hr40, fun _ => ⟨⟨ns[i], r, false⟩, by simp, rfl⟩, ?_, ?_, gq.at nlp el9 (fun _ z => by cases z), gq.at nnp en9 (fun _ z => by cases z), hq.mono (by omega), g9.trans gq⟩
        · rw [take_snoc (List.getElem?_eq_getElem hi), ← hxs]
          unfold namesOf
          rw [List.map_append]
          rfl
        · rw [← e9.1]
          exact gq.at nrp er9 (fun _ z => by cases z)
        · have : newsOf (xs ++ [⟨ns[i], r, false⟩]) = newsOf xs := by
            unfold newsOf
            rw [List.filter_append]
            simp
          rw [this]
          exact gq.at nwp ew9 (fun _ z => by cases z)
      refine ⟨_, rfl, _, _, rfl, rfl, _, rfl, ?_⟩
      refine ite2 (fun hpos => ?_) (fun _ => iteF (old (hP9.mono (by omega)) rfl))
      have hpos : 0 < i := by
        have := of_decide_eq_true hpos
        omega
      refine ⟨_, rfl, p, l, _, 5, rfl, hP9, by omega, by decide, by decide, fun a H10 a0 a1 hP10 e10 => ?_⟩
      refine ⟨rfl, _, rfl, ?_⟩
      refine ite2 (fun _ => ?_) (fun _ => old hP10 e10)
      have g10 : Gr T (mask p H9) (mask p H10) := .ofeq e10
      have ew10 := g10.at nwp ew9 (fun _ z => by cases z)
      have lnew : (newsOf xs).length ≤ xs.length := by
        unfold newsOf
        rw [List.length_map]
        exact List.length_filter_le ..
      refine ⟨_, rfl, .inl ⟨rfl, _, SqL.of ew10⟩, _, rfl, wa, _, _, rfl, rfl, ew10, (by rw [List.length_map]; exact lsz (by omega)), ?_⟩
      obtain ⟨x0, hx0, e0⟩ := ol hpos
      refine ⟨_, _, xs ++ [⟨ns[i], r, true⟩], rfl, ?_, all_snoc rm hr40, fun _ => ⟨x0, List.mem_append_left _ hx0, e0⟩, ?_, ?_, ?_, ?_, ?_, ?_⟩
      · rw [take_snoc (List.getElem?_eq_getElem hi), ← hxs]
        unfold namesOf
        rw [List.map_append]
        rfl
      · rw [← e9.2, upd_ne nwr.symm]
        exact g10.at nrp er9 (fun _ z => by cases z)
      · have : newsOf (xs ++ [⟨ns[i], r, true⟩]) = newsOf xs ++ [ns[i]] := by
          unfold newsOf
          rw [List.filter_append, List.map_append]
          rfl
        rw [this, List.map_append]
        exact upd_same
      · rw [upd_ne nlw]
        exact g10.at nlp el9 (fun _ z => by cases z)
      · rw [upd_ne nna.2.1]
        exact g10.at nnp en9 (fun _ z => by cases z)
      · exact (hP10.put (hP2.cell hwa0) ew10 (fun _ z => by cases z) (fun _ z => by cases z)).mono (by omega)
      · rw [mask_upd_ne nwp]
        exact (g9.trans g10).upd (by rw [mask_ne nwp]; exact hwa0)
    · rintro σ' H4 ⟨v8, v9, xs, rfl, hxs, rm, ol, er, ew, el, en, hP4, g4⟩
      have lt : ns.take ns.length = ns := List.take_length
      rw [List.length_map] at hxs ol hP4
      rw [lt] at hxs
      have lxs : xs.length = ns.length := by
        rw [← hxs]
        unfold namesOf
        rw [List.length_map]
      -- the dict of the store
      refine fun pd hpd => ⟨_, rfl, p, l, _, 10, rfl, hP4.gr (Gr.new hpd), by omega, by decide, by decide, fun d H5 d0 d1 hP5 e5 => ?_⟩
      have npd := hP4.fresh hpd
      obtain ⟨fl, hfl⟩ : ∃ fl : Nat, (1 + d : Int) = (fl : Int) := ⟨(1 + d).toNat, by omega⟩
      have g5 : Gr T (mask p H4) (mask p H5) := by
        rw [e5]
        exact gr_newm hpd
      have ed5 : H5 pd = some (.dK []) := by
        have := congrFun e5 pd
        rw [mask_ne npd, mask_ne npd, upd_same] at this
        exact this
      refine ⟨_, _, rfl, rfl, _, rfl, _, rfl, _, rfl, (by show 0 ≤ sizeLine; exact Nat.zero_le _), fun ma hma => ?_⟩
      have nmp := hP5.fresh hma
      have nmd : ma ≠ pd := fun z => by rw [z, ed5] at hma; cases hma
      refine ⟨(by show 0 ≤ sizeLine; exact Nat.zero_le _), fun qa hqa => ?_⟩
      have nqm : qa ≠ ma := fun z => by rw [z, upd_same] at hqa; cases hqa
      have hqa0 : H5 qa = none := by rw [upd_ne nqm] at hqa; exact hqa
      have nqp := hP5.fresh hqa0
      have nqd : qa ≠ pd := fun z => by rw [z, ed5] at hqa0; cases hqa0
      have ed6 : (upd (upd H5 ma (.lst [])) qa (.lst [])) pd = some (.dK []) := by rw [upd_ne nqd.symm, upd_ne nmd.symm]; exact ed5
      refine ⟨ed6, storeD fl na ra wa ma qa, (by unfold storeD; rw [← hfl]; rfl), (by show 6 ≤ 15; decide), ?_⟩
      rw [show mergeK [] (storeD fl na ra wa ma qa) = storeD fl na ra wa ma qa by kernel_rfl]
      have er5 := g5.at nrp er (fun _ z => by cases z)
      have ew5 := g5.at nwp ew (fun _ z => by cases z)
      have el5 := g5.at nlp el (fun _ z => by cases z)
      have en5 := g5.at nnp en (fun _ z => by cases z)
      have ne5 : ∀ {b : Addr} {o : HO}, H5 b = some o → (∀ kvs, o = .dK kvs → b ≠ pd) → b ≠ pd := fun {b o} e n z => by
        rw [z, ed5] at e
        cases e
        exact n _ rfl z
      have nrd : ra ≠ pd := fun z => by rw [z, hpd] at er; cases er
      have nwd : wa ≠ pd := fun z => by rw [z, hpd] at ew; cases ew
      have nld : la ≠ pd := fun z => by rw [z, hpd] at el; cases el
      have nnd : na ≠ pd := fun z => by rw [z, hpd] at en; cases en
      have nrm : ra ≠ ma := fun z => by rw [← z, er5] at hma; cases hma
      have nwm : wa ≠ ma := fun z => by rw [← z, ew5] at hma; cases hma
      have nlm : la ≠ ma := fun z => by rw [← z, el5] at hma; cases hma
      have nnm : na ≠ ma := fun z => by rw [← z, en5] at hma; cases hma
      have nrq : ra ≠ qa := fun z => by rw [← z, er5] at hqa0; cases hqa0
      have nwq : wa ≠ qa := fun z => by rw [← z, ew5] at hqa0; cases hqa0
      have nlq : la ≠ qa := fun z => by rw [← z, el5] at hqa0; cases hqa0
      have nnq : na ≠ qa := fun z => by rw [← z, en5] at hqa0; cases hqa0
      have hP6 : PT T (upd (upd (upd H5 ma (.lst [])) qa (.lst [])) pd (.dK (storeD fl na ra wa ma qa))) p l (n + 1 + 9 * c + 4 * ns.length + 1) := ((hP5.gr (Gr.new hma)).gr (Gr.new hqa)).putD npd ed6
      have pd0 : H4 pd = none := hpd
      have g24 : Gr T (mask p H) (mask p H4) := g2'.trans g4
      have pdH : H pd = none := g24.stay' npd hpd
      have g6 : Gr T (mask p H) (mask p (upd (upd (upd H5 ma (.lst [])) qa (.lst [])) pd (.dK (storeD fl na ra wa ma qa)))) := by
        rw [mask_upd_ne npd]
        exact (((g24.trans g5).trans (gr_newm hma)).trans (gr_newm hqa)).upd (by rw [mask_ne npd]; exact pdH)
      have er6 : (upd (upd (upd H5 ma (.lst [])) qa (.lst [])) pd (.dK (storeD fl na ra wa ma qa))) ra = some (.dK (roomsD xs)) := by rw [upd_ne nrd, upd_ne nrq, upd_ne nrm]; exact er5
      have ew6 : (upd (upd (upd H5 ma (.lst [])) qa (.lst [])) pd (.dK (storeD fl na ra wa ma qa))) wa = some (.lst ((newsOf xs).map V.str)) := by rw [upd_ne nwd, upd_ne nwq, upd_ne nwm]; exact ew5
      have el6 : (upd (upd (upd H5 ma (.lst [])) qa (.lst [])) pd (.dK (storeD fl na ra wa ma qa))) la = some (.lst []) := by rw [upd_ne nld, upd_ne nlq, upd_ne nlm]; exact el5
      have en6 : (upd (upd (upd H5 ma (.lst [])) qa (.lst [])) pd (.dK (storeD fl na ra wa ma qa))) na = some (.lst (ns.map V.str)) := by rw [upd_ne nnd, upd_ne nnq, upd_ne nnm]; exact en5
      have em6 : (upd (upd (upd H5 ma (.lst [])) qa (.lst [])) pd (.dK (storeD fl na ra wa ma qa))) ma = some (.lst []) := by rw [upd_ne nmd, upd_ne nqm.symm, upd_same]
      have ep6 : (upd (upd (upd H5 ma (.lst [])) qa (.lst [])) pd (.dK (storeD fl na ra wa ma qa))) pd = some (.dK (storeD fl na ra wa ma qa)) := upd_same
      have hlla : l ≠ la := hP2.cell hla0
      have hlma : l ≠ ma := hP5.cell hma
      have laH : H la = none := g2'.stay' nlp hla0
      have maH : H ma = none := (g24.trans g5).stay' nmp hma
      generalize upd (upd (upd H5 ma (.lst [])) qa (.lst [])) pd (.dK (storeD fl na ra wa ma qa)) = H6 at hP6 g6 er6 ew6 el6 en6 em6 ep6 ⊢
      -- what stands between two mends
      have inv0 : ∀ (i : Nat) (Hx : Hp), Prop := fun _ _ => True
      refine ⟨fun σ' H' => ∃ (v8 v9 v11 : Option V) (mvs : List V) (ms : List MendR), σ' = [some (.ref p), some (.int (many : Int)), some (.int (mends : Int)), some (.int (room : Int)), some (.ref na), some (.ref ra), some (.ref wa), some (.ref la), v8, v9, some (.ref pd), v11] ∧
          H' ma = some (.lst mvs) ∧ All2 (MendV (mask ma (mask la (mask p H')))) mvs ms ∧ ms.length ≤ 12 ∧ (ms.map (·.label)).Nodup ∧ (∀ m ∈ ms, NameW 11 m.label) ∧ (∀ m ∈ ms, MendOk ns m) ∧ PT T H' p l (n + 2000) ∧ H' pd = some (.dK (storeD fl na ra wa ma qa)) ∧ H' na = some (.lst (ns.map V.str)) ∧ H' ra = some (.dK (roomsD xs)) ∧ H' wa = some (.lst ((newsOf xs).map V.str)) ∧ Gr T (mask p H) (mask p H'), ?_, ?_⟩
      · have loop : ∀ (c2 : Nat) (H7 : Hp), c2 ≤ 12 → (0 < c2 → 2 ≤ ns.length) → PT T H7 p l (n + 1 + 9 * c + 4 * ns.length + 2) → mask p H7 = mask p H6 →
            ∃ (v8' v9' : Option V) (σ0 : L2.St), σ0 = [some (.ref p), some (.int (many : Int)), some (.int (mends : Int)), some (.int (room : Int)), some (.ref na), some (.ref ra), some (.ref wa), some (.ref la), v8', v9', some (.ref pd), none] := fun _ _ _ _ _ _ => ⟨none, none, _, rfl⟩
        refine ⟨_, rfl, false, na, _, rfl, en6, _, _, rfl, rfl, _, rfl, ?_⟩
        refine ite2 (fun hlen => ?_) (fun hlen => ?_)
        · have hlen : 1 < ns.length := by
            have := of_decide_eq_true hlen
            rw [List.length_map] at this
            omega
          refine ⟨_, rfl, _, rfl, _, _, rfl, rfl, p, l, _, _, rfl, hP6, by omega, by omega, by omega, fun d' H7 d0' d1' hP7 e7 => ?_⟩
          obtain ⟨c2, rfl⟩ : ∃ c2 : Nat, d' = (c2 : Int) := ⟨d'.toNat, by omega⟩
          refine ⟨_, rfl, by omega, by omega, ?_⟩
          rw [Int.toNat_natCast]
          have g7 : Gr T (mask p H6) (mask p H7) := .ofeq e7
          refine for_range (lo := 0) (n := c2) (fun i σ' H' => ∃ (v11 : Option V) (mvs : List V) (ms : List MendR), σ' = [some (.ref p), some (.int (many : Int)), some (.int (mends : Int)), some (.int (room : Int)), some (.ref na), some (.ref ra), some (.ref wa), some (.ref la), v8, v9, some (.ref pd), v11] ∧
              H' ma = some (.lst mvs) ∧ H' la = some (.lst ((ms.map (·.label)).map V.str)) ∧ All2 (MendV (mask ma (mask la (mask p H')))) mvs ms ∧ ms.length = i ∧ (ms.map (·.label)).Nodup ∧ (∀ m ∈ ms, NameW 11 m.label) ∧ (∀ m ∈ ms, MendOk ns m) ∧ PT T H' p l (n + 1 + 9 * c + 4 * ns.length + 2 + 79 * i) ∧ H' pd = some (.dK (storeD fl na ra wa ma qa)) ∧ H' na = some (.lst (ns.map V.str)) ∧ H' ra = some (.dK (roomsD xs)) ∧ H' wa = some (.lst ((newsOf xs).map V.str)) ∧ Gr T (mask p H) (mask p H'))
            ⟨none, [], [], rfl, g7.at nmp em6 (fun _ z => by cases z), g7.at nlp el6 (fun _ z => by cases z), .nil, rfl, List.nodup_nil, (fun _ h => by cases h), (fun _ h => by cases h), hP7, g7.at npd ep6 (fun _ z => by cases z), g7.at nnp en6 (fun _ z => by cases z), g7.at nrp er6 (fun _ z => by cases z), g7.at nwp ew6 (fun _ z => by cases z), g6.trans g7⟩ ?_ ?_
          · rintro i σ' H8 hi ⟨v11, mvs, ms, rfl, em, el8, hA, lm, mnd, mnm, mok, hP8, ep8, en8, er8, ew8, g8⟩
            refine ⟨_, rfl, pd, _, rfl, dget (v := .ref ma) ep8 (by kernel_rfl), .inl ⟨rfl, _, SqL.of em⟩, _, rfl, _, rfl, _, rfl, _, rfl, ?_⟩
            refine ⟨p, l, la, _, ms.map (·.label), rfl, hP8, by omega, el8, hlla, by rw [List.length_map]; omega, fun x H9 hx hnot dg ela => ?_⟩
            have en9 := dg.at nnp nna.2.2 en8 (fun _ z => by cases z)
            have em9 := dg.at nmp nlm.symm em (fun _ z => by cases z)
            have ep9 := dg.at npd nld.symm ep8 (fun _ z => by cases z)
            have er9 := dg.at nrp nlr.symm er8 (fun _ z => by cases z)
            have ew9 := dg.at nwp nlw.symm ew8 (fun _ z => by cases z)
            have g9 : Gr T (mask p H) (mask p H9) := Gr.unmask (u := la) (by rw [mask_ne nlp]; exact laH) g8 dg.gr
            refine ⟨p, l, na, _, ns, x, rfl, dg.pt, by omega, en9, nd, by omega, by omega, fun v m H10 hml hmo hP10 g10 hmv => ?_⟩
            have em10 := g10.at nmp em9 (fun _ z => by cases z)
            have lms := hA.length
            refine ⟨ma, mvs, _, rfl, rfl, em10, lsz (by omega), ?_⟩
            have nolist : ∀ {b : Addr} {o : HO}, b ≠ p → H10 b = some o → (∀ ys, o ≠ .lst ys) → b ≠ ma := fun {b o} _ e n z => by
              rw [z, em10] at e
              exact n _ (Option.some.inj e).symm
            refine ⟨_, mvs ++ [v], ms ++ [m], rfl, upd_same, ?_, ?_, by rw [List.length_append, lm]; rfl, ?_, all_snoc mnm (by rw [hml]; exact hx), all_snoc mok hmo, ?_, ?_, ?_, ?_, ?_, ?_⟩
            · rw [upd_ne nlm, List.map_append, List.map_append]
              have := g10.at nlp ela (fun _ z => by cases z)
              rw [this, List.map_append]
              show some (HO.lst (List.map V.str (List.map (·.label) ms) ++ [V.str x])) = some (HO.lst (List.map V.str (List.map (·.label) ms) ++ [V.str m.label]))
              rw [hml]
            · rw [mask3_put]
              refine All2.snoc (hA.mono fun _ _ h => h.ext (dg.gr.mask.trans g10.mask.mask).ext) (hmv.ext fun b o e no => ?_)
              obtain ⟨h0, e⟩ := nw_some e
              rw [mask_ne (fun z => by rw [z, em9] at h0; cases h0), mask_ne (fun z => by rw [z, ela] at h0; cases h0), mask_ne (fun z => by obtain ⟨u, hu⟩ := dg.pt.hp; rw [z, hu] at h0; cases h0)]
              exact e
            · rw [List.map_append, List.map_cons, List.map_nil, hml]
              exact nd_snoc mnd hnot
            · exact (hP10.put hlma em10 (fun _ z => by cases z) (fun _ z => by cases z)).mono (by omega)
            · rw [upd_ne nmd.symm]
              exact g10.at npd ep9 (fun _ z => by cases z)
            · rw [upd_ne nnm]
              exact g10.at nnp en9 (fun _ z => by cases z)
            · rw [upd_ne nrm]
              exact g10.at nrp er9 (fun _ z => by cases z)
            · rw [upd_ne nwm]
              exact g10.at nwp ew9 (fun _ z => by cases z)
            · rw [mask_upd_ne nmp]
              exact (g9.trans g10).upd (by rw [mask_ne nmp]; exact maH)
          · rintro σ' H8 ⟨v11, mvs, ms, rfl, em, el8, hA, lm, mnd, mnm, mok, hP8, ep8, en8, er8, ew8, g8⟩
            exact ⟨v8, v9, v11, mvs, ms, rfl, em, hA, by omega, mnd, mnm, mok, hP8.mono (by omega), ep8, en8, er8, ew8, g8⟩
        · refine ⟨_, rfl, by decide, by decide, ?_⟩
          refine for_range (lo := 0) (n := 0) (fun i σ' H' => σ' = [some (.ref p), some (.int (many : Int)), some (.int (mends : Int)), some (.int (room : Int)), some (.ref na), some (.ref ra), some (.ref wa), some (.ref la), v8, v9, some (.ref pd), none] ∧ H' = H6) ⟨rfl, rfl⟩ (fun i σ' H' hi => absurd hi (Nat.not_lt_zero _)) ?_
          rintro σ' H' ⟨rfl, rfl⟩
          exact ⟨v8, v9, none, [], [], rfl, em6, .nil, Nat.zero_le _, List.nodup_nil, (fun _ h => by cases h), (fun _ h => by cases h), hP6.mono (by omega), ep6, en6, er6, ew6, g6⟩
      · rintro σ' H7 ⟨v8, v9, v11, mvs, ms, rfl, em7, hA7, lms, mnd, mnm, mok, hP7, ep7, en7, er7, ew7, g7⟩
        -- the readers
        refine ⟨_, rfl, _, rfl, _, rfl, (by show 4 ≤ sizeLine; exact big (by decide)), fun q4 hq4 => ?_⟩
        refine ⟨p, l, q4, _, _, rfl, hP7.gr (Gr.new hq4), by omega, .inl (SqL.of upd_same), (by show 0 < 4; decide), (by show 4 < 1000; decide), fun v H8 hv hP8 e8 => ?_⟩
        obtain ⟨z, hz, rfl⟩ := pick_of [3, 3, 3, 8] hv
        obtain ⟨r, rfl⟩ : ∃ r : Nat, z = (r : Int) := ⟨z.toNat, by
          simp only [List.mem_cons, List.not_mem_nil, or_false] at hz
          omega⟩
        have hr8 : 1 ≤ r ∧ r ≤ 8 := by
          simp only [List.mem_cons, List.not_mem_nil, or_false] at hz
          omega
        have g8 : Gr T (mask p H7) (mask p H8) := by
          rw [e8]
          exact gr_newm hq4
        have en8 := g8.at nnp en7 (fun _ z => by cases z)
        refine ⟨p, l, na, _, r, ns, rfl, hP8, by omega, en8, nd, by omega, by omega, by omega, by omega, fun v rs H9 r1 r2 rok hP9 g9 hrv => ?_⟩
        have ep9 := (g8.trans g9).at npd ep7 (fun _ z => by cases z)
        have en9 := (g8.trans g9).at nnp en7 (fun _ z => by cases z)
        have er9 := (g8.trans g9).at nrp er7 (fun _ z => by cases z)
        have ew9 := (g8.trans g9).at nwp ew7 (fun _ z => by cases z)
        have em9 := (g8.trans g9).at nmp em7 (fun _ z => by cases z)
        obtain ⟨qb, qvs, rfl, eqb, hq⟩ := hrv
        refine ⟨_, rfl, pd, _, rfl, DPut.k (k := Sum.inr "readers") ep9 (by show 6 < sizeLine; exact lsz (by decide)), ?_⟩
        rw [show putK (storeD fl na ra wa ma qa) (Sum.inr "readers") (.ref qb) = storeD fl na ra wa ma qb by kernel_rfl]
        refine ⟨_, rfl, k _ ⟨fl, xs, ms, rs⟩ _ ⟨?_, ?_, ?_, ?_, ?_, rm, ?_, lms, mnd, mnm, ?_, r1, ?_, ?_⟩ (by show rs.length ≤ 8; omega) ?_ ?_ ?_⟩
        · exact ⟨by show 1 ≤ fl; omega, by show fl ≤ 40; omega⟩
        · show 1 ≤ xs.length
          omega
        · show xs.length ≤ 7
          omega
        · show (namesOf xs).Nodup
          rw [hxs]
          exact nd
        · show ∀ x ∈ namesOf xs, NameW 11 x
          rw [hxs]
          exact nmW
        · exact ol (by omega)
        · show ∀ m ∈ ms, MendOk (namesOf xs) m
          rw [hxs]
          exact mok
        · show rs.length ≤ 9
          omega
        · show ∀ r ∈ rs, ReaderOk (namesOf xs) r
          rw [hxs]
          exact rok
        · exact (hP9.putD npd ep9).mono (by omega)
        · rw [mask_upd_ne npd]
          exact ((g7.trans g8).trans g9).upd (by rw [mask_ne npd]; exact pdH)
        · rw [mask_upd_ne npd]
          have mp : (mask p H9) pd = some (.dK (storeD fl na ra wa ma qa)) := by rw [mask_ne npd]; exact ep9
          refine ⟨pd, na, ra, wa, ma, qb, mvs, rfl, upd_same, ?_, ?_, ?_, ?_, ?_, ?_⟩
          · rw [upd_ne nnd, mask_ne nnp]
            show H9 na = some (.lst ((namesOf xs).map V.str))
            rw [hxs]
            exact en9
          · rw [upd_ne nrd, mask_ne nrp]
            exact er9
          · rw [upd_ne nwd, mask_ne nwp]
            exact ew9
          · rw [upd_ne nmd, mask_ne nmp]
            exact em9
          · refine hA7.mono fun _ _ h => ?_
            have ep7m : (mask p H7) pd = some (.dK (storeD fl na ra wa ma qa)) := by rw [mask_ne npd]; exact ep7
            refine MendV.putS (fl := fl) (na := na) (ra := ra) (wa := wa) (ma := ma) (qa := qa) mp ?_
            exact ((h.ext (mask_ext ma _)).ext (mask_ext la _)).ext (g8.trans g9).ext
          · refine ⟨qb, qvs, rfl, ?_, hq.mono fun _ _ h => PlacesV.putD mp h⟩
            rw [upd_ne]
            · exact eqb
            · intro z
              rw [z, mp] at eqb
              cases eqb
end
end Z
set_option Elab.async false
set_option linter.all false
set_option maxRecDepth 100000
set_option maxHeartbeats 4000000
namespace Z
open PySem L2 PyProof.Rows ZX GX TL
/-! the law's lines -/
abbrev s_l_lwords : Stmt := topS 36
abbrev s_l_zeros : Stmt := topS 37
abbrev N_lwords : List Str := ["_law_row", "_law_zeros_here", "_law_name_here", "_law_amount"]
theorem sc_l_lwords : FnScope N_lwords ["_law_row", "_law_zeros_here"] (defScope s_l_lwords) := ⟨rfl, rfl, rfl, by decide +kernel, rfl, by decide +kernel, by decide +kernel⟩
theorem sc_l_zeros : FnScope ["_law_number", "_law_zeros_here"] ["_law_number", "_law_zeros_here"] (defScope s_l_zeros) := ⟨rfl, rfl, rfl, by decide +kernel, rfl, by decide +kernel, by decide +kernel⟩
def itemW (z : Str) (it : Item) : Str := it.1 ++ ":" ++ zf z it.2
theorem zeros_len {z : Str} (h : z ∈ zeros) : z.length ≤ 3 := by
  unfold zeros at h
  simp only [List.mem_cons, List.not_mem_nil, or_false] at h
  rcases h with rfl | rfl | rfl | rfl <;> decide +kernel
theorem NumW.len' {w : Str} {n : Nat} (h : NumW w n) : w.length ≤ 4 := by rw [len_tl]; exact h.len
theorem numS_le {n : Nat} (h : n ≤ 40) : (numS n).length ≤ 4 := (numS_W (by omega)).len'
theorem app_len (a b : Str) : (a ++ b).length = a.length + b.length := by rw [len_tl, tl_append, List.length_append, ← len_tl, ← len_tl]
theorem colon_len : ((":" : Str)).length = 1 := by decide +kernel
theorem itemW_len {z : Str} {it : Item} (hz : z ∈ zeros) (h1 : NameW 11 it.1) (h2 : it.2 ≤ 40) : (itemW z it).length ≤ 17 := by
  unfold itemW
  rw [app_len, app_len, colon_len]
  have := h1.len
  have := (zf_W hz h2).len'
  omega
def spZeros : Sp := fun vs H Q _ => ∃ (k : Nat) (z : Str), vs = [.int (k : Int), .str z] ∧ z ∈ zeros ∧ k ≤ 40 ∧ Q (.str (zf z k)) H
def spLWords (T : List Addr) : Sp := fun vs H Q _ => ∃ (v : V) (z : Str) (its : List Item), vs = [v, .str z] ∧ z ∈ zeros ∧ ItemsV H v its ∧ its.length ≤ 10 ∧ (∀ it ∈ its, NameW 11 it.1 ∧ it.2 ≤ 40) ∧ ∀ (u : V) (H' : Hp), Gr T H H' → Names H' u (its.map (itemW z)) → Q u H'
section
variable {P : Program} {w : World} {K : PySem.W.Frag} {mg : Str → Option Value} {base : Heap} {T : List Addr}
theorem log_small {n : Nat} (h : n < 1000) : n.log2 < 1920 := Nat.lt_of_le_of_lt (Nat.log2_le_self _) (by omega)
theorem ok_l_zeros {f : Addr} {fd : FuncData} (F : Fun K "_law_zeros" "_law_zeros" s_l_zeros f fd) (bn : mg "len" = none) (bs : mg "str" = none) : FnOk P w K mg base CX0 1 f fd ["_law_number", "_law_zeros_here"] spZeros := by
  refine F.ok sc_l_zeros (fun vs H Q E h => ?_) (fun cdv A outer s H vs Q E hr h => ?_)
  · obtain ⟨k, z, rfl, _⟩ := h
    rfl
  · obtain ⟨n, z, rfl, hz, hn, k⟩ := h
    refine ⟨_, (pss_one (ps_ret (pe_ifExp (pt_cmpR op_lt (pe_callB call_len_str (by rfl) bn (by decide +kernel) (pa_cons (pe_callTy call_str_int (by rfl) bs (by decide +kernel) (pa_cons (pv 0) pa_nil)) pa_nil)) pe_int (nomark _))
      (pe_slice sl_str (pe_op op_add_str (pv 1) (pe_callTy call_str_int (by rfl) bs (by decide +kernel) (pa_cons (pv 0) pa_nil))) (po_some (pe_un un_neg pe_int)) po_none)
      (pe_callTy call_str_int (by rfl) bs (by decide +kernel) (pa_cons (pv 0) pa_nil))))), ?_⟩
    have big : ∀ {m : Nat}, m ≤ 1000 → m ≤ sizeLine := fun h => Nat.le_of_lt (lsz h)
    have lg : ((n : Int)).natAbs.log2 < 1920 := log_small (by omega)
    have ln := numS_le hn
    have lz := zeros_len hz
    refine ⟨_, rfl, _, rfl, lg, _, rfl, big (by show (numS n).length ≤ 1000; omega), _, _, rfl, rfl, _, rfl, ?_⟩
    have hlt : (numS n).length < 4 := by
      rw [numS_len]
      exact (zfL_ok n (by omega) 0 (by decide)).2
    have e : zf z n = cutS (z ++ numS n) (some (-4)) none := by
      unfold zf
      rw [if_pos hlt]
    refine ite2 (fun _ => ?_) (fun h => ?_)
    · refine ⟨_, rfl, _, rfl, _, rfl, lg, _, _, rfl, rfl, big (by show z.length + (numS n).length ≤ 1000; omega), ?_⟩
      refine ⟨4, rfl, _, rfl, _, rfl, big (by show (z ++ numS n).length ≤ 1000; rw [app_len]; omega), ?_⟩
      rw [e] at k
      exact k
    · exact absurd (decide_eq_true (by show ((numS n).length : Int) < 4; omega)) h
theorem ok_l_lwords {f : Addr} {fd : FuncData} (F : Fun K "_law_links_words" "_law_links_words" s_l_lwords f fd) (ZR : Fx P w K mg base "_law_zeros" 1 ["_law_number", "_law_zeros_here"] spZeros) : FnOk P w K mg base CX0 2 f fd ["_law_row", "_law_zeros_here"] (spLWords T) := by
  refine F.ok sc_l_lwords (fun vs H Q E h => ?_) (fun cdv A outer s H vs Q E hr h => ?_)
  · obtain ⟨v, z, its, rfl, _⟩ := h
    rfl
  · obtain ⟨v, z, its, rfl, hz, hI, l10, ok, k⟩ := h
    refine ⟨_, (pss_one (ps_ret (pe_lc (own := [("_law_name_here", 2), ("_law_amount", 3)]) (g := gTup K 2 (gCons (gName 2) (gCons (gName 3) gNil))) (tt := tYes) rfl sc_l_lwords.nd (pi_sqK K (pv 0)) (blkOk_by (own := [("_law_name_here", 2), ("_law_amount", 3)]) (N := N_lwords) (sc := defScope s_l_lwords) (by decide +kernel))
      (fun _ _ _ _ _ => pg_tup rfl (pgs_cons (pg_name (i := 2) sc_l_lwords.nd rfl (Or.inl rfl)) (pgs_cons (pg_name (i := 3) sc_l_lwords.nd rfl (Or.inl rfl)) pgs_nil))) (fun _ _ _ _ _ => pts_nil)
      (fun _ _ _ _ _ => pe_op op_add_str (pe_op op_add_str (pv 2) pe_str) (pe_fx ZR hr (pa_cons (pv 3) (pa_cons (pv 1) pa_nil))))))), ?_⟩
    have big : ∀ {m : Nat}, m ≤ 1000 → m ≤ sizeLine := fun h => Nat.le_of_lt (lsz h)
    obtain ⟨a, vs, rfl, ea, hA⟩ := hI
    have lvs := hA.length
    refine ⟨_, rfl, a, vs, false, rfl, sqL ea, fun D hD => lc_map (T := T) (its.map (itemW z)) StrV walk_sq (by rw [List.length_map, lvs]) (lsz (by omega)) hD (sqL ea) Ext.sqof (fun _ _ _ _ _ h => h) ?_ ?_⟩
    · rintro i x b H2 H3 Qc Nx hi ⟨rfl, hx⟩ hF g2 hacc kc
      obtain ⟨it, hit, tp, rfl, etp⟩ := hA.get hx
      rw [List.getElem?_map, hit] at hF
      have hF : itemW z it = b := Option.some.inj hF
      subst hF
      have okI := ok it (List.mem_of_getElem? hit)
      have et := g2.ext _ _ etp (fun _ z => by cases z)
      have l1 := okI.1.len
      have l2 := (zf_W hz okI.2).len'
      refine ⟨tp, _, rfl, SqT.of et, rfl, _, _, rfl, _, _, rfl, rfl, rfl, ?_⟩
      dsimp only [tYes]
      refine iteT ?_
      refine ⟨_, rfl, _, _, rfl, rfl, big (by rw [colon_len]; omega), _, rfl, _, rfl, it.2, z, rfl, hz, okI.2, _, _, rfl, rfl, big (by rw [app_len, colon_len]; omega), ?_⟩
      exact kc _ _ (.refl T _) rfl
    · intro H2 ys hD2 hA2 g2
      rw [all_str hA2] at hD2
      exact k _ H2 g2 ⟨D, rfl, hD2⟩
end
end Z
set_option Elab.async false
set_option linter.all false
set_option maxRecDepth 100000
set_option maxHeartbeats 4000000
namespace Z
open PySem L2 PyProof.Rows ZX GX TL
abbrev s_l_rows : Stmt := topS 38
abbrev N_rows : List Str := ["_law_store", "_law_zeros_here", "_law_lines", "_law_name_here", "_law_kind", "_law_mend", "_law_words", "_law_items", "_law_limit"]
theorem sc_l_rows : FnScope N_rows ["_law_store", "_law_zeros_here"] (defScope s_l_rows) := ⟨rfl, rfl, rfl, by decide +kernel, rfl, by decide +kernel, by decide +kernel⟩
/-- the lines of a store as words -/
def nodeL (z : Str) (x : NodeR) : List Str := [if x.isNew = true then "new" else "node", x.name, zf z x.room]
def mendL (z : Str) (m : MendR) : List Str := match m.two with
  | none => ([("mend" : Str), m.label, m.node, "from"] : List Str) ++ m.row.map (itemW z)
  | some (o, c, r) => ([("pair" : Str), m.label, m.node, o, "swap", zf z c, "from"] : List Str) ++ m.row.map (itemW z) ++ ([("and" : Str)] : List Str) ++ r.map (itemW z)
def placeW (z : Str) (it : Place) : Str := match it.2 with
  | none => it.1
  | some k => it.1 ++ ":" ++ zf z k
def readerL (z : Str) (r : List Place) : List Str := "reader" :: r.map (placeW z)
def rowsOf (z : Str) (s : StoreR) : List (List Str) := ([[("file" : Str), zf z s.file]] : List (List Str)) ++ s.nodes.map (nodeL z) ++ s.mends.map (mendL z) ++ s.readers.map (readerL z)
def RowsV (H : Hp) (v : V) (rows : List (List Str)) : Prop := ∃ a vs, v = .ref a ∧ H a = some (.lst vs) ∧ All2 (Names H) vs rows
theorem RowsV.ext {H H' : Hp} {v : V} {rows : List (List Str)} (x : Ext H H') (h : RowsV H v rows) : RowsV H' v rows := by
  obtain ⟨a, vs, e, e1, e2⟩ := h
  exact ⟨a, vs, e, x _ _ e1 (fun _ z => by cases z), e2.mono fun _ _ => Names.ext x⟩
def spRows (T : List Addr) : Sp := fun vs H Q _ => ∃ (v : V) (z : Str) (s : StoreR), vs = [v, .str z] ∧ z ∈ zeros ∧ StoreV H v s ∧ StoreOk s ∧ ∀ (u : V) (H' : Hp), Gr T H H' → RowsV H' u (rowsOf z s) → Q u H'
/-- lines so far, at la -/
def LinesV (la : Addr) (H : Hp) (vs : List V) (rows : List (List Str)) : Prop := H la = some (.lst vs) ∧ All2 (Names (mask la H)) vs rows
theorem LinesV.gr {T : List Addr} {la : Addr} {H H' : Hp} {vs : List V} {rows : List (List Str)} (g : Gr T H H') (h : LinesV la H vs rows) : LinesV la H' vs rows :=
  ⟨g.ext _ _ h.1 (fun _ z => by cases z), h.2.mono fun _ _ => Names.ext g.mask.ext⟩
theorem LinesV.snoc {la t : Addr} {H : Hp} {vs : List V} {rows : List (List Str)} {ws : List Str} (h : LinesV la H vs rows) (nt : t ≠ la) (et : H t = some (.lst (ws.map V.str))) : LinesV la (upd H la (.lst (vs ++ [.ref t]))) (vs ++ [.ref t]) (rows ++ [ws]) := by
  refine ⟨upd_same, ?_⟩
  rw [mask_upd]
  exact h.2.snoc ⟨t, rfl, by rw [mask_ne nt]; exact et⟩
theorem LinesV.rows {la : Addr} {H : Hp} {vs : List V} {rows : List (List Str)} (h : LinesV la H vs rows) : RowsV H (.ref la) rows := ⟨la, vs, rfl, h.1, h.2.mono fun _ _ => Names.ext (mask_ext la H)⟩
theorem str_ne {a b : Str} (h : a ≠ b) : ¬ (V.str a = V.str b) := fun z => by
  injection z with z
  exact h z
theorem if_t {c : Bool} {A B : Prop} (h : c = true) (a : A) : if c = true then A else B := by rw [if_pos h]; exact a
theorem if_f {c : Bool} {A B : Prop} (h : c = false) (b : B) : if c = true then A else B := by rw [h]; exact iteF b
theorem in_news {xs : List NodeR} {x : NodeR} (hx : x ∈ xs) (nd : (namesOf xs).Nodup) : x.name ∈ newsOf xs ↔ x.isNew = true := by
  constructor
  · intro h
    obtain ⟨y, hy, e⟩ := List.mem_map.mp h
    have hy := List.mem_filter.mp hy
    have : y = x := by
      obtain ⟨i, hi, ei⟩ := List.getElem_of_mem hy.1
      obtain ⟨j, hj, ej⟩ := List.getElem_of_mem hx
      have : i = j := by
        refine (List.getElem_inj (xs := namesOf xs) (h₀ := by unfold namesOf; rw [List.length_map]; exact hi) (h₁ := by unfold namesOf; rw [List.length_map]; exact hj) nd).mp ?_
        unfold namesOf
        rw [List.getElem_map, List.getElem_map, ei, ej, e]
      subst this
      rw [← ei, ← ej]
    rw [← this]
    exact hy.2
  · intro h
    exact List.mem_map.mpr ⟨x, List.mem_filter.mpr ⟨hx, h⟩, rfl⟩
theorem valV_room {xs : List NodeR} {x : NodeR} (hx : x ∈ xs) (nd : (namesOf xs).Nodup) : valV (roomsD xs) (Sum.inr x.name : Key) = some (.int (x.room : Int)) := by
  induction xs with
  | nil => cases hx
  | cons y ys ih =>
    have nd := List.nodup_cons.mp (show (y.name :: namesOf ys).Nodup from nd)
    unfold valV
    show Option.map _ (List.find? _ ((Sum.inr y.name, V.int (y.room : Int)) :: roomsD ys)) = _
    rcases List.mem_cons.mp hx with z | z
    · subst z
      rw [List.find?_cons_of_pos (by simp)]
      rfl
    · have ne : y.name ≠ x.name := fun q => nd.1 (by rw [q]; exact List.mem_map.mpr ⟨x, z, rfl⟩)
      rw [List.find?_cons_of_neg]
      · exact ih z nd.2
      · intro q
        have := of_decide_eq_true q
        injection this with this
        exact ne this
section
variable {P : Program} {w : World} {K : PySem.W.Frag} {mg : Str → Option Value} {base : Heap} {T : List Addr}
theorem ok_l_rows {f : Addr} {fd : FuncData} (F : Fun K "_law_store_rows" "_law_store_rows" s_l_rows f fd) (ZR : Fx P w K mg base "_law_zeros" 1 ["_law_number", "_law_zeros_here"] spZeros) (LW : Fx P w K mg base "_law_links_words" 2 ["_law_row", "_law_zeros_here"] (spLWords T)) :
    FnOk P w K mg base CX0 3 f fd ["_law_store", "_law_zeros_here"] (spRows T) := by
  refine F.ok sc_l_rows (fun vs H Q E h => ?_) (fun cdv A outer s H vs Q E hr h => ?_)
  · obtain ⟨v, z, s, rfl, _⟩ := h
    rfl
  · obtain ⟨v, z, s, rfl, hz, hS, ok, k⟩ := h
    have hr1 : Room 1 _ := hr.mono (by decide)
    have hu := hu_of hr
    refine ⟨_, (pss_cons (ps_set (i := 2) sc_l_rows.nd rfl (Or.inl rfl) (pe_lst (pa_cons (pe_lst (pa_cons pe_str (pa_cons (pe_fx ZR hr1 (pa_cons (pe_dget hu (pv 0) pe_str (fun _ _ => rfl)) (pa_cons (pv 1) pa_nil))) pa_nil))) pa_nil)))
      (pss_cons (ps_for PassesOwn.never rfl (pi_sqK K (pe_dget hu (pv 0) pe_str (fun _ _ => rfl))) (pg_name (i := 3) sc_l_rows.nd rfl (Or.inl rfl))
        (pss_cons (ps_set (i := 4) sc_l_rows.nd rfl (Or.inl rfl) (pe_ifExp (pt_cmpR op_in_seq (pv 3) (pe_dget hu (pv 0) pe_str (fun _ _ => rfl)) rfl) pe_str pe_str))
        (pss_one (ps_expr (pe_bm PySem.F.plainAttrs_list PySem.F.slot_list_append PySem.F.type_list_append mt_append (pv 2) (pa_cons (pe_lst (pa_cons (pv 4) (pa_cons (pv 3) (pa_cons (pe_fx ZR hr1 (pa_cons (pe_dget hu (pe_dget hu (pv 0) pe_str (fun _ _ => rfl)) (pv 3) (fun _ _ => rfl)) (pa_cons (pv 1) pa_nil))) pa_nil)))) pa_nil))))))
      (pss_cons (ps_for PassesOwn.never rfl (pi_sqK K (pe_dget hu (pv 0) pe_str (fun _ _ => rfl))) (pg_name (i := 5) sc_l_rows.nd rfl (Or.inl rfl))
        (pss_cons (ps_set (i := 6) sc_l_rows.nd rfl (Or.inl rfl) (pe_op op_cat (pe_lst (pa_cons (pe_ifExp (pt_cmpR op_eq (pe_dget hu (pv 5) pe_str (fun _ _ => rfl)) pe_str (nomark _)) pe_str pe_str) (pa_cons (pe_dget hu (pv 5) pe_str (fun _ _ => rfl)) pa_nil))) (pe_dget hu (pv 5) pe_str (fun _ _ => rfl))))
        (pss_cons (ps_if (pt_cmpR op_eq (pe_dget hu (pv 5) pe_str (fun _ _ => rfl)) pe_str (nomark _))
            (pss_one (ps_set (i := 6) sc_l_rows.nd rfl (Or.inl rfl) (pe_op op_cat (pv 6) (pe_lst (pa_cons pe_str (pa_cons (pe_fx ZR hr1 (pa_cons (pe_dget hu (pv 5) pe_str (fun _ _ => rfl)) (pa_cons (pv 1) pa_nil))) pa_nil)))))) pss_nil)
        (pss_cons (ps_set (i := 6) sc_l_rows.nd rfl (Or.inl rfl) (pe_op op_cat (pe_op op_cat (pv 6) (pe_lst (pa_cons pe_str pa_nil))) (pe_fx LW hr (pa_cons (pe_ix ixH (pe_dget hu (pv 5) pe_str (fun _ _ => rfl)) pe_int (fun _ _ => rfl)) (pa_cons (pv 1) pa_nil)))))
        (pss_cons (ps_if (pt_cmpR op_eq (pe_dget hu (pv 5) pe_str (fun _ _ => rfl)) pe_str (nomark _))
            (pss_one (ps_set (i := 6) sc_l_rows.nd rfl (Or.inl rfl) (pe_op op_cat (pe_op op_cat (pv 6) (pe_lst (pa_cons pe_str pa_nil))) (pe_fx LW hr (pa_cons (pe_ix ixH (pe_dget hu (pv 5) pe_str (fun _ _ => rfl)) pe_int (fun _ _ => rfl)) (pa_cons (pv 1) pa_nil)))))) pss_nil)
        (pss_one (ps_expr (pe_bm PySem.F.plainAttrs_list PySem.F.slot_list_append PySem.F.type_list_append mt_append (pv 2) (pa_cons (pv 6) pa_nil)))))))))
      (pss_cons (ps_for PassesOwn.never rfl (pi_sqK K (pe_dget hu (pv 0) pe_str (fun _ _ => rfl))) (pg_name (i := 7) sc_l_rows.nd rfl (Or.inl rfl))
        (pss_cons (ps_setLc (i := 6) (own := [("_law_name_here", 3), ("_law_limit", 8)]) (g := gTup K 2 (gCons (gName 3) (gCons (gName 8) gNil))) (tt := tYes) rfl sc_l_rows.nd rfl rfl (sw_true rfl rfl rfl (by decide +kernel)) (pi_sqK K (pv 7)) (blkOk_by (own := [("_law_name_here", 3), ("_law_limit", 8)]) (N := N_rows) (sc := defScope s_l_rows) (by decide +kernel))
            (fun _ _ _ _ _ => pg_tup rfl (pgs_cons (pg_name (i := 3) sc_l_rows.nd rfl (Or.inl rfl)) (pgs_cons (pg_name (i := 8) sc_l_rows.nd rfl (Or.inl rfl)) pgs_nil))) (fun _ _ _ _ _ => pts_nil)
            (fun _ _ _ _ _ => pe_ifExp (pt_cmpR op_isN (pv 8) pe_non (nomark _)) (pv 3) (pe_op op_add_str (pe_op op_add_str (pv 3) pe_str) (pe_fx ZR hr1 (pa_cons (pv 8) (pa_cons (pv 1) pa_nil))))))
        (pss_one (ps_expr (pe_bm PySem.F.plainAttrs_list PySem.F.slot_list_append PySem.F.type_list_append mt_append (pv 2) (pa_cons (pe_op op_cat (pe_lst (pa_cons pe_str pa_nil)) (pv 6)) pa_nil))))))
      (pss_one (ps_ret (pv 2))))))), ?_⟩
    have big : ∀ {m : Nat}, m ≤ 1000 → m ≤ sizeLine := fun h => Nat.le_of_lt (lsz h)
    obtain ⟨sa, na, ra, wa, ma, qa, mvs, rfl, es, en, er, ew, em, hM, hQ⟩ := hS
    obtain ⟨qa', qvs, hqe, eq, hQ⟩ := hQ
    cases hqe
    have X : ∀ {H' : Hp}, Gr T H H' → H' sa = some (.dK (storeD s.file na ra wa ma qa)) := fun g => g.ext _ _ es (fun _ z => by cases z)
    refine ⟨_, rfl, sa, _, rfl, dget (v := .int (s.file : Int)) es (by kernel_rfl), _, rfl, s.file, z, rfl, hz, ok.file.2, ?_⟩
    refine ⟨(by show 2 ≤ sizeLine; exact big (by decide)), fun t0 ht0 => ⟨(by show 1 ≤ sizeLine; exact big (by decide)), fun la hla => ?_⟩⟩
    have ntl : t0 ≠ la := fun z => by rw [← z, upd_same] at hla; cases hla
    have hla0 : H la = none := by rw [upd_ne ntl.symm] at hla; exact hla
    have g0 : Gr T H (upd (upd H t0 (.lst [.str "file", .str (zf z s.file)])) la (.lst [.ref t0])) := (Gr.new ht0).trans (Gr.new hla)
    have L0 : LinesV la (upd (upd H t0 (.lst [.str "file", .str (zf z s.file)])) la (.lst [.ref t0])) [.ref t0] [[("file" : Str), zf z s.file]] := by
      refine ⟨upd_same, .cons ⟨t0, rfl, ?_⟩ .nil⟩
      rw [mask_ne ntl, upd_ne ntl, upd_same]
      rfl
    generalize upd (upd H t0 (.lst [.str "file", .str (zf z s.file)])) la (.lst [.ref t0]) = H0 at g0 L0 ⊢
    have lnm : s.names.length = s.nodes.length := by unfold StoreR.names namesOf; rw [List.length_map]
    have lrow := ok.few
    -- the nodes
    have en0 := g0.ext _ _ en (fun _ z => by cases z)
    refine ⟨_, rfl, sa, _, rfl, dget (v := .ref na) (X g0) (by kernel_rfl), na, _, false, rfl, sqL en0, for_it walk_sq (fun i σ' H' => ∃ (v3 v4 : Option V) (vs : List V), σ' = [some (.ref sa), some (.str z), some (.ref la), v3, v4, none, none, none, none] ∧ Gr T H H' ∧ LinesV la H' vs (([[("file" : Str), zf z s.file]] : List (List Str)) ++ (s.nodes.take i).map (nodeL z)))
      ⟨none, none, _, rfl, g0, L0⟩ (fun i σ' H' _ ⟨_, _, _, _, g, _⟩ => sqL (g.ext _ _ en (fun _ z => by cases z))) ?_ ?_⟩
    · rintro i x σ' H1' H1 hi ⟨v3, v4, vs, rfl, g1, L1⟩ ⟨rfl, hx⟩
      rw [List.length_map, lnm] at hi
      have ex : V.str (s.nodes[i]).name = x := by
        have hx : (s.names.map V.str)[i]? = some x := hx
        rw [List.getElem?_map, List.getElem?_eq_getElem (by rw [lnm]; exact hi)] at hx
        rw [← Option.some.inj hx]
        unfold StoreR.names namesOf
        rw [List.getElem_map]
      have hm := List.getElem_mem hi
      have tk := take_snoc (List.getElem?_eq_getElem hi)
      generalize s.nodes[i] = nd at ex hm tk
      subst ex
      have ew1 := g1.ext _ _ ew (fun _ z => by cases z)
      have er1 := g1.ext _ _ er (fun _ z => by cases z)
      have lvs := L1.2.length
      rw [List.length_append, List.length_map, List.length_take] at lvs
      refine ⟨_, rfl, _, rfl, sa, _, rfl, dget (v := .ref wa) (X g1) (by kernel_rfl), wa, _, rfl, .inl (SqL.of ew1), rfl, flat_strs _, _, rfl, ?_⟩
      rw [inV_str]
      have key : ∀ (kind : Str), kind = (if nd.isNew = true then "new" else "node") → ∀ (σ1 : L2.St), True := fun _ _ _ => True.intro
      have inn := in_news hm ok.nd
      refine ite2 (fun h => ?_) (fun h => ?_)
      · have hw : nd.isNew = true := inn.mp (by simpa using h)
        refine ⟨_, rfl, .inl ⟨rfl, _, SqL.of L1.1⟩, _, rfl, _, rfl, _, rfl, sa, _, rfl, dget (v := .ref ra) (X g1) (by kernel_rfl), _, rfl, ra, _, rfl, dget er1 (valV_room hm ok.nd), _, rfl, nd.room, z, rfl, hz, ok.room _ hm, ?_⟩
        refine ⟨(by show 3 ≤ sizeLine; exact big (by decide)), fun t ht => ?_⟩
        have nt : t ≠ la := fun q => by rw [q, L1.1] at ht; cases ht
        refine ⟨la, vs, _, rfl, rfl, by rw [upd_ne nt.symm]; exact L1.1, lsz (by have : ([[("file" : Str), zf z s.file]] : List (List Str)).length = 1 := rfl; omega), ?_⟩
        refine ⟨_, _, vs ++ [.ref t], rfl, (g1.trans (Gr.new ht)).upd hla0, ?_⟩
        have := (L1.gr (Gr.new (T := T) (o := .lst [.str "new", .str nd.name, .str (zf z nd.room)]) ht)).snoc (ws := nodeL z nd) nt (by rw [upd_same]; unfold nodeL; rw [if_pos hw]; rfl)
        rw [tk, List.map_append, ← List.append_assoc]
        exact this
      · have hw : ¬ nd.isNew = true := fun q => h (by simpa using inn.mpr q)
        refine ⟨_, rfl, .inl ⟨rfl, _, SqL.of L1.1⟩, _, rfl, _, rfl, _, rfl, sa, _, rfl, dget (v := .ref ra) (X g1) (by kernel_rfl), _, rfl, ra, _, rfl, dget er1 (valV_room hm ok.nd), _, rfl, nd.room, z, rfl, hz, ok.room _ hm, ?_⟩
        refine ⟨(by show 3 ≤ sizeLine; exact big (by decide)), fun t ht => ?_⟩
        have nt : t ≠ la := fun q => by rw [q, L1.1] at ht; cases ht
        refine ⟨la, vs, _, rfl, rfl, by rw [upd_ne nt.symm]; exact L1.1, lsz (by have : ([[("file" : Str), zf z s.file]] : List (List Str)).length = 1 := rfl; omega), ?_⟩
        refine ⟨_, _, vs ++ [.ref t], rfl, (g1.trans (Gr.new ht)).upd hla0, ?_⟩
        have := (L1.gr (Gr.new (T := T) (o := .lst [.str "node", .str nd.name, .str (zf z nd.room)]) ht)).snoc (ws := nodeL z nd) nt (by rw [upd_same]; unfold nodeL; rw [if_neg hw]; rfl)
        rw [tk, List.map_append, ← List.append_assoc]
        exact this
    · rintro σ' H1 ⟨v3, v4, vs, rfl, g1, L1⟩
      rw [List.length_map, lnm, List.take_length] at L1
      -- the mends
      have em1 := g1.ext _ _ em (fun _ z => by cases z)
      have lmv := hM.length
      refine ⟨_, rfl, sa, _, rfl, dget (v := .ref ma) (X g1) (by kernel_rfl), ma, _, false, rfl, sqL em1, for_it walk_sq (fun i σ' H' => ∃ (v3 v4 v5 v6 : Option V) (vs : List V), σ' = [some (.ref sa), some (.str z), some (.ref la), v3, v4, v5, v6, none, none] ∧ Gr T H H' ∧ LinesV la H' vs ((([[("file" : Str), zf z s.file]] : List (List Str)) ++ s.nodes.map (nodeL z)) ++ (s.mends.take i).map (mendL z)))
        ⟨v3, v4, none, none, _, rfl, g1, by rw [List.take_zero, List.map_nil, List.append_nil]; exact L1⟩ (fun i σ' H' _ ⟨_, _, _, _, _, _, g, _⟩ => sqL (g.ext _ _ em (fun _ z => by cases z))) ?_ ?_⟩
      · rintro i x σ' H2' H2 hi ⟨v3, v4, v5, v6, vs, rfl, g2, L2⟩ ⟨rfl, hx⟩
        obtain ⟨m, hm0, hMV⟩ := hM.get hx
        have him : i < s.mends.length := (List.getElem?_eq_some_iff.mp hm0).1
        have tk := take_snoc hm0
        have hmem := List.mem_of_getElem? hm0
        have mok := ok.mok m hmem
        obtain ⟨a, n1, r1, rvs, rfl, e1, e2, e3, e4⟩ := hMV.ext g2.ext
        have lvs := L2.2.length
        rw [List.length_append, List.length_append, List.length_map, List.length_map, List.length_take] at lvs
        have mfew := ok.mfew
        have lvs : vs.length ≤ 100 := by
          have : ([[("file" : Str), zf z s.file]] : List (List Str)).length = 1 := rfl
          omega
        have okI : ∀ r ∈ m.rows, r.length ≤ 10 ∧ ∀ it ∈ r, NameW 11 it.1 ∧ it.2 ≤ 40 := fun r hr => by
          have := mok.rows r hr
          exact ⟨by have := this.few; omega, fun it hit => ⟨ok.name _ (this.sub it hit).1, (this.amt it hit).2⟩⟩
        obtain ⟨label, node, row, two⟩ := m
        -- the ends of both kinds
        have fin : ∀ {H' : Hp} {t : Addr} {v3 v4 : Option V} {ws : List Str} {m : MendR}, s.mends[i]? = some m → ws = mendL z m → Gr T H2 H' → H' t = some (.lst (ws.map V.str)) → H2 t = none →
            ∃ (v3' v4' v5 v6 : Option V) (vs' : List V), [some (V.ref sa), some (.str z), some (.ref la), v3, v4, some (.ref a), some (.ref t), none, none] = [some (V.ref sa), some (.str z), some (.ref la), v3', v4', v5, v6, none, none] ∧ Gr T H (upd H' la (.lst (vs ++ [.ref t]))) ∧ LinesV la (upd H' la (.lst (vs ++ [.ref t]))) vs' ((([[("file" : Str), zf z s.file]] : List (List Str)) ++ s.nodes.map (nodeL z)) ++ (s.mends.take (i + 1)).map (mendL z)) := fun {H' t v3 v4 ws m} hm hws g et ht => by
          have nt : t ≠ la := fun q => by rw [q, L2.1] at ht; cases ht
          refine ⟨_, _, _, _, vs ++ [.ref t], rfl, (g2.trans g).upd hla0, ?_⟩
          have := (L2.gr g).snoc nt et
          rw [take_snoc hm, List.map_append, ← List.append_assoc]
          rw [hws] at this
          exact this
        cases two with
        | none =>
          refine ⟨_, rfl, a, _, rfl, dget (v := .str "one") e1 (by kernel_rfl), rfl, _, rfl, if_t (decide_eq_true rfl) ?_⟩
          refine ⟨_, rfl, a, _, rfl, dget (v := .str label) e1 (by kernel_rfl), (by show 2 ≤ sizeLine; exact big (by decide)), fun t1 ht1 => ?_⟩
          have g3 : Gr T H2 (upd H2 t1 (.lst [.str "mend", .str label])) := Gr.new ht1
          refine ⟨_, rfl, a, _, rfl, dget (v := .ref n1) (g3.ext _ _ e1 (fun _ z => by cases z)) (by kernel_rfl), t1, n1, [.str "mend", .str label], [.str node], rfl, rfl, upd_same, g3.ext _ _ e2 (fun _ z => by cases z), (by show 2 + 1 ≤ sizeLine; exact big (by decide)), fun t2 ht2 => ?_⟩
          have g4 : Gr T H2 (upd (upd H2 t1 (.lst [.str "mend", .str label])) t2 (.lst ([.str "mend", .str label] ++ [.str node]))) := g3.trans (Gr.new ht2)
          have w4 : (upd (upd H2 t1 (.lst [.str "mend", .str label])) t2 (.lst ([.str "mend", .str label] ++ [.str node]))) t2 = some (.lst ([.str "mend", .str label] ++ [.str node])) := upd_same
          have e1' := g4.ext _ _ e1 (fun _ z => by cases z)
          have e3' := g4.ext _ _ e3 (fun _ z => by cases z)
          generalize upd (upd H2 t1 (.lst [.str "mend", .str label])) t2 (.lst ([.str "mend", .str label] ++ [.str node])) = H4 at g4 w4 e1' e3' ⊢
          refine ⟨_, rfl, a, _, rfl, dget (v := .str "one") e1' (by kernel_rfl), rfl, _, rfl, if_f (decide_eq_false (str_ne (by decide +kernel))) ?_⟩
          -- from
          refine ⟨_, rfl, (by show 1 ≤ sizeLine; exact big (by decide)), fun t3 ht3 => ?_⟩
          have n23 : t2 ≠ t3 := fun q => by rw [← q, w4] at ht3; cases ht3
          refine ⟨t2, t3, _, _, rfl, rfl, by rw [upd_ne n23]; exact w4, upd_same, (by show 3 + 1 ≤ sizeLine; exact big (by decide)), fun t4 ht4 => ?_⟩
          have g5 := (g4.trans (Gr.new (o := .lst [.str "from"]) ht3)).trans (Gr.new (T := T) (o := .lst (([.str "mend", .str label] ++ [.str node]) ++ [.str "from"])) ht4)
          have w5 : (upd (upd H4 t3 (.lst [.str "from"])) t4 (.lst (([.str "mend", .str label] ++ [.str node]) ++ [.str "from"]))) t4 = some (.lst (([.str "mend", .str label] ++ [.str node]) ++ [.str "from"])) := upd_same
          have e1'' := g5.ext _ _ e1 (fun _ z => by cases z)
          have e3'' := g5.ext _ _ e3 (fun _ z => by cases z)
          have ht4' : H2 t4 = none := (g4.trans (Gr.new (o := .lst [.str "from"]) ht3)).stay _ ht4
          generalize upd (upd H4 t3 (.lst [.str "from"])) t4 (.lst (([.str "mend", .str label] ++ [.str node]) ++ [.str "from"])) = H5 at g5 w5 e1'' e3'' ⊢
          cases e4 with
          | cons hI hnil =>
          cases hnil
          refine ⟨_, rfl, a, _, rfl, dget (v := .ref r1) e1'' (by kernel_rfl), false, r1, _, 0, _, rfl, rfl, e3'', rfl, _, rfl, _, z, row, rfl, hz, hI.ext g5.ext, (okI _ (List.mem_cons_self ..)).1, (okI _ (List.mem_cons_self ..)).2, fun u H6 g6 hN => ?_⟩
          obtain ⟨t5, rfl, w6⟩ := hN
          refine ⟨t4, t5, _, _, rfl, rfl, g6.ext _ _ w5 (fun _ z => by cases z), w6, ?_, fun t6 ht6 => ?_⟩
          · have := (okI row (List.mem_cons_self ..)).1
            show 4 + ((row.map (itemW z)).map V.str).length ≤ sizeLine
            rw [List.length_map, List.length_map]
            exact big (by omega)
          have g7 := (g5.trans g6).trans (Gr.new (T := T) (o := .lst (([.str "mend", .str label] ++ [.str node]) ++ [.str "from"] ++ (row.map (itemW z)).map V.str)) ht6)
          have ht6' : H2 t6 = none := (g5.trans g6).stay _ ht6
          refine ⟨_, rfl, a, _, rfl, dget (v := .str "one") (g7.ext _ _ e1 (fun _ z => by cases z)) (by kernel_rfl), rfl, _, rfl, if_f (decide_eq_false (str_ne (by decide +kernel))) ?_⟩
          have l7 := (L2.gr g7).1
          refine ⟨_, rfl, .inl ⟨rfl, _, SqL.of l7⟩, _, rfl, la, vs, _, rfl, rfl, l7, lsz (by omega), ?_⟩
          refine fin hm0 rfl g7 ?_ ht6'
          rw [upd_same]
          show some (HO.lst ([V.str "mend", .str label, .str node] ++ [.str "from"] ++ (row.map (itemW z)).map V.str)) = some (HO.lst ((([("mend" : Str), label, node, "from"] : List Str) ++ row.map (itemW z)).map V.str))
          rw [List.map_append]
          rfl
        | some t =>
          obtain ⟨oth, c, row2⟩ := t
          have two := mok.two _ _ _ rfl
          refine ⟨_, rfl, a, _, rfl, dget (v := .str "pair") e1 (by kernel_rfl), rfl, _, rfl, if_f (decide_eq_false (str_ne (by decide +kernel))) ?_⟩
          refine ⟨_, rfl, a, _, rfl, dget (v := .str label) e1 (by kernel_rfl), (by show 2 ≤ sizeLine; exact big (by decide)), fun t1 ht1 => ?_⟩
          have g3 : Gr T H2 (upd H2 t1 (.lst [.str "pair", .str label])) := Gr.new ht1
          refine ⟨_, rfl, a, _, rfl, dget (v := .ref n1) (g3.ext _ _ e1 (fun _ z => by cases z)) (by kernel_rfl), t1, n1, [.str "pair", .str label], [.str node, .str oth], rfl, rfl, upd_same, g3.ext _ _ e2 (fun _ z => by cases z), (by show 2 + 2 ≤ sizeLine; exact big (by decide)), fun t2 ht2 => ?_⟩
          have g4 : Gr T H2 (upd (upd H2 t1 (.lst [.str "pair", .str label])) t2 (.lst ([.str "pair", .str label] ++ [.str node, .str oth]))) := g3.trans (Gr.new ht2)
          have w4 : (upd (upd H2 t1 (.lst [.str "pair", .str label])) t2 (.lst ([.str "pair", .str label] ++ [.str node, .str oth]))) t2 = some (.lst ([.str "pair", .str label] ++ [.str node, .str oth])) := upd_same
          have e1' := g4.ext _ _ e1 (fun _ z => by cases z)
          generalize upd (upd H2 t1 (.lst [.str "pair", .str label])) t2 (.lst ([.str "pair", .str label] ++ [.str node, .str oth])) = H4 at g4 w4 e1' ⊢
          refine ⟨_, rfl, a, _, rfl, dget (v := .str "pair") e1' (by kernel_rfl), rfl, _, rfl, if_t (decide_eq_true rfl) ?_⟩
          -- swap
          refine ⟨_, rfl, _, rfl, a, _, rfl, dget (v := .int (c : Int)) e1' (by kernel_rfl), _, rfl, c, z, rfl, hz, two.2.2, (by show 2 ≤ sizeLine; exact big (by decide)), fun u1 hu1 => ?_⟩
          have n21 : t2 ≠ u1 := fun q => by rw [← q, w4] at hu1; cases hu1
          refine ⟨t2, u1, _, _, rfl, rfl, by rw [upd_ne n21]; exact w4, upd_same, (by show 4 + 2 ≤ sizeLine; exact big (by decide)), fun u2 hu2 => ?_⟩
          have g4b := (g4.trans (Gr.new (o := .lst [.str "swap", .str (zf z c)]) hu1)).trans (Gr.new (T := T) (o := .lst (([.str "pair", .str label] ++ [.str node, .str oth]) ++ [.str "swap", .str (zf z c)])) hu2)
          have w4b : (upd (upd H4 u1 (.lst [.str "swap", .str (zf z c)])) u2 (.lst (([.str "pair", .str label] ++ [.str node, .str oth]) ++ [.str "swap", .str (zf z c)]))) u2 = some (.lst (([.str "pair", .str label] ++ [.str node, .str oth]) ++ [.str "swap", .str (zf z c)])) := upd_same
          generalize upd (upd H4 u1 (.lst [.str "swap", .str (zf z c)])) u2 (.lst (([.str "pair", .str label] ++ [.str node, .str oth]) ++ [.str "swap", .str (zf z c)])) = H4b at g4b w4b ⊢
          -- from
          refine ⟨_, rfl, (by show 1 ≤ sizeLine; exact big (by decide)), fun t3 ht3 => ?_⟩
          have n23 : u2 ≠ t3 := fun q => by rw [← q, w4b] at ht3; cases ht3
          refine ⟨u2, t3, _, _, rfl, rfl, by rw [upd_ne n23]; exact w4b, upd_same, (by show 6 + 1 ≤ sizeLine; exact big (by decide)), fun t4 ht4 => ?_⟩
          have g5 := (g4b.trans (Gr.new (o := .lst [.str "from"]) ht3)).trans (Gr.new (T := T) (o := .lst (([.str "pair", .str label] ++ [.str node, .str oth]) ++ [.str "swap", .str (zf z c)] ++ [.str "from"])) ht4)
          have w5 : (upd (upd H4b t3 (.lst [.str "from"])) t4 (.lst (([.str "pair", .str label] ++ [.str node, .str oth]) ++ [.str "swap", .str (zf z c)] ++ [.str "from"]))) t4 = some (.lst (([.str "pair", .str label] ++ [.str node, .str oth]) ++ [.str "swap", .str (zf z c)] ++ [.str "from"])) := upd_same
          have e1'' := g5.ext _ _ e1 (fun _ z => by cases z)
          have e3'' := g5.ext _ _ e3 (fun _ z => by cases z)
          generalize upd (upd H4b t3 (.lst [.str "from"])) t4 (.lst (([.str "pair", .str label] ++ [.str node, .str oth]) ++ [.str "swap", .str (zf z c)] ++ [.str "from"])) = H5 at g5 w5 e1'' e3'' ⊢
          cases e4 with
          | cons hI hr2 =>
          cases hr2 with
          | cons hI2 hnil =>
          cases hnil
          refine ⟨_, rfl, a, _, rfl, dget (v := .ref r1) e1'' (by kernel_rfl), false, r1, _, 0, _, rfl, rfl, e3'', rfl, _, rfl, _, z, row, rfl, hz, hI.ext g5.ext, (okI _ (List.mem_cons_self ..)).1, (okI _ (List.mem_cons_self ..)).2, fun u H6 g6 hN => ?_⟩
          obtain ⟨t5, rfl, w6⟩ := hN
          have lr1 := (okI row (List.mem_cons_self ..)).1
          have lr2 := (okI row2 (List.mem_cons_of_mem _ (List.mem_cons_self ..))).1
          refine ⟨t4, t5, _, _, rfl, rfl, g6.ext _ _ w5 (fun _ z => by cases z), w6, ?_, fun t6 ht6 => ?_⟩
          · show 7 + ((row.map (itemW z)).map V.str).length ≤ sizeLine
            rw [List.length_map, List.length_map]
            exact big (by omega)
          have g7 := (g5.trans g6).trans (Gr.new (T := T) (o := .lst (([.str "pair", .str label] ++ [.str node, .str oth]) ++ [.str "swap", .str (zf z c)] ++ [.str "from"] ++ (row.map (itemW z)).map V.str)) ht6)
          have w7 : (upd H6 t6 (.lst (([.str "pair", .str label] ++ [.str node, .str oth]) ++ [.str "swap", .str (zf z c)] ++ [.str "from"] ++ (row.map (itemW z)).map V.str))) t6 = some (.lst (([.str "pair", .str label] ++ [.str node, .str oth]) ++ [.str "swap", .str (zf z c)] ++ [.str "from"] ++ (row.map (itemW z)).map V.str)) := upd_same
          have e17 := g7.ext _ _ e1 (fun _ z => by cases z)
          generalize upd H6 t6 (.lst (([.str "pair", .str label] ++ [.str node, .str oth]) ++ [.str "swap", .str (zf z c)] ++ [.str "from"] ++ (row.map (itemW z)).map V.str)) = H7 at g7 w7 e17 ⊢
          refine ⟨_, rfl, a, _, rfl, dget (v := .str "pair") e17 (by kernel_rfl), rfl, _, rfl, if_t (decide_eq_true rfl) ?_⟩
          -- and
          refine ⟨_, rfl, (by show 1 ≤ sizeLine; exact big (by decide)), fun x3 hx3 => ?_⟩
          have n63 : t6 ≠ x3 := fun q => by rw [← q, w7] at hx3; cases hx3
          refine ⟨t6, x3, _, _, rfl, rfl, by rw [upd_ne n63]; exact w7, upd_same, ?_, fun x4 hx4 => ?_⟩
          · rw [List.length_append, List.length_map, List.length_map]
            show 7 + row.length + 1 ≤ sizeLine
            exact big (by omega)
          have g8 := (g7.trans (Gr.new (o := .lst [.str "and"]) hx3)).trans (Gr.new (T := T) (o := .lst (([.str "pair", .str label] ++ [.str node, .str oth]) ++ [.str "swap", .str (zf z c)] ++ [.str "from"] ++ (row.map (itemW z)).map V.str ++ [.str "and"])) hx4)
          have w8 : (upd (upd H7 x3 (.lst [.str "and"])) x4 (.lst (([.str "pair", .str label] ++ [.str node, .str oth]) ++ [.str "swap", .str (zf z c)] ++ [.str "from"] ++ (row.map (itemW z)).map V.str ++ [.str "and"]))) x4 = some (.lst (([.str "pair", .str label] ++ [.str node, .str oth]) ++ [.str "swap", .str (zf z c)] ++ [.str "from"] ++ (row.map (itemW z)).map V.str ++ [.str "and"])) := upd_same
          have e18 := g8.ext _ _ e1 (fun _ z => by cases z)
          have e38 := g8.ext _ _ e3 (fun _ z => by cases z)
          generalize upd (upd H7 x3 (.lst [.str "and"])) x4 (.lst (([.str "pair", .str label] ++ [.str node, .str oth]) ++ [.str "swap", .str (zf z c)] ++ [.str "from"] ++ (row.map (itemW z)).map V.str ++ [.str "and"])) = H8 at g8 w8 e18 e38 ⊢
          refine ⟨_, rfl, a, _, rfl, dget (v := .ref r1) e18 (by kernel_rfl), false, r1, _, 1, _, rfl, rfl, e38, rfl, _, rfl, _, z, row2, rfl, hz, hI2.ext g8.ext, lr2, (okI row2 (List.mem_cons_of_mem _ (List.mem_cons_self ..))).2, fun u H9 g9 hN => ?_⟩
          obtain ⟨x5, rfl, w9⟩ := hN
          refine ⟨x4, x5, _, _, rfl, rfl, g9.ext _ _ w8 (fun _ z => by cases z), w9, ?_, fun x6 hx6 => ?_⟩
          · rw [List.length_append, List.length_append, List.length_map, List.length_map, List.length_map, List.length_map]
            show 7 + row.length + 1 + row2.length ≤ sizeLine
            exact big (by omega)
          have g10 := (g8.trans g9).trans (Gr.new (T := T) (o := .lst (([.str "pair", .str label] ++ [.str node, .str oth]) ++ [.str "swap", .str (zf z c)] ++ [.str "from"] ++ (row.map (itemW z)).map V.str ++ [.str "and"] ++ (row2.map (itemW z)).map V.str)) hx6)
          have hx6' : H2 x6 = none := (g8.trans g9).stay _ hx6
          have l10 := (L2.gr g10).1
          refine ⟨_, rfl, .inl ⟨rfl, _, SqL.of l10⟩, _, rfl, la, vs, _, rfl, rfl, l10, lsz (by omega), ?_⟩
          refine fin hm0 rfl g10 ?_ hx6'
          rw [upd_same]
          show some (HO.lst ([V.str "pair", .str label, .str node, .str oth] ++ [.str "swap", .str (zf z c)] ++ [.str "from"] ++ (row.map (itemW z)).map V.str ++ [.str "and"] ++ (row2.map (itemW z)).map V.str)) = some (HO.lst ((([("pair" : Str), label, node, oth, "swap", zf z c, "from"] : List Str) ++ row.map (itemW z) ++ ([("and" : Str)] : List Str) ++ row2.map (itemW z)).map V.str))
          rw [List.map_append, List.map_append, List.map_append]
          rfl
      · rintro σ' H2 ⟨v3, v4, v5, v6, vs, rfl, g2, L2⟩
        rw [lmv, List.take_length] at L2
        -- the readers
        have eq2 := g2.ext _ _ eq (fun _ z => by cases z)
        have lqv := hQ.length
        refine ⟨_, rfl, sa, _, rfl, dget (v := .ref qa) (X g2) (by kernel_rfl), qa, _, false, rfl, sqL eq2, for_it walk_sq (fun i σ' H' => ∃ (v3 v4 v5 v6 v7 : Option V) (vs : List V), σ' = [some (.ref sa), some (.str z), some (.ref la), v3, v4, v5, v6, v7, none] ∧ Gr T H H' ∧ LinesV la H' vs (((([[("file" : Str), zf z s.file]] : List (List Str)) ++ s.nodes.map (nodeL z)) ++ s.mends.map (mendL z)) ++ (s.readers.take i).map (readerL z)))
          ⟨v3, v4, v5, v6, none, _, rfl, g2, by rw [List.take_zero, List.map_nil, List.append_nil]; exact L2⟩ (fun i σ' H' _ ⟨_, _, _, _, _, _, _, g, _⟩ => sqL (g.ext _ _ eq (fun _ z => by cases z))) ?_ ?_⟩
        · rintro i x σ' H3' H3 hi ⟨v3, v4, v5, v6, v7, vs, rfl, g3, L3⟩ ⟨rfl, hx⟩
          obtain ⟨r, hr0, hPV⟩ := hQ.get hx
          have tk := take_snoc hr0
          have rok := ok.rok r (List.mem_of_getElem? hr0)
          have lr := rok.few
          rw [lnm] at lr
          obtain ⟨ra', pvs, rfl, ep, hA⟩ := hPV.ext g3.ext
          have lpv := hA.length
          have lvs := L3.2.length
          rw [List.length_append, List.length_append, List.length_append, List.length_map, List.length_map, List.length_map, List.length_take] at lvs
          have mfew := ok.mfew
          have rfew := ok.rfew
          have lvs : vs.length ≤ 100 := by
            have : ([[("file" : Str), zf z s.file]] : List (List Str)).length = 1 := rfl
            omega
          refine ⟨_, rfl, ra', pvs, false, rfl, sqL ep, fun D hD => lc_map (T := T) (r.map (placeW z)) StrV walk_sq (by rw [List.length_map, lpv]) (lsz (by omega)) hD (sqL ep) Ext.sqof (fun _ _ _ _ _ h => h) ?_ ?_⟩
          · rintro j y b H4 H5 Qc Nx hj ⟨rfl, hy⟩ hF g4 hacc kc
            obtain ⟨it, hit, tp, rfl, etp⟩ := hA.get hy
            rw [List.getElem?_map, hit] at hF
            have hF : placeW z it = b := Option.some.inj hF
            subst hF
            have hitm := List.mem_of_getElem? hit
            have l1 := (ok.name _ (rok.sub it hitm)).len
            have et := g4.ext _ _ etp (fun _ z => by cases z)
            refine ⟨tp, _, rfl, SqT.of et, rfl, _, _, rfl, _, _, rfl, rfl, rfl, ?_⟩
            dsimp only [tYes]
            refine iteT ?_
            have lim := rok.lim it hitm
            obtain ⟨nm, li⟩ := it
            cases li with
            | none =>
              refine ⟨_, rfl, rfl, _, rfl, if_t (decide_eq_true rfl) ?_⟩
              exact ⟨_, rfl, kc _ _ (.refl T _) rfl⟩
            | some k =>
              have hk := lim k rfl
              have l2 := (zf_W hz hk).len'
              refine ⟨_, rfl, rfl, _, rfl, if_f (decide_eq_false (fun z => by cases z)) ?_⟩
              refine ⟨_, rfl, _, _, rfl, rfl, big (by rw [colon_len]; omega), _, rfl, _, rfl, k, z, rfl, hz, hk, _, _, rfl, rfl, big (by rw [app_len, colon_len]; omega), ?_⟩
              exact kc _ _ (.refl T _) rfl
          · intro H4 ys hD4 hA4 g4
            rw [all_str hA4] at hD4
            have l4 := L3.gr g4
            refine ⟨_, rfl, .inl ⟨rfl, _, SqL.of l4.1⟩, (by show 1 ≤ sizeLine; exact big (by decide)), fun t1 ht1 => ?_⟩
            have nD : D ≠ t1 := fun q => by rw [← q, hD4] at ht1; cases ht1
            refine ⟨_, rfl, t1, D, _, _, rfl, rfl, upd_same, by rw [upd_ne nD]; exact hD4, ?_, fun t2 ht2 => ?_⟩
            · show 1 + ((r.map (placeW z)).map V.str).length ≤ sizeLine
              rw [List.length_map, List.length_map]
              exact big (by omega)
            have g5 := (g4.trans (Gr.new (o := .lst [.str "reader"]) ht1)).trans (Gr.new (T := T) (o := .lst ([.str "reader"] ++ (r.map (placeW z)).map V.str)) ht2)
            have l5 := L3.gr g5
            refine ⟨la, vs, _, rfl, rfl, l5.1, lsz (by omega), ?_⟩
            have nt : t2 ≠ la := fun q => by
              have := (L3.gr (g4.trans (Gr.new (o := .lst [.str "reader"]) ht1))).1
              rw [q, this] at ht2
              cases ht2
            refine ⟨_, _, _, _, _, vs ++ [.ref t2], rfl, (g3.trans g5).upd hla0, ?_⟩
            have := l5.snoc (ws := readerL z r) nt (by rw [upd_same]; rfl)
            rw [tk, List.map_append, ← List.append_assoc]
            exact this
        · rintro σ' H3 ⟨v3, v4, v5, v6, v7, vs, rfl, g3, L3⟩
          rw [lqv, List.take_length] at L3
          exact ⟨_, rfl, k _ H3 g3 L3.rows⟩
end
end Z
set_option Elab.async false
set_option linter.all false
set_option maxRecDepth 100000
set_option maxHeartbeats 2000000
namespace Z
open PySem L2 PyProof.Rows TL
/-! texts of lines, lines of words -/
def lineT (ws : List Str) : Str := Txt.join " " ws
def linesT (rows : List (List Str)) : List Str := rows.map lineT
def textT (rows : List (List Str)) (nl : Str) : Str := Txt.join "\n" (linesT rows) ++ nl
theorem tl_blank : tl (" " : Str) = [32] := by decide +kernel
theorem tl_feed : tl ("\n" : Str) = [10] := by decide +kernel
theorem tl_colon : tl (":" : Str) = [58] := by decide +kernel
theorem tl_nil : tl ("" : Str) = [] := by decide +kernel
theorem tl_tjoin (y : Str) (ps : List Str) : tl (Txt.join y ps) = joinL (tl y) (ps.map tl) := by rw [join_eq, tl_join]
theorem joinL_len (S : List Nat) : ∀ ps : List (List Nat), (joinL S ps).length ≤ (ps.map List.length).sum + ps.length * S.length
  | [] => by simp [joinL]
  | [p] => by simp [joinL]
  | p :: q :: r => by
    have := joinL_len S (q :: r)
    show (p ++ (S ++ joinL S (q :: r))).length ≤ _
    rw [List.length_append, List.length_append, List.map_cons, List.sum_cons, List.length_cons (a := p), Nat.succ_mul]
    omega
theorem sum_le {α : Type} (f : α → Nat) (b : Nat) : ∀ xs : List α, (∀ x ∈ xs, f x ≤ b) → (xs.map f).sum ≤ xs.length * b
  | [], _ => by simp
  | x :: xs, h => by
    have h1 := h x (List.mem_cons_self ..)
    have h2 := sum_le f b xs fun y hy => h y (List.mem_cons_of_mem _ hy)
    rw [List.map_cons, List.sum_cons, List.length_cons, Nat.succ_mul]
    omega
theorem tjoin_len (y : Str) (ps : List Str) : (Txt.join y ps).length ≤ (ps.map (·.length)).sum + ps.length * y.length := by
  rw [len_tl, tl_tjoin, len_tl y]
  have h := joinL_len (tl y) (ps.map tl)
  rw [List.length_map, List.map_map] at h
  have e : (ps.map (List.length ∘ tl)) = ps.map (·.length) := List.map_congr_left fun p _ => (len_tl p).symm
  rw [e] at h
  exact h
/-- few lines of few short words -/
structure Small (rows : List (List Str)) : Prop where
  many : rows.length ≤ 100
  wide : ∀ r ∈ rows, r.length ≤ 100
  long : ∀ r ∈ rows, ∀ w ∈ r, w.length ≤ 100
theorem lineT_len {ws : List Str} (h1 : ws.length ≤ 100) (h2 : ∀ w ∈ ws, w.length ≤ 100) : (ws.map (·.length)).sum + ws.length * (" " : Str).length ≤ 10100 ∧ (lineT ws).length ≤ 10100 := by
  have a := tjoin_len " " ws
  have b := sum_le (fun w : Str => w.length) 100 ws h2
  have c : (" " : Str).length = 1 := by decide +kernel
  have d : ws.length * 100 ≤ 100 * 100 := Nat.mul_le_mul_right 100 h1
  rw [c] at a ⊢
  unfold lineT
  omega
theorem textT_len {rows : List (List Str)} (h : Small rows) : ((linesT rows).map (·.length)).sum + (linesT rows).length * ("\n" : Str).length ≤ 1020000 ∧ ((linesT rows).map (fun l => (l ++ ("\n" : Str)).length)).sum ≤ 1020000 ∧ (Txt.join "\n" (linesT rows)).length ≤ 1020000 := by
  have hl : ∀ l ∈ linesT rows, l.length ≤ 10100 := fun l hl => by
    obtain ⟨r, hr, rfl⟩ := List.mem_map.mp hl
    exact (lineT_len (h.wide r hr) (h.long r hr)).2
  have a := tjoin_len "\n" (linesT rows)
  have b := sum_le (fun w : Str => w.length) 10100 (linesT rows) hl
  have c : ("\n" : Str).length = 1 := by decide +kernel
  have b2 := sum_le (fun w : Str => (w ++ ("\n" : Str)).length) 10101 (linesT rows) fun l h => by
    have := hl l h
    show (l ++ ("\n" : Str)).length ≤ _
    rw [app_len, c]
    omega
  have l : (linesT rows).length = rows.length := by unfold linesT; rw [List.length_map]
  have m := h.many
  have d : (linesT rows).length * 10100 ≤ 100 * 10100 := Nat.mul_le_mul_right _ (by omega)
  have d2 : (linesT rows).length * 10101 ≤ 100 * 10101 := Nat.mul_le_mul_right _ (by omega)
  rw [c] at a ⊢
  omega
/-- words without blank and line feed -/
def WordF (w : Str) : Prop := ∀ c ∈ tl w, c ≠ 10 ∧ c ≠ 32
structure Clean (rows : List (List Str)) : Prop where
  ne : rows ≠ []
  row : ∀ r ∈ rows, ∃ w ws, r = w :: ws ∧ w ≠ "" ∧ ∀ x ∈ r, WordF x
theorem mem_joinL {S : List Nat} {c : Nat} : ∀ {ps : List (List Nat)}, c ∈ joinL S ps → c ∈ S ∨ ∃ p ∈ ps, c ∈ p
  | [], h => by cases h
  | [p], h => .inr ⟨p, List.mem_cons_self .., h⟩
  | p :: q :: r, h => by
    have h : c ∈ p ++ (S ++ joinL S (q :: r)) := h
    rcases List.mem_append.mp h with h | h
    · exact .inr ⟨p, List.mem_cons_self .., h⟩
    · rcases List.mem_append.mp h with h | h
      · exact .inl h
      · rcases mem_joinL h with h | ⟨x, hx, hc⟩
        · exact .inl h
        · exact .inr ⟨x, List.mem_cons_of_mem _ hx, hc⟩
theorem line_free {ws : List Str} (h : ∀ x ∈ ws, WordF x) : 10 ∉ tl (lineT ws) := fun hm => by
  unfold lineT at hm
  rw [tl_tjoin, tl_blank] at hm
  rcases mem_joinL hm with hm | ⟨p, hp, hc⟩
  · simp at hm
  · obtain ⟨x, hx, rfl⟩ := List.mem_map.mp hp
    exact (h x hx 10 hc).1 rfl
theorem str_nil {s : Str} (h : tl s = []) : s = "" := ext_tl (by rw [h, tl_nil])
theorem line_ne {w : Str} {ws : List Str} (h : w ≠ "") : lineT (w :: ws) ≠ "" := fun e => by
  have t := congrArg tl e
  unfold lineT at t
  rw [tl_tjoin, tl_nil, tl_blank] at t
  cases ws with
  | nil => exact h (str_nil t)
  | cons v vs =>
    have t : tl w ++ ([32] ++ joinL [32] ((v :: vs).map tl)) = [] := t
    simp at t
/-- a line, cut at its blanks -/
theorem split_line {r : List Str} (hne : r ≠ []) (h : ∀ x ∈ r, WordF x) : Txt.split (lineT r) " " = r :=
  split_join tl_blank (by decide +kernel) hne fun p hp hm => (h p hp 32 hm).2 rfl
/-- a text, cut at its line feeds -/
theorem split_text {rows : List (List Str)} (h : Clean rows) : Txt.split (textT rows "") "\n" = linesT rows := by
  have e : textT rows "" = Txt.join "\n" (linesT rows) := ext_tl (by unfold textT; rw [tl_append, tl_nil, List.append_nil])
  rw [e]
  refine split_join tl_feed (by decide +kernel) (fun z => h.ne (List.map_eq_nil_iff.mp z)) fun p hp => ?_
  obtain ⟨r, hr, rfl⟩ := List.mem_map.mp hp
  obtain ⟨w, ws, e, _, hw⟩ := h.row r hr
  exact line_free hw
theorem joinL_snoc (S : List Nat) : ∀ ps : List (List Nat), ps ≠ [] → joinL S (ps ++ [[]]) = joinL S ps ++ S
  | [], h => absurd rfl h
  | [p], _ => by
    show p ++ (S ++ []) = p ++ S
    rw [List.append_nil]
  | p :: q :: r, _ => by
    have := joinL_snoc S (q :: r) (by simp)
    show p ++ (S ++ joinL S (q :: r ++ [[]])) = (p ++ (S ++ joinL S (q :: r))) ++ S
    rw [this, List.append_assoc, List.append_assoc]
theorem split_text_nl {rows : List (List Str)} (h : Clean rows) : Txt.split (textT rows "\n") "\n" = linesT rows ++ [("" : Str)] := by
  have e : textT rows "\n" = Txt.join "\n" (linesT rows ++ [("" : Str)]) := ext_tl (by
    unfold textT
    rw [tl_append, tl_tjoin, tl_tjoin, List.map_append, List.map_cons, List.map_nil, tl_nil, joinL_snoc]
    exact fun z => h.ne (List.map_eq_nil_iff.mp (List.map_eq_nil_iff.mp z)))
  rw [e]
  refine split_join tl_feed (by decide +kernel) (by simp) fun p hp => ?_
  rcases List.mem_append.mp hp with hp | hp
  · obtain ⟨r, hr, rfl⟩ := List.mem_map.mp hp
    obtain ⟨w, ws, e, _, hw⟩ := h.row r hr
    exact line_free hw
  · rw [List.mem_singleton.mp hp, tl_nil]
    simp
theorem joinL_feed : ∀ ps : List (List Nat), ps ≠ [] → joinL [] (ps.map (· ++ [10])) = joinL [10] ps ++ [10]
  | [], h => absurd rfl h
  | [p], _ => rfl
  | p :: q :: r, _ => by
    have := joinL_feed (q :: r) (by simp)
    show (p ++ [10]) ++ ([] ++ joinL [] ((q :: r).map (· ++ [10]))) = (p ++ ([10] ++ joinL [10] (q :: r))) ++ [10]
    rw [this]
    simp
/-- the plain text: each line with its line feed -/
theorem plain_text {rows : List (List Str)} (h : rows ≠ []) : Txt.join "" ((linesT rows).map (· ++ ("\n" : Str))) = textT rows "\n" := by
  refine ext_tl ?_
  unfold textT
  rw [tl_tjoin, tl_append, tl_tjoin, tl_feed, tl_nil, List.map_map]
  have e : (linesT rows).map (tl ∘ (· ++ ("\n" : Str))) = ((linesT rows).map tl).map (· ++ [10]) := by
    rw [List.map_map]
    refine List.map_congr_left fun l _ => ?_
    show tl (l ++ ("\n" : Str)) = tl l ++ [10]
    rw [tl_append, tl_feed]
  rw [e, joinL_feed]
  exact fun z => h (List.map_eq_nil_iff.mp (List.map_eq_nil_iff.mp z))
/-! the words of a store's lines -/
theorem wordF_of {w : Str} (h : 10 ∉ tl w) (k : 32 ∉ tl w) : WordF w := fun c hc => ⟨fun z => h (z ▸ hc), fun z => k (z ▸ hc)⟩
theorem NameW.wf {m : Nat} {s : Str} (h : NameW m s) : WordF s := wordF_of (h.free (.inl rfl)) (h.free (.inr (.inl rfl)))
theorem NumW.wf {w : Str} {n : Nat} (h : NumW w n) : WordF w := wordF_of (h.free (.inl rfl)) (h.free (.inr (.inl rfl)))
theorem wf_app {a b : Str} (h : WordF a) (k : WordF b) : WordF (a ++ b) := fun c hc => by
  rw [tl_append] at hc
  rcases List.mem_append.mp hc with z | z
  · exact h c z
  · exact k c z
theorem wf_lit {s : Str} (h : ((tl s).all fun c => decide (c ≠ 10) && decide (c ≠ 32)) = true) : WordF s := fun c hc => by
  have := List.all_eq_true.mp h c hc
  simpa using this
theorem itemW_wf {z : Str} {it : Item} (hz : z ∈ zeros) (h1 : NameW 11 it.1) (h2 : it.2 ≤ 40) : WordF (itemW z it) := wf_app (wf_app h1.wf (wf_lit (by decide +kernel))) (zf_W hz h2).wf
theorem placeW_wf {z : Str} {it : Place} (hz : z ∈ zeros) (h1 : NameW 11 it.1) (h2 : ∀ k, it.2 = some k → k ≤ 40) : WordF (placeW z it) ∧ (placeW z it).length ≤ 17 := by
  obtain ⟨n, li⟩ := it
  have l1 : n.length ≤ 11 := h1.len.2
  cases li with
  | none => exact ⟨h1.wf, by show n.length ≤ 17; omega⟩
  | some k => exact ⟨itemW_wf (it := (n, k)) hz h1 (h2 k rfl), itemW_len (it := (n, k)) hz h1 (h2 k rfl)⟩
/-- what holds of each word -/
def WordK (w : Str) : Prop := WordF w ∧ w.length ≤ 100
theorem litK {s : Str} (h : (((tl s).all fun c => decide (c ≠ 10) && decide (c ≠ 32)) && decide ((tl s).length ≤ 100)) = true) : WordK s := by
  have h := Bool.and_eq_true_iff.mp h
  exact ⟨wf_lit h.1, by rw [len_tl]; exact of_decide_eq_true h.2⟩
theorem NameW.k {s : Str} (h : NameW 11 s) : WordK s := ⟨h.wf, by have := h.len; omega⟩
theorem numK {z : Str} {n : Nat} (hz : z ∈ zeros) (h : n ≤ 40) : WordK (zf z n) := ⟨(zf_W hz h).wf, by have := (zf_W hz h).len'; omega⟩
theorem itemK {z : Str} {it : Item} (hz : z ∈ zeros) (h1 : NameW 11 it.1) (h2 : it.2 ≤ 40) : WordK (itemW z it) := ⟨itemW_wf hz h1 h2, by have := itemW_len hz h1 h2; omega⟩
theorem placeK {z : Str} {it : Place} (hz : z ∈ zeros) (h1 : NameW 11 it.1) (h2 : ∀ k, it.2 = some k → k ≤ 40) : WordK (placeW z it) := ⟨(placeW_wf hz h1 h2).1, by have := (placeW_wf hz h1 h2).2; omega⟩
theorem all_cons' {α : Type} {P : α → Prop} {x : α} {xs : List α} (h : P x) (t : ∀ y ∈ xs, P y) : ∀ y ∈ x :: xs, P y := fun y hy => by
  rcases List.mem_cons.mp hy with z | z
  · rw [z]
    exact h
  · exact t y z
theorem all_app' {α : Type} {P : α → Prop} {xs ys : List α} (h : ∀ y ∈ xs, P y) (t : ∀ y ∈ ys, P y) : ∀ y ∈ xs ++ ys, P y := fun y hy => by
  rcases List.mem_append.mp hy with z | z
  · exact h y z
  · exact t y z
theorem all_nil' {α : Type} {P : α → Prop} : ∀ y ∈ ([] : List α), P y := fun _ h => by cases h
theorem all_map' {α β : Type} {P : β → Prop} {f : α → β} {xs : List α} (h : ∀ x ∈ xs, P (f x)) : ∀ y ∈ xs.map f, P y := fun y hy => by
  obtain ⟨x, hx, rfl⟩ := List.mem_map.mp hy
  exact h x hx
/-- one line -/
structure LineK (r : List Str) : Prop where
  hd : ∃ w ws, r = w :: ws ∧ w ≠ ""
  wide : r.length ≤ 100
  word : ∀ x ∈ r, WordK x
theorem nodeK {z : Str} {s : StoreR} (hz : z ∈ zeros) (ok : StoreOk s) {x : NodeR} (hx : x ∈ s.nodes) : LineK (nodeL z x) := by
  have hn := ok.name x.name (List.mem_map.mpr ⟨x, hx, rfl⟩)
  have hr := ok.room x hx
  refine ⟨⟨_, _, rfl, ?_⟩, by show 3 ≤ 100; decide, all_cons' ?_ (all_cons' hn.k (all_cons' (numK hz hr) all_nil'))⟩
  · split <;> decide +kernel
  · split <;> exact litK (by decide +kernel)
theorem mendK {z : Str} {s : StoreR} (hz : z ∈ zeros) (ok : StoreOk s) {m : MendR} (hm : m ∈ s.mends) : LineK (mendL z m) := by
  have mok := ok.mok m hm
  have ml := ok.mname m hm
  have rw' : ∀ r ∈ m.rows, r.length ≤ 6 ∧ ∀ y ∈ r.map (itemW z), WordK y := fun r hr => by
    have h := mok.rows r hr
    exact ⟨h.few, all_map' fun it hit => itemK hz (ok.name _ (h.sub it hit).1) (h.amt it hit).2⟩
  have mn := ok.name _ mok.node
  obtain ⟨label, node, row, two⟩ := m
  cases two with
  | none =>
    have h := rw' row (List.mem_cons_self ..)
    refine ⟨⟨_, _, rfl, by decide +kernel⟩, ?_, ?_⟩
    · show (([("mend" : Str), label, node, "from"] : List Str) ++ row.map (itemW z)).length ≤ 100
      rw [List.length_append, List.length_map]
      show 4 + row.length ≤ 100
      omega
    · exact all_app' (all_cons' (litK (by decide +kernel)) (all_cons' ml.k (all_cons' mn.k (all_cons' (litK (by decide +kernel)) all_nil')))) h.2
  | some t =>
    obtain ⟨o, c, r⟩ := t
    have h := rw' row (List.mem_cons_self ..)
    have h2 := rw' r (List.mem_cons_of_mem _ (List.mem_cons_self ..))
    have tw := mok.two _ _ _ rfl
    refine ⟨⟨_, _, rfl, by decide +kernel⟩, ?_, ?_⟩
    · show (([("pair" : Str), label, node, o, "swap", zf z c, "from"] : List Str) ++ row.map (itemW z) ++ ([("and" : Str)] : List Str) ++ r.map (itemW z)).length ≤ 100
      rw [List.length_append, List.length_append, List.length_append, List.length_map, List.length_map]
      show 7 + row.length + 1 + r.length ≤ 100
      omega
    · refine all_app' (all_app' (all_app' ?_ h.2) (all_cons' (litK (by decide +kernel)) all_nil')) h2.2
      exact all_cons' (litK (by decide +kernel)) (all_cons' ml.k (all_cons' mn.k (all_cons' (ok.name _ tw.1).k (all_cons' (litK (by decide +kernel)) (all_cons' (numK hz tw.2.2) (all_cons' (litK (by decide +kernel)) all_nil'))))))
theorem readerK {z : Str} {s : StoreR} (hz : z ∈ zeros) (ok : StoreOk s) {r : List Place} (hr : r ∈ s.readers) : LineK (readerL z r) := by
  have h := ok.rok r hr
  have l := h.few
  have f := ok.few
  have e : s.names.length = s.nodes.length := by unfold StoreR.names namesOf; rw [List.length_map]
  refine ⟨⟨_, _, rfl, by decide +kernel⟩, ?_, all_cons' (litK (by decide +kernel)) (all_map' fun it hit => placeK hz (ok.name _ (h.sub it hit)) (h.lim it hit))⟩
  show (r.map (placeW z)).length + 1 ≤ 100
  rw [List.length_map]
  omega
theorem rowsK {z : Str} {s : StoreR} (hz : z ∈ zeros) (ok : StoreOk s) : ∀ r ∈ rowsOf z s, LineK r := by
  refine all_app' (all_app' (all_app' (all_cons' ?_ all_nil') (all_map' fun x hx => nodeK hz ok hx)) (all_map' fun x hx => mendK hz ok hx)) (all_map' fun x hx => readerK hz ok hx)
  exact ⟨⟨_, _, rfl, by decide +kernel⟩, by show 2 ≤ 100; decide, all_cons' (litK (by decide +kernel)) (all_cons' (numK hz ok.file.2) all_nil')⟩
theorem rows_len {z : Str} {s : StoreR} (ok : StoreOk s) : (rowsOf z s).length ≤ 29 := by
  unfold rowsOf
  rw [List.length_append, List.length_append, List.length_append, List.length_map, List.length_map, List.length_map]
  have := ok.few
  have := ok.mfew
  have := ok.rfew
  show 1 + _ + _ + _ ≤ 29
  omega
theorem rows_clean {z : Str} {s : StoreR} (hz : z ∈ zeros) (ok : StoreOk s) : Clean (rowsOf z s) ∧ Small (rowsOf z s) := by
  have k := rowsK hz ok
  refine ⟨⟨by unfold rowsOf; simp, fun r hr => ?_⟩, ⟨by have := rows_len (z := z) ok; omega, fun r hr => (k r hr).wide, fun r hr w hw => ((k r hr).word w hw).2⟩⟩
  obtain ⟨w, ws, e, h⟩ := (k r hr).hd
  exact ⟨w, ws, e, h, fun x hx => ((k r hr).word x hx).1⟩
end Z
set_option Elab.async false
set_option linter.all false
set_option maxRecDepth 100000
set_option maxHeartbeats 4000000
namespace Z
open PySem L2 PyProof.Rows ZX GX TL
abbrev s_l_text : Stmt := topS 39
abbrev N_text : List Str := ["_law_store", "_law_line"]
theorem sc_l_text : FnScope N_text ["_law_store"] (defScope s_l_text) := ⟨rfl, rfl, rfl, by decide +kernel, rfl, by decide +kernel, by decide +kernel⟩
theorem nil_zeros : ("" : Str) ∈ zeros := List.mem_cons_self ..
def spAnyText (T : List Addr) : Sp := fun vs H Q _ => ∃ (v : V) (s : StoreR), vs = [v] ∧ StoreV H v s ∧ StoreOk s ∧ ∀ (H' : Hp), Gr T H H' → Q (.str (textT (rowsOf "" s) "\n")) H'
def rJoinK (K : PySem.W.Frag) : V → List V → Hp → VK → Prop := fun x xs H Q => ∃ a p, ∃ ys : List Str, x = .str a ∧ xs = [.ref p] ∧ (SqL K H p (ys.map V.str) ∨ SqT K H p (ys.map V.str)) ∧ (ys.map (·.length)).sum + ys.length * a.length ≤ 16777216 ∧ Q (.str (Txt.join a ys)) H
theorem pe_joinK {X : Cx} {o e : Expr} {to te : TE} (K : PySem.W.Frag) {apos pos : Pos} (ho : PE X o to) (he : PE X e te) (hK : X.K = K := by rfl) (hs : starEach [e] X.env = [(false, eval e X.env)] := by rfl) (hbase : attributeBase o "join" X.env (eval o X.env) = eval o X.env := by rfl) (hline : (apos.endLine == pos.line) = true := by rfl) :
    PE X (.Call (.Attribute o "join" apos) [e] [] pos) (tM1 (rJoinK K) to te) := by
  subst hK
  exact pe_join ho he hs hbase hline
section
variable {P : Program} {w : World} {K : PySem.W.Frag} {mg : Str → Option Value} {base : Heap} {T : List Addr}
theorem ok_l_text {f : Addr} {fd : FuncData} (F : Fun K "_law_any_text" "_law_any_text" s_l_text f fd) (RW : Fx P w K mg base "_law_store_rows" 3 ["_law_store", "_law_zeros_here"] (spRows T)) : FnOk P w K mg base CX0 4 f fd ["_law_store"] (spAnyText T) := by
  refine F.ok sc_l_text (fun vs H Q E h => ?_) (fun cdv A outer s H vs Q E hr h => ?_)
  · obtain ⟨v, s, rfl, _⟩ := h
    rfl
  · obtain ⟨v, s, rfl, hS, ok, k⟩ := h
    refine ⟨_, (pss_one (ps_ret (pe_joinK K pe_str (pe_lc (own := [("_law_line", 1)]) (g := gName 1) (tt := tYes) rfl sc_l_text.nd (pi_sqK K (pe_fx RW hr (pa_cons (pv 0) (pa_cons pe_str pa_nil)))) (blkOk_by (own := [("_law_line", 1)]) (N := N_text) (sc := defScope s_l_text) (by decide +kernel))
      (fun _ _ _ _ _ => pg_name (i := 1) sc_l_text.nd rfl (Or.inl rfl)) (fun _ _ _ _ _ => pts_nil)
      (fun _ _ _ _ _ => pe_op op_add_str (pe_joinK K pe_str (pv 1)) pe_str))))), ?_⟩
    have big : ∀ {m : Nat}, m ≤ 1000 → m ≤ sizeLine := fun h => Nat.le_of_lt (lsz h)
    have C := rows_clean nil_zeros ok
    generalize hR : rowsOf "" s = R at k C
    have sl : sizeLine = 16777216 := sizeLine_eq
    refine ⟨⟨_, rfl⟩, _, rfl, v, "", s, rfl, nil_zeros, hS, ok, fun u H1 g1 hRV => ?_⟩
    rw [hR] at hRV
    obtain ⟨a, vs, rfl, ea, hA⟩ := hRV
    have lvs := hA.length
    have many := C.2.many
    refine ⟨a, vs, false, rfl, sqL ea, fun D hD => lc_map (T := T) ((linesT R).map (· ++ ("\n" : Str))) StrV walk_sq (by unfold linesT; rw [List.length_map, List.length_map, lvs]) (lsz (by omega)) hD (sqL ea) Ext.sqof (fun _ _ _ _ _ h => h) ?_ ?_⟩
    · rintro j y b H4 H5 Qc Nx hj ⟨rfl, hy⟩ hF g4 hacc kc
      obtain ⟨ws, hws, wa, rfl, ew⟩ := hA.get hy
      have hm := List.mem_of_getElem? hws
      have hF : lineT ws ++ ("\n" : Str) = b := by
        unfold linesT at hF
        rw [List.getElem?_map, List.getElem?_map, hws] at hF
        exact Option.some.inj hF
      subst hF
      have ew4 := g4.ext _ _ ew (fun _ z => by cases z)
      have L := lineT_len (C.2.wide ws hm) (C.2.long ws hm)
      refine ⟨rfl, ?_⟩
      dsimp only [tYes]
      refine iteT ?_
      refine ⟨⟨_, rfl⟩, _, rfl, " ", wa, ws, rfl, rfl, .inl (SqL.of ew4), by omega, _, _, rfl, rfl, ?_, kc _ _ (.refl T _) rfl⟩
      have c : ("\n" : Str).length = 1 := by decide +kernel
      show (lineT ws).length + ("\n" : Str).length ≤ sizeLine
      omega
    · intro H4 ys hD4 hA4 g4
      rw [all_str hA4] at hD4
      have L := textT_len C.2
      refine ⟨"", D, _, rfl, rfl, .inl (SqL.of hD4), ?_, ?_⟩
      · rw [List.map_map, show ("" : Str).length = 0 from rfl, Nat.mul_zero, Nat.add_zero]
        exact Nat.le_trans L.2.1 (by decide)
      · rw [plain_text C.1.ne]
        exact k H4 (g1.trans g4)
end
end Z
set_option Elab.async false
set_option linter.all false
set_option maxRecDepth 100000
set_option maxHeartbeats 4000000
namespace GX
open PySem L2 PyProof.Rows ZX
theorem turns_it {J : It} {n : Nat} {G : Hp → Prop} {Y : Nat → Hp → V → Hp → Prop} {g : TG} {tt : TT} {te : TE} {σg : L2.St} {vs : List Nat} {Step : STP} {End : EN} {H : Hp} (w : Walk J n G Y) (Pv : Nat → List V → Hp → Prop) (h0 : Pv 0 [] H) (hG : ∀ i ys H, i ≤ n → Pv i ys H → G H)
    (hs : ∀ i x ys H H', i < n → Pv i ys H → Y i H x H' → g x σg H' fun σ2 H2 => wipe σ2 vs = σg ∧ tt σ2 H2 fun b H3 => if b = true then te σ2 H3 fun y H4 => Step ys y H4 (Pv (i + 1) (ys ++ [y])) else Pv (i + 1) ys H3) (hd : ∀ ys H, Pv n ys H → End ys H) :
    ∃ W : Nat → Nat → List V → Hp → Prop, (∃ m, W 0 m [] H) ∧ Turns J g tt te σg vs Step End W := by
  refine ⟨fun i m ys H => m = n - i ∧ i ≤ n ∧ Pv i ys H, ⟨n, rfl, Nat.zero_le _, h0⟩, ?_⟩
  rintro i m ys H ⟨rfl, hi, p⟩
  have q := hG i ys H hi p
  rcases Nat.lt_or_ge i n with hlt | hge
  · exact .inr ⟨w.goes i H hlt q, Pv (i + 1), fun ys' H' p' => ⟨n - (i + 1), by omega, rfl, hlt, p'⟩, fun x H' y => hs i x ys H H' hlt p (w.yields i H x H' hlt q y)⟩
  · have e : i = n := by omega
    subst e
    exact .inl ⟨w.stops H q, hd ys H p⟩
end GX
namespace Z
open PySem L2 PyProof.Rows ZX GX TL
/-! texts that are cut: lines_of, is_name, number_in -/
abbrev s_lines_of : Stmt := topS 10
abbrev s_is_name : Stmt := topS 11
abbrev s_number_in : Stmt := topS 12
theorem sc_lines_of : FnScope ["text", "lines"] ["text"] (defScope s_lines_of) := ⟨rfl, rfl, rfl, by decide +kernel, rfl, by decide +kernel, by decide +kernel⟩
theorem sc_is_name : FnScope ["value"] ["value"] (defScope s_is_name) := ⟨rfl, rfl, rfl, by decide +kernel, rfl, by decide +kernel, by decide +kernel⟩
theorem sc_number_in : FnScope ["word", "least", "most", "number"] ["word", "least", "most"] (defScope s_number_in) := ⟨rfl, rfl, rfl, by decide +kernel, rfl, by decide +kernel, by decide +kernel⟩
def letters : Str := "abcdefghijklmnopqrstuvwxyz"
def digits : Str := "0123456789"
theorem low_in {c : Nat} (h : isLow c) : c ∈ tl letters := by
  have g : ∀ c, c < 123 → 97 ≤ c → c ∈ tl letters := by decide +kernel
  unfold isLow at h
  exact g c (by omega) (by omega)
theorem dig_in {c : Nat} (h : isDig c) : c ∈ tl digits := by
  have g : ∀ c, c < 58 → 48 ≤ c → c ∈ tl digits := by decide +kernel
  unfold isDig at h
  exact g c (by omega) (by omega)
theorem dig_out {c : Nat} (h : isDig c) : c ∉ tl letters := by
  have g : ∀ c, c < 58 → 48 ≤ c → c ∉ tl letters := by decide +kernel
  unfold isDig at h
  exact g c (by omega) (by omega)
def spLines (T : List Addr) : Sp := fun vs H Q _ => ∃ (rows : List (List Str)) (nl : Str), vs = [.str (textT rows nl)] ∧ Clean rows ∧ Small rows ∧ (nl = "" ∨ nl = "\n") ∧ ∀ (a : Addr) (H' : Hp), Gr T H H' → H a = none → H' a = some (.lst ((linesT rows).map V.str)) → Q (.ref a) H'
def spIsName (T : List Addr) : Sp := fun vs H Q _ => ∃ w : Str, vs = [.str w] ∧ NameW 11 w ∧ Tabs T H ∧ ∀ H', Gr T H H' → Q (.bl true) H'
def spNumIn (T : List Addr) : Sp := fun vs H Q _ => ∃ (w : Str) (lo hi : Nat), vs = [.str w, .int (lo : Int), .int (hi : Int)] ∧ Tabs T H ∧ ((∃ n, NumW w n ∧ lo ≤ n ∧ n ≤ hi ∧ ∀ H', Gr T H H' → Q (.int (n : Int)) H') ∨ (w = "" ∧ Q .non H))
section
variable {P : Program} {w : World} {K : PySem.W.Frag} {mg : Str → Option Value} {base : Heap} {T : List Addr}
theorem ok_lines_of {f : Addr} {fd : FuncData} (F : Fun K "lines_of" "lines_of" s_lines_of f fd) (bI : mg "isinstance" = none) (bs : mg "str" = none) : FnOk P w K mg base CX0 1 f fd ["text"] (spLines T) := by
  refine F.ok sc_lines_of (fun vs H Q E h => ?_) (fun cdv A outer s H vs Q E hr h => ?_)
  · obtain ⟨rows, nl, rfl, _⟩ := h
    rfl
  · obtain ⟨rows, nl, rfl, C, S, hnl, k⟩ := h
    refine ⟨_, (pss_cons (ps_if (pt_not (pt_val (pe_callB call_isi (by rfl) bI (by decide +kernel) (pa_cons (pv 0) (pa_cons (pe_bltn (v := .ty "str") (by rfl) bs (by decide +kernel) rfl) pa_nil))))) (pss_one ps_never) pss_nil)
      (pss_cons (ps_set (i := 1) sc_lines_of.nd rfl (Or.inl rfl) (pe_split (pv 0) pe_str))
      (pss_cons (ps_if (pt_cmpR op_eq (pe_ix ix_list (pv 1) (pe_un un_neg pe_int) (fun _ _ => rfl)) pe_str (nomark _))
        (pss_one (ps_expr (pe_bm0 PySem.F.plainAttrs_list PySem.F.slot_list_pop PySem.F.type_list_pop mt_pop (pv 1)))) pss_nil)
      (pss_one (ps_ret (pv 1)))))), ?_⟩
    have sl : sizeLine = 16777216 := sizeLine_eq
    have L := (textT_len S).2.2
    have ln : nl.length ≤ 1 := by
      rcases hnl with rfl | rfl
      · exact Nat.zero_le _
      · decide +kernel
    have lt : (textT rows nl).length ≤ 1020001 := by
      unfold textT
      rw [app_len]
      omega
    refine ⟨_, rfl, _, .ty "str", _, _, true, rfl, .ty _, .base (.str _), kit_ty (show kitB "str" "str" = some true by decide +kernel), true, rfl, iteF ?_⟩
    refine ⟨_, rfl, ⟨_, rfl⟩, _, "\n", rfl, rfl, (by decide +kernel), by omega, ?_⟩
    have cs : (Txt.split (textT rows nl) "\n" = linesT rows ++ [("" : Str)]) ∨ ∃ (ls : List Str) (x : Str), Txt.split (textT rows nl) "\n" = ls ++ [x] ∧ x ≠ "" ∧ ls ++ [x] = linesT rows := by
      rcases hnl with rfl | rfl
      · refine .inr ?_
        rw [split_text C]
        have ne : linesT rows ≠ [] := fun z => C.ne (List.map_eq_nil_iff.mp z)
        refine ⟨(linesT rows).dropLast, (linesT rows).getLast ne, (List.dropLast_concat_getLast ne).symm, ?_, List.dropLast_concat_getLast ne⟩
        obtain ⟨r, hr, e⟩ := List.mem_map.mp (List.getLast_mem ne)
        rw [← e]
        obtain ⟨w, ws, rfl, hw, _⟩ := C.row r hr
        exact line_ne hw
      · exact .inl (split_text_nl C)
    rcases cs with cs | ⟨ls, x, cs, hx0, cl⟩
    · rw [cs]
      refine fun p hp => ?_
      have e0 : (upd H p (.lst ((linesT rows ++ [("" : Str)]).map V.str))) p = some (.lst ((linesT rows).map V.str ++ [V.str ""])) := by
        rw [upd_same, List.map_append]
        rfl
      refine ⟨_, rfl, _, rfl, p, _, _, _, rfl, rfl, SqL.of e0, atI_last _ _, rfl, _, rfl, if_t (decide_eq_true rfl) ?_⟩
      refine ⟨_, rfl, .inl ⟨rfl, _, SqL.of e0⟩, p, _, V.str "", rfl, rfl, e0, ?_, ?_⟩
      · rw [List.length_append, List.length_singleton, Nat.add_sub_cancel, List.getElem?_append_right (Nat.le_refl _), Nat.sub_self]
        rfl
      · refine ⟨_, rfl, k _ _ ((Gr.new hp).upd hp) hp ?_⟩
        rw [List.dropLast_concat]
        exact upd_same
    · rw [cs]
      refine fun p hp => ?_
      have e0 : (upd H p (.lst ((ls ++ [x]).map V.str))) p = some (.lst (ls.map V.str ++ [V.str x])) := by
        rw [upd_same, List.map_append]
        rfl
      refine ⟨_, rfl, _, rfl, p, _, _, _, rfl, rfl, SqL.of e0, atI_last _ _, rfl, _, rfl, if_f (decide_eq_false (str_ne hx0)) ?_⟩
      refine ⟨_, rfl, k _ _ (Gr.new hp) hp ?_⟩
      rw [← cl]
      exact upd_same
theorem ok_is_name {f c PT : Addr} {fd : FuncData} {tL tD tN : Tok} (F : Fun K "is_name" "is_name" s_is_name f fd) (hc : fd.code = .ref c) (TB : GxR.TabB base mg c PT) (hPT : PT ∈ T) (ba : mg "all" = none) (bI : mg "isinstance" = none) (bs : mg "str" = none) (bn : mg "len" = none)
    (gL : mg "LETTERS" = some (.str letters tL)) (gD : mg "DIGITS" = some (.str digits tD)) (gN : mg "LONGEST_NAME" = some (.int 12 tN)) : FnOk P w K mg base CX0 2 f fd ["value"] (spIsName T) := by
  refine okT F hc sc_is_name (fun vs H Q E h => ?_) (fun A outer s H vs Q E hr h => ?_)
  · obtain ⟨x, rfl, _⟩ := h
    rfl
  · obtain ⟨x, rfl, hx, tb, k⟩ := h
    refine ⟨_, (pss_cons (ps_if (PW.pt (pw_or (pt_not (pt_val (pe_callB call_isi (by rfl) bI (by decide +kernel) (pa_cons (pv 0) (pa_cons (pe_bltn (v := .ty "str") (by rfl) bs (by decide +kernel) rfl) pa_nil))))) (pw_or1 (pt_not (pt_chain op_le op_le pe_int (pe_callB call_len_str (by rfl) bn (by decide +kernel) (pa_cons (pv 0) pa_nil)) (pe_glob (v := .int 12) (by rfl) gN ⟨tN, rfl⟩)))))) (pss_one (ps_ret pe_bl)) pss_nil)
      (pss_one (ps_ret (pe_and (pe_cmpR op_in_sign (pe_ix ix_str (pv 0) pe_int (fun _ _ => rfl)) (pe_glob (v := .str letters) (by rfl) gL ⟨tL, rfl⟩) rfl)
        (pe_one (pe_allG (k := 0) (Ng := ["sign"]) (src := [none]) (vs := [0]) (tt := tYes) hr (by rfl) ba (by decide +kernel) TB rfl (gscp_by (sc := defScope s_is_name) (N := ["value"]) (by decide +kernel)) (pi_str (pv 0))
          (fun _ _ _ _ _ _ _ _ => pg_name (i := 0) (show List.Nodup (["sign"] : List Str) from by decide +kernel) rfl (Or.inl rfl)) (fun _ _ _ _ _ _ _ _ => pts_nil)
          (fun _ _ _ _ _ _ _ hr2 => pe_or (pe_cmpR op_in_sign (pv 0) (pe_glob (v := .str letters) (by rfl) gL ⟨tL, rfl⟩) rfl) (pe_one (pe_cmpR op_in_sign (pv 0) (pe_glob (v := .str digits) (by rfl) gD ⟨tD, rfl⟩) rfl))) (fun _ => rfl))))))), ?_⟩
    have big : ∀ {m : Nat}, m ≤ 1000 → m ≤ sizeLine := fun h => Nat.le_of_lt (lsz h)
    have lx := hx.len
    obtain ⟨c0, r, e, h1, h2, h3⟩ := hx.ex
    refine ⟨_, rfl, _, .ty "str", _, _, true, rfl, .ty _, .base (.str _), kit_ty (show kitB "str" "str" = some true by decide +kernel), true, rfl, iteF ?_⟩
    refine ⟨_, rfl, _, rfl, big (by omega), _, _, rfl, rfl, _, rfl, ?_⟩
    refine if_t (decide_eq_true (by show (1 : Int) ≤ (x.length : Int); omega)) ?_
    refine ⟨_, _, rfl, rfl, _, rfl, ?_⟩
    rw [decide_eq_true (show (x.length : Int) ≤ 12 by omega)]
    refine iteF ?_
    refine ⟨_, rfl, x, 0, c0, rfl, rfl, big (by omega), atI_nat (j := 0) (by show (tl x)[0]? = some c0; rw [e]; rfl), c0, letters, rfl, rfl, _, rfl, if_t (decide_eq_true (low_in h1)) ?_⟩
    refine ⟨_, rfl, x, rfl, tb PT hPT, fun H2 tb2 => turns_it walk_str (fun i ys H3 => Gr T H H3) (Gr.tabbed hPT (tb PT hPT) tb2) (fun _ _ _ _ _ => True.intro) ?_ (fun ys H3 g => k _ g)⟩
    rintro i y ys H3 H4 hi g ⟨rfl, d, hd, rfl⟩
    have hm : d ∈ tl x := by
      rw [← Array.getElem?_toList] at hd
      exact List.mem_of_getElem? hd
    refine ⟨rfl, ?_⟩
    dsimp only [tYes]
    refine iteT ?_
    refine ⟨_, rfl, d, letters, rfl, rfl, _, rfl, ?_⟩
    rcases hx.sign d hm with z | z
    · exact if_t (decide_eq_true (low_in z)) ⟨true, rfl, iteT g⟩
    · refine if_f (decide_eq_false (dig_out z)) ⟨_, rfl, d, digits, rfl, rfl, _, rfl, if_t (decide_eq_true (dig_in z)) g⟩
theorem ok_number_in {f c PT : Addr} {fd : FuncData} {tD tN : Tok} (F : Fun K "number_in" "number_in" s_number_in f fd) (hc : fd.code = .ref c) (TB : GxR.TabB base mg c PT) (hPT : PT ∈ T) (ba : mg "all" = none) (bi : mg "int" = none) (bn : mg "len" = none)
    (gD : mg "DIGITS" = some (.str digits tD)) (gN : mg "LONGEST_NUMBER" = some (.int 4 tN)) : FnOk P w K mg base CX0 2 f fd ["word", "least", "most"] (spNumIn T) := by
  refine okT F hc sc_number_in (fun vs H Q E h => ?_) (fun A outer s H vs Q E hr h => ?_)
  · obtain ⟨x, lo, hi, rfl, _⟩ := h
    rfl
  · obtain ⟨x, lo, hi, rfl, tb, k⟩ := h
    refine ⟨_, (pss_cons (ps_if (PW.pt (pw_or (pt_not (pt_chain op_le op_le pe_int (pe_callB call_len_str (by rfl) bn (by decide +kernel) (pa_cons (pv 0) pa_nil)) (pe_glob (v := .int 4) (by rfl) gN ⟨tN, rfl⟩))) (pw_or1 (pt_not (pt_val
        (pe_allG (k := 0) (Ng := ["sign"]) (src := [none]) (vs := [0]) (tt := tYes) hr (by rfl) ba (by decide +kernel) TB rfl (gscp_by (sc := defScope s_number_in) (N := ["word", "least", "most", "number"]) (by decide +kernel)) (pi_str (pv 0))
          (fun _ _ _ _ _ _ _ _ => pg_name (i := 0) (show List.Nodup (["sign"] : List Str) from by decide +kernel) rfl (Or.inl rfl)) (fun _ _ _ _ _ _ _ _ => pts_nil)
          (fun _ _ _ _ _ _ _ hr2 => pe_cmpR op_in_sign (pv 0) (pe_glob (v := .str digits) (by rfl) gD ⟨tD, rfl⟩) rfl) (fun _ => rfl))))))) (pss_one (ps_ret pe_non)) pss_nil)
      (pss_cons (ps_set (i := 3) sc_number_in.nd rfl (Or.inl rfl) (pe_callTy call_int_str (by rfl) bi (by decide +kernel) (pa_cons (pv 0) pa_nil)))
      (pss_one (ps_ret (pe_ifExp (pt_chain op_le op_le (pv 1) (pv 3) (pv 2)) (pv 3) pe_non))))), ?_⟩
    have big : ∀ {m : Nat}, m ≤ 1000 → m ≤ sizeLine := fun h => Nat.le_of_lt (lsz h)
    rcases k with ⟨n, hN, h1, h2, k⟩ | ⟨rfl, k⟩
    · have lx := hN.len'
      have lx1 : 1 ≤ x.length := by
        rw [len_tl]
        have := hN.ne
        exact List.length_pos_iff.mpr this
      refine ⟨_, rfl, _, rfl, big (by omega), _, _, rfl, rfl, _, rfl, ?_⟩
      refine if_t (decide_eq_true (by show (1 : Int) ≤ (x.length : Int); omega)) ?_
      refine ⟨_, _, rfl, rfl, _, rfl, ?_⟩
      rw [decide_eq_true (show (x.length : Int) ≤ 4 by omega)]
      refine iteF ?_
      refine ⟨_, rfl, x, rfl, tb PT hPT, fun H2 tb2 => turns_it walk_str (fun i ys H3 => Gr T H H3) (Gr.tabbed hPT (tb PT hPT) tb2) (fun _ _ _ _ _ => True.intro) ?_ (fun ys H3 g => ?_)⟩
      · rintro i y ys H3 H4 hi g ⟨rfl, d, hd, rfl⟩
        have hm : d ∈ tl x := by
          rw [← Array.getElem?_toList] at hd
          exact List.mem_of_getElem? hd
        refine ⟨rfl, ?_⟩
        dsimp only [tYes]
        refine iteT ?_
        exact ⟨_, rfl, d, digits, rfl, rfl, _, rfl, if_t (decide_eq_true (dig_in (hN.dig d hm))) g⟩
      · refine ⟨true, rfl, iteF ?_⟩
        refine ⟨_, rfl, x, _, rfl, hN.int, by omega, ?_⟩
        refine ⟨_, rfl, _, rfl, _, _, rfl, rfl, _, rfl, ?_⟩
        refine if_t (decide_eq_true (by show (lo : Int) ≤ (n : Int); omega)) ?_
        refine ⟨_, rfl, _, _, rfl, rfl, _, rfl, ?_⟩
        refine if_t (decide_eq_true (by show (n : Int) ≤ (hi : Int); omega)) ?_
        exact ⟨_, rfl, k _ g⟩
    · refine ⟨_, rfl, _, rfl, Nat.zero_le _, _, _, rfl, rfl, _, rfl, ?_⟩
      refine if_f (decide_eq_false (by decide)) ?_
      exact ⟨_, rfl, iteT k⟩
end
end Z
set_option Elab.async false
set_option linter.all false
set_option maxRecDepth 100000
set_option maxHeartbeats 4000000
namespace Z
open PySem L2 PyProof.Rows ZX GX TL
/-! methods and makers, ready to be called -/
structure Mx (P : Program) (w : World) (K : PySem.W.Frag) (mg : Str → Option Value) (base : Heap) (C : Addr) (m : Str) (k : Nat) (ps : List Str) (sp : Sp) : Prop where
  ex : ∃ f fd, FnOk P w K mg base CX0 k f fd ps sp ∧ Meth K C m f ∧ Binds K fd ps []
structure MkX (P : Program) (w : World) (K : PySem.W.Frag) (mg : Str → Option Value) (base : Heap) (x : Str) (C : Addr) (k : Nat) (ps : List Str) (sp : Sp) : Prop where
  ex : ∃ f fd, FnOk P w K mg base CX0 k f fd ps sp ∧ Mk K C f ∧ Binds K fd ps [] ∧ mg x = some (.ref C)
section
variable {X : Cx} {o e : Expr} {es : List Expr} {ta : TE} {t : TA} {C : Addr} {m : Str} {k : Nat} {ps : List Str} {sp : Sp} {apos pos p : Pos}
theorem pe_mx {pl : Sem Bool} (he : PE X o ta) (c : Cls X.K C) (M : Mx X.prog X.w X.K X.mg X.base C m k ps sp) (hr : Room k X.A) (ha : PA X (e :: es) t)
    (hst : starEach (e :: es) X.env = (false, eval e X.env) :: starEach es X.env := by rfl) (hpl : (backTo pos (starEach es X.env)).any (·.1) = false := by rfl)
    (ht : eval (.Call (.Attribute o m apos) (e :: es) [] pos) X.env = (do
      let ov ← eval o X.env
      standAt apos.atName
      let (f, first) ← holding [ov] (getMethod ov m pl)
      callWith pos f first (backTo pos (starEach (e :: es) X.env)) (backToKw pos (keywordEach [] X.env))) := by rfl) :
    PE X (.Call (.Attribute o m apos) (e :: es) [] pos) (tMeth C m sp [] E0 ta t) := by
  obtain ⟨f, fd, h1, h2, h3⟩ := M.ex
  exact pe_meth (pl := pl) he c h2 h1 hr h3 .nil pass0 ha hst hpl ht
theorem pe_mx0 {pl : Sem Bool} (he : PE X o ta) (c : Cls X.K C) (M : Mx X.prog X.w X.K X.mg X.base C m k ps sp) (hr : Room k X.A)
    (ht : eval (.Call (.Attribute o m apos) [] [] pos) X.env = (do
      let ov ← eval o X.env
      standAt apos.atName
      let (f, first) ← holding [ov] (getMethod ov m pl)
      callWith pos f first (backTo pos (starEach [] X.env)) (backToKw pos (keywordEach [] X.env))) := by rfl) :
    PE X (.Call (.Attribute o m apos) [] [] pos) (tMeth C m sp [] E0 ta tNil) := by
  obtain ⟨f, fd, h1, h2, h3⟩ := M.ex
  exact pe_meth0 (pl := pl) he c h2 h1 hr h3 .nil pass0 ht
theorem pe_mkx {x : Str} (M : MkX X.prog X.w X.K X.mg X.base x C k ps sp) (hr : Room (k + 1) X.A) (ha : PA X (e :: es) t) (hg : Gl X x := by rfl)
    (hdb : (x == ("__debug__" : Str)) = false := by decide) (he : starEach (e :: es) X.env = (false, eval e X.env) :: starEach es X.env := by rfl) (hpl : (backTo pos (starEach es X.env)).any (·.1) = false := by rfl) :
    PE X (.Call (.Name x p) (e :: es) [] pos) (tMake C sp [] E0 t) := by
  obtain ⟨f, fd, h1, h2, h3, h4⟩ := M.ex
  exact pe_make h2 h1 hr hg h4 h3 .nil pass0 ha hdb he hpl
end
/-! lines that are read word by word -/
structure LineC (K : PySem.W.Frag) (C : Addr) : Prop where
  cl : Cls K C
  n : NoAttr K C "number"
  w : NoAttr K C "words"
  m : NoAttr K C "many"
def lineF (n : Nat) (wa : Addr) (k : Nat) : List (Str × V) := [("number", .int (n : Int)), ("words", .ref wa), ("many", .int (k : Int))]
def lineI (C dx : Addr) (n : Nat) (wa : Addr) (k : Nat) : HO := .ins C dx (lineF n wa k)
abbrev s_Line (k : Nat) : Stmt := inClass (topS 13) k
theorem sc_Line0 : FnScope ["self", "number", "text"] ["self", "number", "text"] (defScope (s_Line 0)) := ⟨rfl, rfl, rfl, by decide +kernel, rfl, by decide +kernel, by decide +kernel⟩
theorem sc_Line1 : FnScope ["self"] ["self"] (defScope (s_Line 1)) := ⟨rfl, rfl, rfl, by decide +kernel, rfl, by decide +kernel, by decide +kernel⟩
theorem sc_Line3 : FnScope ["self", "word"] ["self", "word"] (defScope (s_Line 3)) := ⟨rfl, rfl, rfl, by decide +kernel, rfl, by decide +kernel, by decide +kernel⟩
theorem sc_Line4 : FnScope ["self", "word"] ["self"] (defScope (s_Line 4)) := ⟨rfl, rfl, rfl, by decide +kernel, rfl, by decide +kernel, by decide +kernel⟩
theorem sc_Line5 : FnScope ["self", "least", "most", "number"] ["self", "least", "most"] (defScope (s_Line 5)) := ⟨rfl, rfl, rfl, by decide +kernel, rfl, by decide +kernel, by decide +kernel⟩
theorem sc_Line6 : FnScope ["self"] ["self"] (defScope (s_Line 6)) := ⟨rfl, rfl, rfl, by decide +kernel, rfl, by decide +kernel, by decide +kernel⟩
theorem sc_Line7 : FnScope ["self", "word"] ["self", "word"] (defScope (s_Line 7)) := ⟨rfl, rfl, rfl, by decide +kernel, rfl, by decide +kernel, by decide +kernel⟩
theorem sc_Line8 : FnScope ["self"] ["self"] (defScope (s_Line 8)) := ⟨rfl, rfl, rfl, by decide +kernel, rfl, by decide +kernel, by decide +kernel⟩
/-- a line at p, its words at wa, k of them taken -/
structure LineAt (C : Addr) (H : Hp) (p dx wa : Addr) (n : Nat) (ws : List Str) (k : Nat) : Prop where
  ob : H p = some (lineI C dx n wa k)
  wd : H wa = some (.lst (ws.map V.str))
  few : ws.length ≤ 100
  kle : k ≤ ws.length
theorem LineAt.ext {C : Addr} {H H' : Hp} {p dx wa : Addr} {n k : Nat} {ws : List Str} (x : Ext H H') (h : LineAt C H p dx wa n ws k) : LineAt C H' p dx wa n ws k :=
  ⟨x _ _ h.ob (fun _ z => by cases z), x _ _ h.wd (fun _ z => by cases z), h.few, h.kle⟩
theorem LineAt.ne {C : Addr} {H : Hp} {p dx wa : Addr} {n k : Nat} {ws : List Str} (h : LineAt C H p dx wa n ws k) : wa ≠ p := fun z => by
  have := h.wd
  rw [z, h.ob] at this
  cases this
theorem LineAt.next {C : Addr} {H : Hp} {p dx wa : Addr} {n k k' : Nat} {ws : List Str} (h : LineAt C H p dx wa n ws k) (hk : k' ≤ ws.length) : LineAt C (upd H p (lineI C dx n wa k')) p dx wa n ws k' :=
  ⟨upd_same, by rw [upd_ne h.ne]; exact h.wd, h.few, hk⟩
def spTake (C : Addr) : Sp := fun vs H Q _ => ∃ (p dx wa : Addr) (n k : Nat) (ws : List Str) (w : Str), vs = [.ref p] ∧ LineAt C H p dx wa n ws k ∧ ws[k]? = some w ∧ Q (.str w) (upd H p (lineI C dx n wa (k + 1)))
theorem tabs_put {T : List Addr} {H : Hp} {p : Addr} {o o' : HO} (h : H p = some o) (no : ∀ ps, o ≠ .tbl ps) (tb : Tabs T H) : Tabs T (upd H p o') := fun P hP => by
  obtain ⟨ps, e, t⟩ := tb P hP
  refine ⟨ps, ?_, t⟩
  rw [upd_ne]
  · exact e
  · intro z
    rw [z, h] at e
    exact no _ (Option.some.inj e)
theorem LineAt.tabs {C : Addr} {H : Hp} {p dx wa : Addr} {n k k' : Nat} {ws : List Str} {T : List Addr} (h : LineAt C H p dx wa n ws k) (tb : Tabs T H) : Tabs T (upd H p (lineI C dx n wa k')) := tabs_put h.ob (fun _ z => by cases z) tb
def spLineInit (C : Addr) : Sp := fun vs H Q _ => ∃ (p dx : Addr) (n : Nat) (ws : List Str), vs = [.ref p, .int (n : Int), .str (lineT ws)] ∧ H p = some (.ins C dx []) ∧ ws ≠ [] ∧ (∀ x ∈ ws, WordF x) ∧ (lineT ws).length ≤ 20000 ∧ ws.length ≤ 100 ∧
  ∀ (wa : Addr) (H' : Hp), H wa = none → (∀ b, b ≠ p → b ≠ wa → H' b = H b) → LineAt C H' p dx wa n ws 0 → Q .non H'
def spThis (C : Addr) : Sp := fun vs H Q _ => ∃ (p dx wa : Addr) (n k : Nat) (ws : List Str) (w : Str), vs = [.ref p, .str w] ∧ LineAt C H p dx wa n ws k ∧ ws[k]? = some w ∧ Q .non (upd H p (lineI C dx n wa (k + 1)))
def spTakeName (C : Addr) (T : List Addr) : Sp := fun vs H Q _ => ∃ (p dx wa : Addr) (n k : Nat) (ws : List Str) (w : Str), vs = [.ref p] ∧ LineAt C H p dx wa n ws k ∧ ws[k]? = some w ∧ NameW 11 w ∧ Tabs T H ∧ ∀ H', Gr T (upd H p (lineI C dx n wa (k + 1))) H' → Q (.str w) H'
def spTakeNum (C : Addr) (T : List Addr) : Sp := fun vs H Q _ => ∃ (p dx wa : Addr) (n k lo hi v : Nat) (ws : List Str) (w : Str), vs = [.ref p, .int (lo : Int), .int (hi : Int)] ∧ LineAt C H p dx wa n ws k ∧ ws[k]? = some w ∧ NumW w v ∧ lo ≤ v ∧ v ≤ hi ∧ Tabs T H ∧
  ∀ H', Gr T (upd H p (lineI C dx n wa (k + 1))) H' → Q (.int (v : Int)) H'
def spOver (C : Addr) : Sp := fun vs H Q _ => ∃ (p dx wa : Addr) (n k : Nat) (ws : List Str), vs = [.ref p] ∧ LineAt C H p dx wa n ws k ∧ ∀ b : Bool, (b = true ↔ k = ws.length) → Q (.bl b) H
def spNext (C : Addr) : Sp := fun vs H Q _ => ∃ (p dx wa : Addr) (n k : Nat) (ws : List Str) (w : Str), vs = [.ref p, .str w] ∧ LineAt C H p dx wa n ws k ∧ ∀ b : Bool, (b = true ↔ ws[k]? = some w) → Q (.bl b) H
def spFinish (C : Addr) : Sp := fun vs H Q _ => ∃ (p dx wa : Addr) (n : Nat) (ws : List Str), vs = [.ref p] ∧ LineAt C H p dx wa n ws ws.length ∧ Q .non H
theorem int_eq (a b : Nat) : decide (V.int (a : Int) = V.int (b : Int)) = true ↔ a = b := by
  constructor
  · intro h
    have := of_decide_eq_true h
    injection this with this
    omega
  · intro h
    rw [h]
    exact decide_eq_true rfl
section
variable {P : Program} {w : World} {K : PySem.W.Frag} {mg : Str → Option Value} {base : Heap} {T : List Addr} {C : Addr}
theorem ok_take {f : Addr} {fd : FuncData} (F : Fun K "take" "Line.take" (s_Line 1) f fd) (L : LineC K C) (bn : mg "len" = none) : FnOk P w K mg base CX0 1 f fd ["self"] (spTake C) := by
  refine F.ok sc_Line1 (fun vs H Q E h => ?_) (fun cdv A outer s H vs Q E hr h => ?_)
  · obtain ⟨p, dx, wa, n, k, ws, w, rfl, _⟩ := h
    rfl
  · obtain ⟨p, dx, wa, n, k, ws, w, rfl, hL, hw, q⟩ := h
    refine ⟨_, (pss_cons (ps_fldaug (pv 0) pe_int in_add)
      (pss_cons (ps_if (pt_cmpR op_gt (pe_fld (pv 0) rfl) (pe_callB lenH (by rfl) bn (by decide +kernel) (pa_cons (pe_fld (pv 0) rfl) pa_nil)) (nomark _)) (pss_one ps_never) pss_nil)
      (pss_one (ps_ret (pe_ix ixH (pe_fld (pv 0) rfl) (pe_op op_sub (pe_fld (pv 0) rfl) pe_int) (fun _ _ => rfl)))))), ?_⟩
    have hk : k < ws.length := (List.getElem?_eq_some_iff.mp hw).1
    have hL2 := hL.next (k' := k + 1) hk
    have e1 : putF "many" (V.int ((k : Int) + 1)) (lineF n wa k) = lineF n wa (k + 1) := by kernel_rfl
    refine ⟨_, rfl, p, C, dx, _, .int (k : Int), rfl, hL.ob, L.cl, L.m, (by kernel_rfl), _, _, rfl, rfl, dx, _, hL.ob, (by show 3 < 1000; decide), ?_⟩
    rw [e1]
    refine ⟨_, rfl, p, C, dx, _, .int ((k + 1 : Nat) : Int), rfl, hL2.ob, L.cl, L.m, (by kernel_rfl), _, rfl, p, C, dx, _, .ref wa, rfl, hL2.ob, L.cl, L.w, (by kernel_rfl), false, wa, _, rfl, hL2.wd, _, _, rfl, rfl, _, rfl, ?_⟩
    refine if_f (decide_eq_false ?_) ?_
    · rw [List.length_map]
      omega
    refine ⟨_, rfl, p, C, dx, _, .ref wa, rfl, hL2.ob, L.cl, L.w, (by kernel_rfl), _, rfl, p, C, dx, _, .int ((k + 1 : Nat) : Int), rfl, hL2.ob, L.cl, L.m, (by kernel_rfl), _, _, rfl, rfl, false, wa, _, k, _, rfl, ?_, hL2.wd, by rw [List.getElem?_map, hw]; rfl, q⟩
    show V.int (((k + 1 : Nat) : Int) - 1) = V.int (k : Int)
    rw [show (((k + 1 : Nat) : Int) - 1 : Int) = (k : Int) by omega]
theorem ok_line_init {f : Addr} {fd : FuncData} (F : Fun K "__init__" "Line.__init__" (s_Line 0) f fd) (L : LineC K C) : FnOk P w K mg base CX0 1 f fd ["self", "number", "text"] (spLineInit C) := by
  refine F.ok sc_Line0 (fun vs H Q E h => ?_) (fun cdv A outer s H vs Q E hr h => ?_)
  · obtain ⟨p, dx, n, ws, rfl, _⟩ := h
    rfl
  · obtain ⟨p, dx, n, ws, rfl, hp, hne, hw, hl, hl2, q⟩ := h
    refine ⟨_, (pss_cons (ps_fld (pv 0) (pv 1) rfl) (pss_cons (ps_fld (pv 0) (pe_split (pv 2) pe_str) rfl) (pss_one (ps_fld (pv 0) pe_int rfl)))), ?_⟩
    have sl : sizeLine = 16777216 := sizeLine_eq
    refine ⟨_, rfl, _, rfl, p, C, dx, _, rfl, hp, L.cl, L.n, (by show 0 < 1000; decide), ?_⟩
    refine ⟨_, rfl, ⟨_, rfl⟩, _, " ", rfl, rfl, (by decide +kernel), by omega, ?_⟩
    rw [split_line hne hw]
    refine fun wa hwa => ?_
    have nwp : wa ≠ p := fun z => by rw [z, upd_same] at hwa; cases hwa
    have hwa0 : H wa = none := by rw [upd_ne nwp] at hwa; exact hwa
    refine ⟨_, rfl, p, C, dx, _, rfl, (by rw [upd_ne nwp.symm]; exact upd_same), L.cl, L.w, (by show 1 < 1000; decide), ?_⟩
    refine ⟨_, rfl, p, C, dx, _, rfl, upd_same, L.cl, L.m, (by show 2 < 1000; decide), ?_⟩
    refine q wa _ hwa0 (fun b n1 n2 => by rw [upd_ne n1, upd_ne n1, upd_ne n2, upd_ne n1]) ⟨?_, ?_, hl2, Nat.zero_le _⟩
    · rw [upd_same]
      show some (HO.ins C dx (putF "many" (.int 0) (putF "words" (.ref wa) (putF "number" (.int (n : Int)) [])))) = _
      rw [show putF "many" (.int 0) (putF "words" (.ref wa) (putF "number" (.int (n : Int)) [])) = lineF n wa 0 by kernel_rfl]
      rfl
    · rw [upd_ne nwp, upd_ne nwp, upd_same]
theorem ok_this {f : Addr} {fd : FuncData} (F : Fun K "take_this" "Line.take_this" (s_Line 3) f fd) (L : LineC K C) (TK : Mx P w K mg base C "take" 1 ["self"] (spTake C)) : FnOk P w K mg base CX0 2 f fd ["self", "word"] (spThis C) := by
  refine F.ok sc_Line3 (fun vs H Q E h => ?_) (fun cdv A outer s H vs Q E hr h => ?_)
  · obtain ⟨p, dx, wa, n, k, ws, w, rfl, _⟩ := h
    rfl
  · obtain ⟨p, dx, wa, n, k, ws, x, rfl, hL, hw, q⟩ := h
    refine ⟨_, (pss_one (ps_if (pt_cmpR op_ne (pe_mx0 (pv 0) L.cl TK hr) (pv 1) (nomark _)) (pss_one ps_never) pss_nil)), ?_⟩
    refine ⟨_, rfl, p, dx, _, rfl, hL.ob, (by kernel_rfl), p, dx, wa, n, k, ws, x, rfl, hL, hw, _, rfl, rfl, _, rfl, ?_⟩
    refine if_f ?_ q
    simp
theorem ok_take_name {f : Addr} {fd : FuncData} (F : Fun K "take_name" "Line.take_name" (s_Line 4) f fd) (L : LineC K C) (TK : Mx P w K mg base C "take" 1 ["self"] (spTake C)) (IN : Fx P w K mg base "is_name" 2 ["value"] (spIsName T)) : FnOk P w K mg base CX0 3 f fd ["self"] (spTakeName C T) := by
  refine F.ok sc_Line4 (fun vs H Q E h => ?_) (fun cdv A outer s H vs Q E hr h => ?_)
  · obtain ⟨p, dx, wa, n, k, ws, w, rfl, _⟩ := h
    rfl
  · obtain ⟨p, dx, wa, n, k, ws, x, rfl, hL, hw, hx, tb, q⟩ := h
    refine ⟨_, (pss_cons (ps_set (i := 1) sc_Line4.nd rfl (Or.inl rfl) (pe_mx0 (pv 0) L.cl TK (hr.mono (by decide))))
      (pss_cons (ps_if (pt_not (pt_val (pe_fx IN hr (pa_cons (pv 1) pa_nil)))) (pss_one ps_never) pss_nil)
      (pss_one (ps_ret (pv 1))))), ?_⟩
    refine ⟨_, rfl, p, dx, _, rfl, hL.ob, (by kernel_rfl), p, dx, wa, n, k, ws, x, rfl, hL, hw, ?_⟩
    refine ⟨_, rfl, x, rfl, hx, hL.tabs tb, fun H' g => ⟨true, rfl, iteF ?_⟩⟩
    exact ⟨_, rfl, q H' g⟩
theorem ok_take_num {f : Addr} {fd : FuncData} (F : Fun K "take_number" "Line.take_number" (s_Line 5) f fd) (L : LineC K C) (TK : Mx P w K mg base C "take" 1 ["self"] (spTake C)) (NI : Fx P w K mg base "number_in" 2 ["word", "least", "most"] (spNumIn T)) : FnOk P w K mg base CX0 3 f fd ["self", "least", "most"] (spTakeNum C T) := by
  refine F.ok sc_Line5 (fun vs H Q E h => ?_) (fun cdv A outer s H vs Q E hr h => ?_)
  · obtain ⟨p, dx, wa, n, k, lo, hi, v, ws, w, rfl, _⟩ := h
    rfl
  · obtain ⟨p, dx, wa, n, k, lo, hi, v, ws, x, rfl, hL, hw, hx, h1, h2, tb, q⟩ := h
    refine ⟨_, (pss_cons (ps_set (i := 3) sc_Line5.nd rfl (Or.inl rfl) (pe_fx NI hr (pa_cons (pe_mx0 (pv 0) L.cl TK (hr.mono (by decide))) (pa_cons (pv 1) (pa_cons (pv 2) pa_nil)))))
      (pss_cons (ps_if (pt_cmpR op_isN (pv 3) pe_non (nomark _)) (pss_one ps_never) pss_nil)
      (pss_one (ps_ret (pv 3))))), ?_⟩
    refine ⟨_, rfl, p, dx, _, rfl, hL.ob, (by kernel_rfl), p, dx, wa, n, k, ws, x, rfl, hL, hw, ?_⟩
    refine ⟨_, rfl, _, rfl, x, lo, hi, rfl, hL.tabs tb, .inl ⟨v, hx, h1, h2, fun H' g => ?_⟩⟩
    refine ⟨_, rfl, rfl, _, rfl, if_f (decide_eq_false (fun z => by cases z)) ?_⟩
    exact ⟨_, rfl, q H' g⟩
theorem ok_over {f : Addr} {fd : FuncData} (F : Fun K "is_over" "Line.is_over" (s_Line 6) f fd) (L : LineC K C) (bn : mg "len" = none) : FnOk P w K mg base CX0 1 f fd ["self"] (spOver C) := by
  refine F.ok sc_Line6 (fun vs H Q E h => ?_) (fun cdv A outer s H vs Q E hr h => ?_)
  · obtain ⟨p, dx, wa, n, k, ws, rfl, _⟩ := h
    rfl
  · obtain ⟨p, dx, wa, n, k, ws, rfl, hL, q⟩ := h
    refine ⟨_, (pss_one (ps_ret (pe_cmpR op_eq (pe_fld (pv 0) rfl) (pe_callB lenH (by rfl) bn (by decide +kernel) (pa_cons (pe_fld (pv 0) rfl) pa_nil)) (nomark _)))), ?_⟩
    refine ⟨_, rfl, p, C, dx, _, .int (k : Int), rfl, hL.ob, L.cl, L.m, (by kernel_rfl), _, rfl, p, C, dx, _, .ref wa, rfl, hL.ob, L.cl, L.w, (by kernel_rfl), false, wa, _, rfl, hL.wd, rfl, ?_⟩
    refine q _ ?_
    rw [List.length_map]
    exact int_eq _ _
theorem ok_next {f : Addr} {fd : FuncData} (F : Fun K "is_next" "Line.is_next" (s_Line 7) f fd) (L : LineC K C) (OV : Mx P w K mg base C "is_over" 1 ["self"] (spOver C)) : FnOk P w K mg base CX0 2 f fd ["self", "word"] (spNext C) := by
  refine F.ok sc_Line7 (fun vs H Q E h => ?_) (fun cdv A outer s H vs Q E hr h => ?_)
  · obtain ⟨p, dx, wa, n, k, ws, w, rfl, _⟩ := h
    rfl
  · obtain ⟨p, dx, wa, n, k, ws, x, rfl, hL, q⟩ := h
    refine ⟨_, (pss_one (ps_ret (pe_and (pe_not (pe_mx0 (pv 0) L.cl OV hr)) (pe_one (pe_cmpR op_eq (pe_ix ixH (pe_fld (pv 0) rfl) (pe_fld (pv 0) rfl) (fun _ _ => rfl)) (pv 1) (nomark _)))))), ?_⟩
    refine ⟨_, rfl, p, dx, _, rfl, hL.ob, (by kernel_rfl), p, dx, wa, n, k, ws, rfl, hL, fun b hb => ⟨b, rfl, _, rfl, ?_⟩⟩
    have kle := hL.kle
    cases b with
    | true =>
      have hk := hb.mp rfl
      refine iteF (q false ?_)
      rw [List.getElem?_eq_none (by omega)]
      simp
    | false =>
      have hk : k < ws.length := by
        have : ¬ k = ws.length := fun z => by have := hb.mpr z; cases this
        omega
      refine iteT ?_
      refine ⟨_, rfl, p, C, dx, _, .ref wa, rfl, hL.ob, L.cl, L.w, (by kernel_rfl), _, rfl, p, C, dx, _, .int (k : Int), rfl, hL.ob, L.cl, L.m, (by kernel_rfl), false, wa, _, k, .str ws[k], rfl, rfl, hL.wd, by rw [List.getElem?_map, List.getElem?_eq_getElem hk]; rfl, _, rfl, rfl, ?_⟩
      refine q _ ?_
      rw [List.getElem?_eq_getElem hk]
      constructor
      · intro h
        have := of_decide_eq_true h
        injection this with this
        rw [this]
      · intro h
        rw [Option.some.inj h]
        exact decide_eq_true rfl
theorem ok_finish {f : Addr} {fd : FuncData} (F : Fun K "finish" "Line.finish" (s_Line 8) f fd) (L : LineC K C) (OV : Mx P w K mg base C "is_over" 1 ["self"] (spOver C)) : FnOk P w K mg base CX0 2 f fd ["self"] (spFinish C) := by
  refine F.ok sc_Line8 (fun vs H Q E h => ?_) (fun cdv A outer s H vs Q E hr h => ?_)
  · obtain ⟨p, dx, wa, n, ws, rfl, _⟩ := h
    rfl
  · obtain ⟨p, dx, wa, n, ws, rfl, hL, q⟩ := h
    refine ⟨_, (pss_one (ps_if (pt_not (pt_val (pe_mx0 (pv 0) L.cl OV hr))) (pss_one ps_never) pss_nil)), ?_⟩
    refine ⟨_, rfl, p, dx, _, rfl, hL.ob, (by kernel_rfl), p, dx, wa, n, _, ws, rfl, hL, fun b hb => ⟨b, rfl, ?_⟩⟩
    have : b = true := hb.mpr rfl
    subst this
    exact iteF q
end
end Z
set_option Elab.async false
set_option linter.all false
set_option maxRecDepth 100000
set_option maxHeartbeats 4000000
namespace Z
open PySem L2 PyProof.Rows ZX GX TL
/-! rows of pairs; mends made -/
abbrev s_names_of : Stmt := topS 20
abbrev s_numbers_of : Stmt := topS 21
theorem sc_names_of : FnScope ["row"] ["row"] (defScope s_names_of) := ⟨rfl, rfl, rfl, by decide +kernel, rfl, by decide +kernel, by decide +kernel⟩
theorem sc_numbers_of : FnScope ["row"] ["row"] (defScope s_numbers_of) := ⟨rfl, rfl, rfl, by decide +kernel, rfl, by decide +kernel, by decide +kernel⟩
abbrev Pr := Str × V
def PairV (H : Hp) (v : V) (q : Pr) : Prop := ∃ t, v = .ref t ∧ H t = some (.tup [.str q.1, q.2])
theorem PairV.ext {H H' : Hp} {v : V} {q : Pr} (x : Ext H H') (h : PairV H v q) : PairV H' v q := by
  obtain ⟨a, e, h⟩ := h
  exact ⟨a, e, x _ _ h fun _ z => by cases z⟩
def PairsV (H : Hp) (v : V) (qs : List Pr) : Prop := ∃ a vs, v = .ref a ∧ H a = some (.lst vs) ∧ All2 (PairV H) vs qs
theorem PairsV.ext {H H' : Hp} {v : V} {qs : List Pr} (x : Ext H H') (h : PairsV H v qs) : PairsV H' v qs := by
  obtain ⟨a, vs, e, q, m⟩ := h
  exact ⟨a, vs, e, x _ _ q (fun _ z => by cases z), m.mono fun _ _ => PairV.ext x⟩
def spCol (T : List Addr) (g : Pr → V) : Sp := fun vs H Q _ => ∃ (v : V) (qs : List Pr), vs = [v] ∧ PairsV H v qs ∧ qs.length ≤ 100 ∧ Tabs T H ∧ ∀ (t : Addr) (H' : Hp), Gr T H H' → H t = none → H' t = some (.tup (qs.map g)) → Q (.ref t) H'
section
variable {P : Program} {w : World} {K : PySem.W.Frag} {mg : Str → Option Value} {base : Heap} {T : List Addr}
theorem take_map {α β : Type} {f : α → β} {xs : List α} {i : Nat} {x : α} (h : xs[i]? = some x) : (xs.take (i + 1)).map f = (xs.take i).map f ++ [f x] := by
  rw [take_snoc h, List.map_append]
  rfl
theorem ok_names_of {f c PT : Addr} {fd : FuncData} (F : Fun K "names_of" "names_of" s_names_of f fd) (hc : fd.code = .ref c) (TB : GxR.TabB base mg c PT) (hPT : PT ∈ T) (bt : mg "tuple" = none) : FnOk P w K mg base CX0 3 f fd ["row"] (spCol T fun q => .str q.1) := by
  refine okT F hc sc_names_of (fun vs H Q E h => ?_) (fun A outer s H vs Q E hr h => ?_)
  · obtain ⟨v, qs, rfl, _⟩ := h
    rfl
  · obtain ⟨v, qs, rfl, ⟨a, vs, rfl, ea, hA⟩, l, tb, k⟩ := h
    refine ⟨_, (pss_one (ps_ret (pe_tupG (k := 0) (g := gTup K 2 (gCons (gName 0) (gCons (gName 1) gNil))) (Ng := ["name", "_"]) (src := [none, none]) (vs := [0, 1]) (tt := tYes) hr (by rfl) bt TB rfl (gscp_by (sc := defScope s_names_of) (N := ["row"]) (by decide +kernel)) (pi_sqK K (pv 0))
        (fun _ _ _ _ _ _ _ _ => pg_tup rfl (pgs_cons (pg_name (i := 0) (show List.Nodup (["name", "_"] : List Str) from by decide +kernel) rfl (Or.inl rfl)) (pgs_cons (pg_name (i := 1) (show List.Nodup (["name", "_"] : List Str) from by decide +kernel) rfl (Or.inl rfl)) pgs_nil))) (fun _ _ _ _ _ _ _ _ => pts_nil) (fun _ _ _ _ _ _ _ hr2 => pv 0) (fun _ => rfl)))), ?_⟩
    have lv := hA.length
    refine ⟨_, rfl, a, vs, false, rfl, sqL ea, tb PT hPT, fun H2 tb2 => turns_it walk_sq (fun i ys H3 => Gr T H H3 ∧ ys = (qs.take i).map fun q => V.str q.1) ⟨Gr.tabbed hPT (tb PT hPT) tb2, rfl⟩ (fun i ys H3 _ h => sqL (h.1.ext _ _ ea (fun _ z => by cases z))) ?_ (fun ys H3 h p hp => ?_)⟩
    · rintro i x ys H3 H4 hi ⟨g, rfl⟩ ⟨rfl, hx⟩
      obtain ⟨q, hq, t, rfl, et⟩ := hA.get hx
      refine ⟨t, _, rfl, SqT.of (g.ext _ _ et (fun _ z => by cases z)), rfl, _, _, rfl, _, _, rfl, rfl, rfl, ?_⟩
      dsimp only [tYes]
      refine iteT ?_
      refine ⟨_, rfl, ?_, g, ?_⟩
      · rw [List.length_map, List.length_take]
        exact lsz (by omega)
      · rw [take_map hq]
    · obtain ⟨g, rfl⟩ := h
      rw [lv, List.take_length]
      exact k p _ (g.trans (Gr.new hp)) (g.stay p hp) upd_same
theorem ok_numbers_of {f c PT : Addr} {fd : FuncData} (F : Fun K "numbers_of" "numbers_of" s_numbers_of f fd) (hc : fd.code = .ref c) (TB : GxR.TabB base mg c PT) (hPT : PT ∈ T) (bt : mg "tuple" = none) : FnOk P w K mg base CX0 3 f fd ["row"] (spCol T fun q => q.2) := by
  refine okT F hc sc_numbers_of (fun vs H Q E h => ?_) (fun A outer s H vs Q E hr h => ?_)
  · obtain ⟨v, qs, rfl, _⟩ := h
    rfl
  · obtain ⟨v, qs, rfl, ⟨a, vs, rfl, ea, hA⟩, l, tb, k⟩ := h
    refine ⟨_, (pss_one (ps_ret (pe_tupG (k := 0) (g := gTup K 2 (gCons (gName 0) (gCons (gName 1) gNil))) (Ng := ["_", "number"]) (src := [none, none]) (vs := [0, 1]) (tt := tYes) hr (by rfl) bt TB rfl (gscp_by (sc := defScope s_numbers_of) (N := ["row"]) (by decide +kernel)) (pi_sqK K (pv 0))
        (fun _ _ _ _ _ _ _ _ => pg_tup rfl (pgs_cons (pg_name (i := 0) (show List.Nodup (["_", "number"] : List Str) from by decide +kernel) rfl (Or.inl rfl)) (pgs_cons (pg_name (i := 1) (show List.Nodup (["_", "number"] : List Str) from by decide +kernel) rfl (Or.inl rfl)) pgs_nil))) (fun _ _ _ _ _ _ _ _ => pts_nil) (fun _ _ _ _ _ _ _ hr2 => pv 1) (fun _ => rfl)))), ?_⟩
    have lv := hA.length
    refine ⟨_, rfl, a, vs, false, rfl, sqL ea, tb PT hPT, fun H2 tb2 => turns_it walk_sq (fun i ys H3 => Gr T H H3 ∧ ys = (qs.take i).map fun q => q.2) ⟨Gr.tabbed hPT (tb PT hPT) tb2, rfl⟩ (fun i ys H3 _ h => sqL (h.1.ext _ _ ea (fun _ z => by cases z))) ?_ (fun ys H3 h p hp => ?_)⟩
    · rintro i x ys H3 H4 hi ⟨g, rfl⟩ ⟨rfl, hx⟩
      obtain ⟨q, hq, t, rfl, et⟩ := hA.get hx
      refine ⟨t, _, rfl, SqT.of (g.ext _ _ et (fun _ z => by cases z)), rfl, _, _, rfl, _, _, rfl, rfl, rfl, ?_⟩
      dsimp only [tYes]
      refine iteT ?_
      refine ⟨_, rfl, ?_, g, ?_⟩
      · rw [List.length_map, List.length_take]
        exact lsz (by omega)
      · rw [take_map hq]
    · obtain ⟨g, rfl⟩ := h
      rw [lv, List.take_length]
      exact k p _ (g.trans (Gr.new hp)) (g.stay p hp) upd_same
end
end Z
set_option Elab.async false
set_option linter.all false
set_option maxRecDepth 100000
set_option maxHeartbeats 4000000
namespace Z
open PySem L2 PyProof.Rows ZX GX TL
/-! a draft, and what it takes of a line -/
structure DraftC (K : PySem.W.Frag) (mg : Str → Option Value) (C : Addr) : Prop where
  cl : Cls K C
  f : NoAttr K C "file"
  n : NoAttr K C "nodes"
  r : NoAttr K C "rooms"
  w : NoAttr K C "news"
  m : NoAttr K C "mends"
  q : NoAttr K C "readers"
  most : ∃ t, mg "MOST" = some (.int 40 t)
  mostN : ∃ t, mg "MOST_NODES" = some (.int 7 t)
structure MendC (K : PySem.W.Frag) (C : Addr) : Prop where
  cl : Cls K C
  l : NoAttr K C "label"
  k : NoAttr K C "kind"
  n : NoAttr K C "nodes"
  h : NoAttr K C "helpers"
  a : NoAttr K C "amounts"
  s : NoAttr K C "swap"
theorem pe_fldK {X : Cx} {e : Expr} {f : Str} {pos : Pos} {ta : TE} (K : PySem.W.Frag) (he : PE X e ta) (hb : attributeBase e f X.env (eval e X.env) = eval e X.env) (hK : X.K = K := by rfl) : PE X (.Attribute e f pos) (tFld K ta f) := by
  subst hK
  exact pe_fld he hb
/-- where a draft and its lists stand -/
structure DA where
  d : Addr
  dx : Addr
  na : Addr
  ra : Addr
  wa : Addr
  ma : Addr
  qa : Addr
def draftF (A : DA) (fv : V) : List (Str × V) := [("file", fv), ("nodes", .ref A.na), ("rooms", .ref A.ra), ("news", .ref A.wa), ("mends", .ref A.ma), ("readers", .ref A.qa)]
def mendF (l k n h a s : V) : List (Str × V) := [("label", l), ("kind", k), ("nodes", n), ("helpers", h), ("amounts", a), ("swap", s)]
abbrev s_Mend (k : Nat) : Stmt := inClass (topS 17) k
abbrev s_Draft (k : Nat) : Stmt := inClass (topS 19) k
theorem sc_Mend0 : FnScope ["self", "label", "kind", "nodes", "helpers", "amounts", "swap"] ["self", "label", "kind", "nodes", "helpers", "amounts", "swap"] (defScope (s_Mend 0)) := ⟨rfl, rfl, rfl, by decide +kernel, rfl, by decide +kernel, by decide +kernel⟩
theorem sc_D9 : FnScope ["self", "line", "label"] ["self", "line"] (defScope (s_Draft 9)) := ⟨rfl, rfl, rfl, by decide +kernel, rfl, by decide +kernel, by decide +kernel⟩
theorem sc_D10 : FnScope ["self", "line", "barred", "name"] ["self", "line", "barred"] (defScope (s_Draft 10)) := ⟨rfl, rfl, rfl, by decide +kernel, rfl, by decide +kernel, by decide +kernel⟩
theorem sc_D11 : FnScope ["self", "line", "mended", "close", "row"] ["self", "line", "mended", "close"] (defScope (s_Draft 11)) := ⟨rfl, rfl, rfl, by decide +kernel, rfl, by decide +kernel, by decide +kernel⟩
theorem sc_D12 : FnScope ["self", "line", "barred", "name", "colon", "digits", "amount"] ["self", "line", "barred"] (defScope (s_Draft 12)) := ⟨rfl, rfl, rfl, by decide +kernel, rfl, by decide +kernel, by decide +kernel⟩
theorem sc_D13 : FnScope ["self", "line", "barred", "name", "colon", "digits", "limit"] ["self", "line", "barred"] (defScope (s_Draft 13)) := ⟨rfl, rfl, rfl, by decide +kernel, rfl, by decide +kernel, by decide +kernel⟩
def spMendInit (CM : Addr) : Sp := fun vs H Q _ => ∃ (x dx : Addr) (l k n h a s : V), vs = [.ref x, l, k, n, h, a, s] ∧ H x = some (.ins CM dx []) ∧ Q .non (upd H x (.ins CM dx (mendF l k n h a s)))
def LabelV (CM : Addr) (H : Hp) (v : V) (l : Str) : Prop := ∃ a dx fs, v = .ref a ∧ H a = some (.ins CM dx fs) ∧ fs.lookup ("label" : Str) = some (V.str l)
theorem LabelV.ext {CM : Addr} {H H' : Hp} {v : V} {l : Str} (x : Ext H H') (h : LabelV CM H v l) : LabelV CM H' v l := by
  obtain ⟨a, dx, fs, e, q, r⟩ := h
  exact ⟨a, dx, fs, e, x _ _ q (fun _ z => by cases z), r⟩
theorem sqT_put {K : PySem.W.Frag} {H : Hp} {q b : Addr} {o o' : HO} {xs : List V} (hq : H q = some o) (n1 : ∀ ys, o ≠ .tup ys) (n2 : ∀ u ys, o ≠ .frz u (.tup ys)) (h : SqT K H b xs) : SqT K (upd H q o') b xs := by
  rcases h with (h | ⟨u, h⟩) | h
  · refine .inl (.inl ?_)
    rw [upd_ne]
    · exact h
    · intro z
      rw [z, hq] at h
      exact n1 _ (Option.some.inj h)
  · refine .inl (.inr ⟨u, ?_⟩)
    rw [upd_ne]
    · exact h
    · intro z
      rw [z, hq] at h
      exact n2 _ _ (Option.some.inj h)
  · exact .inr h
/-- the draft's own object and its list of names -/
structure DN (CD : Addr) (H : Hp) (A : DA) (fv : V) (names : List Str) : Prop where
  ob : H A.d = some (.ins CD A.dx (draftF A fv))
  nm : H A.na = some (.lst (names.map V.str))
theorem DN.ext {CD : Addr} {H H' : Hp} {A : DA} {fv : V} {names : List Str} (x : Ext H H') (h : DN CD H A fv names) : DN CD H' A fv names := ⟨x _ _ h.ob (fun _ z => by cases z), x _ _ h.nm (fun _ z => by cases z)⟩
/-- a line is taken further -/
theorem DN.line {CD CL : Addr} {H : Hp} {A : DA} {fv : V} {names : List Str} {p dx wa : Addr} {n k k' : Nat} {ws : List Str} (ne : CD ≠ CL) (h : DN CD H A fv names) (L : LineAt CL H p dx wa n ws k) : DN CD (upd H p (lineI CL dx n wa k')) A fv names := by
  refine ⟨?_, ?_⟩
  · rw [upd_ne]
    · exact h.ob
    · intro z
      have := h.ob
      rw [z, L.ob] at this
      injection this with this
      injection this with this
      exact ne this.symm
  · rw [upd_ne]
    · exact h.nm
    · intro z
      have := h.nm
      rw [z, L.ob] at this
      cases this
def spLabel (CD CM CL : Addr) (T : List Addr) : Sp := fun vs H Q _ => ∃ (A : DA) (fv : V) (names ls : List Str) (mvs : List V) (p dx wa : Addr) (n k : Nat) (ws : List Str) (w : Str), vs = [.ref A.d, .ref p] ∧ DN CD H A fv names ∧ H A.ma = some (.lst mvs) ∧ All2 (LabelV CM H) mvs ls ∧
  LineAt CL H p dx wa n ws k ∧ ws[k]? = some w ∧ NameW 11 w ∧ w ∉ ls ∧ Tabs T H ∧ ∀ H', Gr T (upd H p (lineI CL dx n wa (k + 1))) H' → Q (.str w) H'
def spNode (CD CL : Addr) (K : PySem.W.Frag) : Sp := fun vs H Q _ => ∃ (A : DA) (fv : V) (names bs : List Str) (p dx wa b : Addr) (n k : Nat) (ws : List Str) (w : Str), vs = [.ref A.d, .ref p, .ref b] ∧ DN CD H A fv names ∧ SqT K H b (bs.map V.str) ∧
  LineAt CL H p dx wa n ws k ∧ ws[k]? = some w ∧ w ∈ names ∧ w ∉ bs ∧ Q (.str w) (upd H p (lineI CL dx n wa (k + 1)))
def spItem (CD CL : Addr) (T : List Addr) : Sp := fun vs H Q _ => ∃ (A : DA) (fv : V) (names bs : List Str) (p dx wa b : Addr) (n k a : Nat) (ws : List Str) (h aw : Str), vs = [.ref A.d, .ref p, .ref b] ∧ DN CD H A fv names ∧ H b = some (.tup (bs.map V.str)) ∧
  LineAt CL H p dx wa n ws k ∧ ws[k]? = some (h ++ ":" ++ aw) ∧ NameW 11 h ∧ NumW aw a ∧ 1 ≤ a ∧ a ≤ 40 ∧ h ∈ names ∧ h ∉ bs ∧ Tabs T H ∧ ∀ (t : Addr) (H' : Hp), Gr T (upd H p (lineI CL dx n wa (k + 1))) H' → H' t = some (.tup [.str h, .int (a : Int)]) → H t = none → Q (.ref t) H'
/-- a word of a reader -/
def PlaceT (w h : Str) (li : Option Nat) : Prop := match li with
  | none => w = h
  | some a => ∃ aw, w = h ++ ":" ++ aw ∧ NumW aw a ∧ a ≤ 40
def spPlace (CD CL : Addr) (T : List Addr) : Sp := fun vs H Q _ => ∃ (A : DA) (fv : V) (names bs : List Str) (p dx wa b : Addr) (n k : Nat) (ws : List Str) (w h : Str) (li : Option Nat), vs = [.ref A.d, .ref p, .ref b] ∧ DN CD H A fv names ∧ H b = some (.tup (bs.map V.str)) ∧
  LineAt CL H p dx wa n ws k ∧ ws[k]? = some w ∧ PlaceT w h li ∧ NameW 11 h ∧ h ∈ names ∧ h ∉ bs ∧ Tabs T H ∧ ∀ (t : Addr) (H' : Hp), Gr T (upd H p (lineI CL dx n wa (k + 1))) H' → H' t = some (.tup [.str h, limV li]) → H t = none → Q (.ref t) H'
section
variable {P : Program} {w : World} {K : PySem.W.Frag} {mg : Str → Option Value} {base : Heap} {T : List Addr} {CD CM CL : Addr}
theorem ok_mend_init {f : Addr} {fd : FuncData} (F : Fun K "__init__" "Mend.__init__" (s_Mend 0) f fd) (M : MendC K CM) : FnOk P w K mg base CX0 1 f fd ["self", "label", "kind", "nodes", "helpers", "amounts", "swap"] (spMendInit CM) := by
  refine F.ok sc_Mend0 (fun vs H Q E h => ?_) (fun cdv A outer s H vs Q E hr h => ?_)
  · obtain ⟨x, dx, l, k, n, h, a, s, rfl, _⟩ := h
    rfl
  · obtain ⟨x, dx, l, k, n, h, a, s, rfl, hx, q⟩ := h
    refine ⟨_, (pss_cons (ps_fld (pv 0) (pv 1) rfl) (pss_cons (ps_fld (pv 0) (pv 2) rfl) (pss_cons (ps_fld (pv 0) (pv 3) rfl) (pss_cons (ps_fld (pv 0) (pv 4) rfl) (pss_cons (ps_fld (pv 0) (pv 5) rfl) (pss_one (ps_fld (pv 0) (pv 6) rfl))))))), ?_⟩
    refine ⟨_, rfl, _, rfl, x, CM, dx, _, rfl, hx, M.cl, M.l, (by show 0 < 1000; decide), ?_⟩
    refine ⟨_, rfl, _, rfl, x, CM, dx, _, rfl, upd_same, M.cl, M.k, (by show 1 < 1000; decide), ?_⟩
    refine ⟨_, rfl, _, rfl, x, CM, dx, _, rfl, upd_same, M.cl, M.n, (by show 2 < 1000; decide), ?_⟩
    refine ⟨_, rfl, _, rfl, x, CM, dx, _, rfl, upd_same, M.cl, M.h, (by show 3 < 1000; decide), ?_⟩
    refine ⟨_, rfl, _, rfl, x, CM, dx, _, rfl, upd_same, M.cl, M.a, (by show 4 < 1000; decide), ?_⟩
    refine ⟨_, rfl, _, rfl, x, CM, dx, _, rfl, upd_same, M.cl, M.s, (by show 5 < 1000; decide), ?_⟩
    show Q .non _
    rw [upd_twice, upd_twice, upd_twice, upd_twice, upd_twice]
    exact q
theorem ok_label {f c PT : Addr} {fd : FuncData} (F : Fun K "taken_label" "Draft.taken_label" (s_Draft 9) f fd) (hc : fd.code = .ref c) (TB : GxR.TabB base mg c PT) (hPT : PT ∈ T) (ba : mg "any" = none) (D : DraftC K mg CD) (M : MendC K CM) (L : LineC K CL) (ne : CD ≠ CL) (nm : CM ≠ CL) (TN : Mx P w K mg base CL "take_name" 3 ["self"] (spTakeName CL T)) :
    FnOk P w K mg base CX0 4 f fd ["self", "line"] (spLabel CD CM CL T) := by
  refine okT F hc sc_D9 (fun vs H Q E h => ?_) (fun Ar outer s H vs Q E hr h => ?_)
  · obtain ⟨A, fv, names, ls, mvs, p, dx, wa, n, k, ws, w, rfl, _⟩ := h
    rfl
  · obtain ⟨A, fv, names, ls, mvs, p, dx, wa, n, k, ws, w, rfl, hD, hM, hA, hL, hw, hn, hnot, tb, q⟩ := h
    refine ⟨_, (pss_cons (ps_set (i := 2) sc_D9.nd rfl (Or.inr rfl) (pe_mx0 (pv 1) L.cl TN hr))
      (pss_cons (ps_if (pt_val (pe_anyG (k := 0) (Ng := ["mend", "label"]) (src := [none, some 2]) (vs := [0]) (tt := tYes) (hr.mono (by decide)) (by rfl) ba TB rfl (gscp_by (sc := defScope (s_Draft 9)) (N := ["self", "line", "label"]) (by decide +kernel)) (pi_sqK K (pe_fld (pv 0) rfl))
        (fun _ _ _ _ _ _ _ _ => pg_name (i := 0) (show List.Nodup (["mend", "label"] : List Str) from by decide +kernel) rfl (Or.inl rfl)) (fun _ _ _ _ _ _ _ _ => pts_nil) (fun _ _ _ _ _ _ _ hr2 => pe_cmpR op_eq (pe_fldK K (pv 0) rfl) (pv 1) (nomark _)) (fun _ => rfl))) (pss_one ps_never) pss_nil)
      (pss_one (ps_ret (pv 2))))), ?_⟩
    refine ⟨_, rfl, p, dx, _, rfl, hL.ob, (by kernel_rfl), p, dx, wa, n, k, ws, w, rfl, hL, hw, hn, tb, fun H1 g1 => ?_⟩
    have ext1 : Ext H (upd H p (lineI CL dx n wa (k + 1))) → True := fun _ => True.intro
    have hD1 := (hD.line (k' := k + 1) ne hL).ext g1.ext
    have npm : A.ma ≠ p := fun z => by rw [z, hL.ob] at hM; cases hM
    have hM1 : H1 A.ma = some (.lst mvs) := g1.ext _ _ (by rw [upd_ne npm]; exact hM) (fun _ z => by cases z)
    have hA1 : All2 (LabelV CM H1) mvs ls := hA.mono fun v l h => by
      obtain ⟨a, dx', fs, e, e1, e2⟩ := h
      refine ⟨a, dx', fs, e, g1.ext _ _ ?_ (fun _ z => by cases z), e2⟩
      rw [upd_ne]
      · exact e1
      · intro z
        rw [z, hL.ob] at e1
        injection e1 with e1
        injection e1 with e1
        exact nm e1.symm
    have tb1 := g1.tabs (hL.tabs (k' := k + 1) tb)
    refine ⟨_, rfl, A.d, CD, A.dx, _, .ref A.ma, rfl, hD1.ob, D.cl, D.m, (by kernel_rfl), A.ma, mvs, false, rfl, sqL hM1, tb1 PT hPT, fun H2 tb2 => turns_it walk_sq (fun i ys H3 => Gr T H1 H3) (Gr.tabbed hPT (tb1 PT hPT) tb2) (fun i ys H3 _ h => sqL (h.ext _ _ hM1 (fun _ z => by cases z))) ?_ (fun ys H3 g => ?_)⟩
    · rintro i x ys H3 H4 hi g ⟨rfl, hx⟩
      obtain ⟨l, hl, a, dx', fs, rfl, e1, e2⟩ := hA1.get hx
      refine ⟨rfl, ?_⟩
      dsimp only [tYes]
      refine iteT ?_
      refine ⟨_, rfl, a, CM, dx', fs, .str l, rfl, g.ext _ _ e1 (fun _ z => by cases z), M.cl, M.l, e2, _, rfl, rfl, ?_⟩
      have nl : l ≠ w := fun z => hnot (z ▸ List.mem_of_getElem? hl)
      exact ⟨_, rfl, if_f (decide_eq_false (str_ne nl)) g⟩
    · refine ⟨_, rfl, iteF ?_⟩
      exact ⟨_, rfl, q H3 (g1.trans g)⟩
theorem ok_node {f : Addr} {fd : FuncData} (F : Fun K "taken_node" "Draft.taken_node" (s_Draft 10) f fd) (D : DraftC K mg CD) (L : LineC K CL) (ne : CD ≠ CL) (TK : Mx P w K mg base CL "take" 1 ["self"] (spTake CL)) :
    FnOk P w K mg base CX0 2 f fd ["self", "line", "barred"] (spNode CD CL K) := by
  refine F.ok sc_D10 (fun vs H Q E h => ?_) (fun cdv Ar outer s H vs Q E hr h => ?_)
  · obtain ⟨A, fv, names, bs, p, dx, wa, b, n, k, ws, w, rfl, _⟩ := h
    rfl
  · obtain ⟨A, fv, names, bs, p, dx, wa, b, n, k, ws, w, rfl, hD, hB, hL, hw, hin, hnot, q⟩ := h
    refine ⟨_, (pss_cons (ps_set (i := 3) sc_D10.nd rfl (Or.inl rfl) (pe_mx0 (pv 1) L.cl TK hr))
      (pss_cons (ps_if (PW.pt (pw_or (pt_cmpR op_notIn_seq (pv 3) (pe_fld (pv 0) rfl) rfl) (pw_or1 (pt_cmpR op_in_seq (pv 3) (pv 2) rfl)))) (pss_one ps_never) pss_nil)
      (pss_one (ps_ret (pv 3))))), ?_⟩
    have hD1 := hD.line (k' := k + 1) ne hL
    have hB1 : SqT K (upd H p (lineI CL dx n wa (k + 1))) b (bs.map V.str) := sqT_put hL.ob (fun _ z => by cases z) (fun _ _ z => by cases z) hB
    refine ⟨_, rfl, p, dx, _, rfl, hL.ob, (by kernel_rfl), p, dx, wa, n, k, ws, w, rfl, hL, hw, ?_⟩
    refine ⟨_, rfl, _, rfl, A.d, CD, A.dx, _, .ref A.na, rfl, hD1.ob, D.cl, D.n, (by kernel_rfl), A.na, _, rfl, .inl (SqL.of hD1.nm), rfl, flat_strs _, _, rfl, ?_⟩
    rw [inV_str]
    refine if_f (by simp [hin]) ?_
    refine ⟨_, rfl, _, rfl, b, _, rfl, .inr hB1, rfl, flat_strs _, _, rfl, ?_⟩
    rw [inV_str]
    refine if_f (by simp [hnot]) ?_
    exact ⟨_, rfl, q⟩
theorem ok_item {f : Addr} {fd : FuncData} (F : Fun K "taken_item" "Draft.taken_item" (s_Draft 12) f fd) (D : DraftC K mg CD) (L : LineC K CL) (ne : CD ≠ CL) (TK : Mx P w K mg base CL "take" 1 ["self"] (spTake CL)) (NI : Fx P w K mg base "number_in" 2 ["word", "least", "most"] (spNumIn T)) :
    FnOk P w K mg base CX0 3 f fd ["self", "line", "barred"] (spItem CD CL T) := by
  refine F.ok sc_D12 (fun vs H Q E h => ?_) (fun cdv Ar outer s H vs Q E hr h => ?_)
  · obtain ⟨A, fv, names, bs, p, dx, wa, b, n, k, a, ws, h, aw, rfl, _⟩ := h
    rfl
  · obtain ⟨A, fv, names, bs, p, dx, wa, b, n, k, a, ws, h, aw, rfl, hD, hB, hL, hw, hn, hN, a1, a40, hin, hnot, tb, q⟩ := h
    obtain ⟨tM, gM⟩ := D.most
    refine ⟨_, (pss_cons (ps_asg (pe_partition (pe_mx0 (pv 1) L.cl TK (hr.mono (by decide))) pe_str) (pg_tup rfl (pgs_cons (pg_name (i := 3) sc_D12.nd rfl (Or.inl rfl)) (pgs_cons (pg_name (i := 4) sc_D12.nd rfl (Or.inl rfl)) (pgs_cons (pg_name (i := 5) sc_D12.nd rfl (Or.inl rfl)) pgs_nil)))))
      (pss_cons (ps_set (i := 6) sc_D12.nd rfl (Or.inl rfl) (pe_fx NI hr (pa_cons (pv 5) (pa_cons pe_int (pa_cons (pe_glob (v := .int 40) (by rfl) gM ⟨tM, rfl⟩) pa_nil)))))
      (pss_cons (ps_if (PW.pt (pw_or (pt_cmpR op_notIn_seq (pv 3) (pe_fld (pv 0) rfl) rfl) (pw_or (pt_cmpR op_in_seq (pv 3) (pv 2) rfl) (pw_or (pt_cmpR op_eq (pv 4) pe_str (nomark _)) (pw_or1 (pt_cmpR op_isN (pv 6) pe_non (nomark _))))))) (pss_one ps_never) pss_nil)
      (pss_one (ps_ret (pe_tup (pa_cons (pv 3) (pa_cons (pv 6) pa_nil)))))))), ?_⟩
    have big : ∀ {m : Nat}, m ≤ 1000 → m ≤ sizeLine := fun h => Nat.le_of_lt (lsz h)
    have lh := hn.len
    have la := hN.len'
    have hL1 := hL.next (k' := k + 1) (by have := (List.getElem?_eq_some_iff.mp hw).1; omega)
    have hD1 := hD.line (k' := k + 1) ne hL
    have npb : b ≠ p := fun z => by rw [z, hL.ob] at hB; cases hB
    have hB1 : (upd H p (lineI CL dx n wa (k + 1))) b = some (.tup (bs.map V.str)) := by rw [upd_ne npb]; exact hB
    have part : Txt.partition (h ++ ":" ++ aw) ":" = (h, (":" : Str), aw) := partition_app tl_colon (hn.free (.inr (.inr rfl)))
    refine ⟨_, rfl, p, dx, _, rfl, hL.ob, (by kernel_rfl), p, dx, wa, n, k, ws, _, rfl, hL, hw, ⟨_, rfl⟩, _, ":", rfl, rfl, (by decide +kernel), big (by rw [app_len, app_len, colon_len]; omega), ?_⟩
    rw [part]
    refine fun t ht => ?_
    have g1 : Gr T (upd H p (lineI CL dx n wa (k + 1))) (upd (upd H p (lineI CL dx n wa (k + 1))) t (.tup [.str h, .str ":", .str aw])) := Gr.new ht
    refine ⟨t, _, rfl, SqT.of upd_same, rfl, _, _, rfl, _, _, rfl, _, _, rfl, rfl, ?_⟩
    refine ⟨_, rfl, aw, 1, 40, rfl, g1.tabs (hL.tabs tb), .inl ⟨a, hN, a1, a40, fun H2 g2 => ?_⟩⟩
    have g3 := g1.trans g2
    have hD3 := hD1.ext g3.ext
    have hB3 := g3.ext _ _ hB1 (fun _ z => by cases z)
    refine ⟨_, rfl, _, rfl, A.d, CD, A.dx, _, .ref A.na, rfl, hD3.ob, D.cl, D.n, (by kernel_rfl), A.na, _, rfl, .inl (SqL.of hD3.nm), rfl, flat_strs _, _, rfl, ?_⟩
    rw [inV_str]
    refine if_f (by simp [hin]) ?_
    refine ⟨_, rfl, _, rfl, b, _, rfl, .inr (SqT.of hB3), rfl, flat_strs _, _, rfl, ?_⟩
    rw [inV_str]
    refine if_f (by simp [hnot]) ?_
    refine ⟨_, rfl, rfl, _, rfl, if_f (decide_eq_false (str_ne (show (":" : Str) ≠ ("" : Str) from by decide +kernel))) ?_⟩
    refine ⟨_, rfl, rfl, _, rfl, if_f (decide_eq_false (fun z => by cases z)) ?_⟩
    refine ⟨_, rfl, _, rfl, (by show 2 ≤ sizeLine; exact big (by decide)), fun u hu => ?_⟩
    refine q u _ (g3.trans (Gr.new hu)) upd_same ?_
    have := g3.stay u hu
    rw [upd_ne] at this
    · exact this
    · intro z
      rw [z, upd_same] at this
      cases this
theorem ok_place {f : Addr} {fd : FuncData} (F : Fun K "taken_place" "Draft.taken_place" (s_Draft 13) f fd) (D : DraftC K mg CD) (L : LineC K CL) (ne : CD ≠ CL) (TK : Mx P w K mg base CL "take" 1 ["self"] (spTake CL)) (NI : Fx P w K mg base "number_in" 2 ["word", "least", "most"] (spNumIn T)) :
    FnOk P w K mg base CX0 3 f fd ["self", "line", "barred"] (spPlace CD CL T) := by
  refine F.ok sc_D13 (fun vs H Q E h => ?_) (fun cdv Ar outer s H vs Q E hr h => ?_)
  · obtain ⟨A, fv, names, bs, p, dx, wa, b, n, k, ws, w, h, li, rfl, _⟩ := h
    rfl
  · obtain ⟨A, fv, names, bs, p, dx, wa, b, n, k, ws, w, h, li, rfl, hD, hB, hL, hw, hpl, hn, hin, hnot, tb, q⟩ := h
    obtain ⟨tM, gM⟩ := D.most
    refine ⟨_, (pss_cons (ps_asg (pe_partition (pe_mx0 (pv 1) L.cl TK (hr.mono (by decide))) pe_str) (pg_tup rfl (pgs_cons (pg_name (i := 3) sc_D13.nd rfl (Or.inl rfl)) (pgs_cons (pg_name (i := 4) sc_D13.nd rfl (Or.inl rfl)) (pgs_cons (pg_name (i := 5) sc_D13.nd rfl (Or.inl rfl)) pgs_nil)))))
      (pss_cons (ps_set (i := 6) sc_D13.nd rfl (Or.inl rfl) (pe_fx NI hr (pa_cons (pv 5) (pa_cons pe_int (pa_cons (pe_glob (v := .int 40) (by rfl) gM ⟨tM, rfl⟩) pa_nil)))))
      (pss_cons (ps_if (PW.pt (pw_or (pt_cmpR op_notIn_seq (pv 3) (pe_fld (pv 0) rfl) rfl) (pw_or (pt_cmpR op_in_seq (pv 3) (pv 2) rfl) (pw_or1 (PW.pt (pw_and (pt_cmpR op_ne (pv 4) pe_str (nomark _)) (pw_and1 (pt_cmpR op_isN (pv 6) pe_non (nomark _))))))))) (pss_one ps_never) pss_nil)
      (pss_one (ps_ret (pe_tup (pa_cons (pv 3) (pa_cons (pv 6) pa_nil)))))))), ?_⟩
    have big : ∀ {m : Nat}, m ≤ 1000 → m ≤ sizeLine := fun h => Nat.le_of_lt (lsz h)
    have lh := hn.len
    have hL1 := hL.next (k' := k + 1) (by have := (List.getElem?_eq_some_iff.mp hw).1; omega)
    have hD1 := hD.line (k' := k + 1) ne hL
    have npb : b ≠ p := fun z => by rw [z, hL.ob] at hB; cases hB
    have hB1 : (upd H p (lineI CL dx n wa (k + 1))) b = some (.tup (bs.map V.str)) := by rw [upd_ne npb]; exact hB
    have fresh : ∀ {u : Addr} {H' : Hp}, Gr T (upd H p (lineI CL dx n wa (k + 1))) H' → H' u = none → H u = none := fun {u H'} g hu => by
      have := g.stay u hu
      rw [upd_ne] at this
      · exact this
      · intro z
        rw [z, upd_same] at this
        cases this
    cases li with
    | some a =>
      obtain ⟨aw, rfl, hN, a40⟩ := hpl
      have la := hN.len'
      have part : Txt.partition (h ++ ":" ++ aw) ":" = (h, (":" : Str), aw) := partition_app tl_colon (hn.free (.inr (.inr rfl)))
      refine ⟨_, rfl, p, dx, _, rfl, hL.ob, (by kernel_rfl), p, dx, wa, n, k, ws, _, rfl, hL, hw, ⟨_, rfl⟩, _, ":", rfl, rfl, (by decide +kernel), big (by rw [app_len, app_len, colon_len]; omega), ?_⟩
      rw [part]
      refine fun t ht => ?_
      have g1 : Gr T (upd H p (lineI CL dx n wa (k + 1))) (upd (upd H p (lineI CL dx n wa (k + 1))) t (.tup [.str h, .str ":", .str aw])) := Gr.new ht
      refine ⟨t, _, rfl, SqT.of upd_same, rfl, _, _, rfl, _, _, rfl, _, _, rfl, rfl, ?_⟩
      refine ⟨_, rfl, aw, 0, 40, rfl, g1.tabs (hL.tabs tb), .inl ⟨a, hN, Nat.zero_le _, a40, fun H2 g2 => ?_⟩⟩
      have g3 := g1.trans g2
      have hD3 := hD1.ext g3.ext
      have hB3 := g3.ext _ _ hB1 (fun _ z => by cases z)
      refine ⟨_, rfl, _, rfl, A.d, CD, A.dx, _, .ref A.na, rfl, hD3.ob, D.cl, D.n, (by kernel_rfl), A.na, _, rfl, .inl (SqL.of hD3.nm), rfl, flat_strs _, _, rfl, ?_⟩
      rw [inV_str]
      refine if_f (by simp [hin]) ?_
      refine ⟨_, rfl, _, rfl, b, _, rfl, .inr (SqT.of hB3), rfl, flat_strs _, _, rfl, ?_⟩
      rw [inV_str]
      refine if_f (by simp [hnot]) ?_
      refine ⟨_, rfl, rfl, _, rfl, ?_⟩
      refine if_t (by rw [decide_eq_false (str_ne (show (":" : Str) ≠ ("" : Str) from by decide +kernel))]; rfl) ?_
      refine ⟨_, rfl, rfl, _, rfl, if_f (decide_eq_false (fun z => by cases z)) ?_⟩
      refine ⟨_, rfl, _, rfl, (by show 2 ≤ sizeLine; exact big (by decide)), fun u hu => ?_⟩
      exact q u _ (g3.trans (Gr.new hu)) upd_same (fresh g3 hu)
    | none =>
      have hpl : w = h := hpl
      subst hpl
      have part : Txt.partition w ":" = (w, Str.empty, Str.empty) := partition_none tl_colon (hn.free (.inr (.inr rfl)))
      refine ⟨_, rfl, p, dx, _, rfl, hL.ob, (by kernel_rfl), p, dx, wa, n, k, ws, _, rfl, hL, hw, ⟨_, rfl⟩, _, ":", rfl, rfl, (by decide +kernel), big (by omega), ?_⟩
      rw [part]
      refine fun t ht => ?_
      have g1 : Gr T (upd H p (lineI CL dx n wa (k + 1))) (upd (upd H p (lineI CL dx n wa (k + 1))) t (.tup [.str w, .str Str.empty, .str Str.empty])) := Gr.new ht
      refine ⟨t, _, rfl, SqT.of upd_same, rfl, _, _, rfl, _, _, rfl, _, _, rfl, rfl, ?_⟩
      refine ⟨_, rfl, Str.empty, 0, 40, rfl, g1.tabs (hL.tabs tb), .inr ⟨rfl, ?_⟩⟩
      have hD3 := hD1.ext g1.ext
      have hB3 := g1.ext _ _ hB1 (fun _ z => by cases z)
      refine ⟨_, rfl, _, rfl, A.d, CD, A.dx, _, .ref A.na, rfl, hD3.ob, D.cl, D.n, (by kernel_rfl), A.na, _, rfl, .inl (SqL.of hD3.nm), rfl, flat_strs _, _, rfl, ?_⟩
      rw [inV_str]
      refine if_f (by simp [hin]) ?_
      refine ⟨_, rfl, _, rfl, b, _, rfl, .inr (SqT.of hB3), rfl, flat_strs _, _, rfl, ?_⟩
      rw [inV_str]
      refine if_f (by simp [hnot]) ?_
      refine ⟨_, rfl, rfl, _, rfl, ?_⟩
      refine iteF (if_f (by simp) ?_)
      refine ⟨_, rfl, _, rfl, (by show 2 ≤ sizeLine; exact big (by decide)), fun u hu => ?_⟩
      exact q u _ (g1.trans (Gr.new hu)) upd_same (fresh g1 hu)
end
end Z
set_option Elab.async false
set_option linter.all false
set_option maxRecDepth 100000
set_option maxHeartbeats 4000000
namespace Z
open PySem L2 PyProof.Rows ZX GX TL
/-! rows of items -/
theorem Gr.upd2 {T : List Addr} {A B : Hp} {p : Addr} {o o1 : HO} (g : Gr T A B) (h : A p = some o1) (no : ∀ ps, o1 ≠ .tbl ps) : Gr T (L2.upd A p o) (L2.upd B p o) := by
  refine ⟨fun b u e n => ?_, fun P t => ?_, fun b e => ?_, fun P m qs e => ?_⟩
  · by_cases z : b = p
    · rw [z, upd_same] at e
      rw [z, upd_same]
      exact e
    · rw [upd_ne z] at e ⊢
      exact g.ext b u e n
  · obtain ⟨ps, e, q⟩ := t
    by_cases z : P = p
    · rw [z, upd_same] at e
      exact ⟨ps, by rw [z, upd_same]; exact e, q⟩
    · rw [upd_ne z] at e
      obtain ⟨ps', e', q'⟩ := g.tab P ⟨ps, e, q⟩
      exact ⟨ps', by rw [upd_ne z]; exact e', q'⟩
  · by_cases z : b = p
    · rw [z, upd_same] at e
      cases e
    · rw [upd_ne z] at e ⊢
      exact g.stay b e
  · by_cases z : P = p
    · rw [z, upd_same] at e
      rw [z, upd_same]
      exact e
    · rw [upd_ne z] at e ⊢
      exact g.keep P m qs e
/-- a line that was taken further, and what grew behind it -/
theorem Gr.line {T : List Addr} {H H1 H2 : Hp} {p dx wa : Addr} {CL : Addr} {n k k' : Nat} (g : Gr T (L2.upd H p (lineI CL dx n wa k)) H1) (g2 : Gr T (L2.upd H1 p (lineI CL dx n wa k')) H2) : Gr T (L2.upd H p (lineI CL dx n wa k')) H2 := by
  have := (g.upd2 (o := lineI CL dx n wa k') upd_same (fun _ z => by cases z)).trans g2
  rw [upd_twice] at this
  exact this
theorem PairV.put {H : Hp} {v : V} {q : Pr} {a : Addr} {o o' : HO} (ha : H a = some o) (no : ∀ xs, o ≠ .tup xs) (h : PairV H v q) : PairV (upd H a o') v q := by
  obtain ⟨t, e, h⟩ := h
  refine ⟨t, e, ?_⟩
  rw [upd_ne]
  · exact h
  · intro z
    rw [z, ha] at h
    exact no _ (Option.some.inj h)
/-- a if c else b, as a test -/
def tIfT (tc ta tb : TT) : TT := fun σ H Q => tc σ H fun c H1 => if c = true then ta σ H1 Q else tb σ H1 Q
theorem pt_ifT {X : Cx} {c a b : Expr} {pos : Pos} {tc ta tb : TT} (hc : L2.PT X c tc) (ha : L2.PT X a ta) (hb : L2.PT X b tb) : L2.PT X (.IfExp c a b pos) (tIfT tc ta tb) := by
  refine ⟨fun pins s σ H Q I h => ?_⟩
  refine isTrue_IfExp (thn (hc.run pins s σ H _ I h) fun k s1 ⟨H1, I1, q1⟩ => ?_)
  cases k with
  | true => exact ha.run pins s1 σ H1 Q I1 (by simpa using q1)
  | false => exact hb.run pins s1 σ H1 Q I1 (by simpa using q1)
def itemP (it : Item) : Pr := (it.1, .int (it.2 : Int))
def closeV : Option Str → V
  | none => .non
  | some c => .str c
def closeN : Option Str → Nat
  | none => 0
  | some _ => 1
def CloseAt (ws : List Str) (e : Nat) : Option Str → Prop
  | none => e = ws.length
  | some c => ws[e]? = some c ∧ 58 ∉ tl c
def spItems (CD CL : Addr) (T : List Addr) : Sp := fun vs H Q _ => ∃ (A : DA) (fv : V) (names bs : List Str) (p dx wa b : Addr) (n k : Nat) (ws : List Str) (z : Str) (its : List Item) (cl : Option Str), vs = [.ref A.d, .ref p, .ref b, closeV cl] ∧ DN CD H A fv names ∧ H b = some (.tup (bs.map V.str)) ∧ bs ≠ [] ∧ bs.length ≤ 10 ∧
  LineAt CL H p dx wa n ws k ∧ z ∈ zeros ∧ RowOk names bs its ∧ (∀ it ∈ its, NameW 11 it.1) ∧ (∀ j it, its[j]? = some it → ws[k + j]? = some (itemW z it)) ∧ CloseAt ws (k + its.length) cl ∧ Tabs T H ∧
  ∀ (v : V) (H' : Hp), Gr T (upd H p (lineI CL dx n wa (k + its.length + closeN cl))) H' → PairsV H' v (its.map itemP) → Q v H'
section
variable {P : Program} {w : World} {K : PySem.W.Frag} {mg : Str → Option Value} {base : Heap} {T : List Addr} {CD CM CL : Addr}
theorem colon_in (z : Str) (it : Item) : 58 ∈ tl (itemW z it) := by
  unfold itemW
  rw [tl_append, tl_append, tl_colon]
  simp
theorem ok_items {f : Addr} {fd : FuncData} (F : Fun K "taken_items" "Draft.taken_items" (s_Draft 11) f fd) (D : DraftC K mg CD) (L : LineC K CL) (ne : CD ≠ CL) (TK : Mx P w K mg base CL "take" 1 ["self"] (spTake CL)) (OV : Mx P w K mg base CL "is_over" 1 ["self"] (spOver CL)) (NX : Mx P w K mg base CL "is_next" 2 ["self", "word"] (spNext CL))
    (TI : Mx P w K mg base CD "taken_item" 3 ["self", "line", "barred"] (spItem CD CL T)) (NO : Fx P w K mg base "names_of" 3 ["row"] (spCol T fun q => .str q.1)) :
    FnOk P w K mg base CX0 4 f fd ["self", "line", "mended", "close"] (spItems CD CL T) := by
  refine F.ok sc_D11 (fun vs H Q E h => ?_) (fun cdv Ar outer s H vs Q E hr h => ?_)
  · obtain ⟨A, fv, names, bs, p, dx, wa, b, n, k, ws, z, its, cl, rfl, _⟩ := h
    rfl
  · obtain ⟨A, fv, names, bs, p, dx, wa, b, n, k, ws, z, its, cl, rfl, hD, hB, hb0, hb10, hL, hz, rok, hnm, hws, hcl, tb, q⟩ := h
    have hr1 : Room 1 _ := hr.mono (by decide)
    have hr2 : Room 2 _ := hr.mono (by decide)
    refine ⟨_, (pss_cons (ps_set (i := 4) sc_D11.nd rfl (Or.inl rfl) (pe_lst (pa_cons (pe_mx (pv 0) D.cl TI hr (pa_cons (pv 1) (pa_cons (pv 2) pa_nil))) pa_nil)))
      (C8.pss_cut (ps_while PassesOwn.never (pt_not (pt_ifT (pt_cmpR op_isN (pv 3) pe_non (nomark _)) (pt_val (pe_mx0 (pv 1) L.cl OV hr1)) (pt_val (pe_mx (pv 1) L.cl NX hr2 (pa_cons (pv 3) pa_nil)))))
        (pss_one (ps_expr (pe_bm PySem.F.plainAttrs_list PySem.F.slot_list_append PySem.F.type_list_append mt_append (pv 4) (pa_cons (pe_mx (pv 0) D.cl TI hr (pa_cons (pv 1) (pa_cons (pe_op op_catT (pv 2) (pe_fx NO hr (pa_cons (pv 4) pa_nil))) pa_nil))) pa_nil)))))
      (pss_cons (ps_if (pt_cmpR op_notN (pv 3) pe_non (nomark _)) (pss_one (ps_expr (pe_mx0 (pv 1) L.cl TK hr1))) pss_nil)
      (pss_one (ps_ret (pv 4)))))), ?_⟩
    have big : ∀ {m : Nat}, m ≤ 1000 → m ≤ sizeLine := fun h => Nat.le_of_lt (lsz h)
    have pos := rok.pos
    have few := rok.few
    have npb : b ≠ p := fun z => by rw [z, hL.ob] at hB; cases hB
    obtain ⟨it0, hit0⟩ : ∃ it0, its[0]? = some it0 := ⟨_, List.getElem?_eq_getElem (by omega)⟩
    have m0 := List.mem_of_getElem? hit0
    have w0 := hws 0 it0 hit0
    have am0 := rok.amt _ m0
    have su0 := rok.sub _ m0
    refine ⟨_, rfl, A.d, A.dx, _, rfl, hD.ob, (by kernel_rfl), _, rfl, _, rfl, A, fv, names, bs, p, dx, wa, b, n, k, it0.2, ws, it0.1, zf z it0.2, rfl, hD, hB, hL, w0, hnm _ m0, zf_W hz am0.2, am0.1, am0.2, su0.1, su0.2, tb, fun t0 H1 g1 et0 ht0 => ?_⟩
    refine ⟨(by show 1 ≤ sizeLine; exact big (by decide)), fun ra hra => ?_⟩
    have ra0 : upd H p (lineI CL dx n wa (k + 1)) ra = none := g1.stay ra hra
    have nrp : ra ≠ p := fun z => by rw [z, upd_same] at ra0; cases ra0
    have raH : H ra = none := by rw [upd_ne nrp] at ra0; exact ra0
    have ra1 : ∀ {j : Nat}, upd H p (lineI CL dx n wa j) ra = none := fun {j} => by rw [upd_ne nrp]; exact raH
    have n0r : t0 ≠ ra := fun z => by rw [z, hra] at et0; cases et0
    have kws : k + its.length ≤ ws.length := by
      obtain ⟨itl, hitl⟩ : ∃ itl, its[its.length - 1]? = some itl := ⟨_, List.getElem?_eq_getElem (by omega)⟩
      have := (List.getElem?_eq_some_iff.mp (hws _ itl hitl)).1
      omega
    have g1' : Gr T (upd H p (lineI CL dx n wa (k + 1))) (upd H1 ra (.lst [.ref t0])) := g1.trans (Gr.new hra)
    refine ⟨fun σ' H' => ∃ vs : List V, σ' = [some (.ref A.d), some (.ref p), some (.ref b), some (closeV cl), some (.ref ra)] ∧ Gr T (upd H p (lineI CL dx n wa (k + its.length))) H' ∧ H' ra = some (.lst vs) ∧ All2 (PairV H') vs (its.map itemP), ?_, ?_⟩
    · refine ⟨fun m σ' H' => ∃ (i : Nat) (vs : List V), m + i = its.length ∧ 1 ≤ i ∧ i ≤ its.length ∧ σ' = [some (.ref A.d), some (.ref p), some (.ref b), some (closeV cl), some (.ref ra)] ∧ Gr T (upd H p (lineI CL dx n wa (k + i))) H' ∧ H' ra = some (.lst vs) ∧ All2 (PairV H') vs ((its.take i).map itemP),
        ⟨its.length - 1, 1, [.ref t0], by omega, Nat.le_refl _, pos, rfl, g1', upd_same, ?_⟩, ?_⟩
      · have : its.take 1 = [it0] := by
          have := take_snoc hit0
          rw [List.take_zero, List.nil_append] at this
          exact this
        rw [this]
        exact .cons ⟨t0, rfl, by rw [upd_ne n0r]; exact et0⟩ .nil
      · rintro m σ' H' ⟨i, vs, hm, i1, il, rfl, g, er, hA⟩
        have hLi := hL.next (k' := k + i) (by omega)
        have hL' : LineAt CL H' p dx wa n ws (k + i) := hLi.ext g.ext
        -- does it go on
        have lvs := hA.length
        rw [List.length_map, List.length_take] at lvs
        cases cl with
        | none =>
          have hcl : k + its.length = ws.length := hcl
          refine ⟨_, rfl, rfl, _, rfl, if_t (decide_eq_true rfl) ?_⟩
          refine ⟨_, rfl, p, dx, _, rfl, hL'.ob, (by kernel_rfl), p, dx, wa, n, k + i, ws, rfl, hL', fun bb hbb => ⟨bb, rfl, ?_⟩⟩
          cases bb with
          | true =>
            refine iteF ?_
            have : i = its.length := by have := hbb.mp rfl; omega
            subst this
            exact ⟨vs, rfl, g, er, by rw [List.take_length] at hA; exact hA⟩
          | false =>
            refine iteT ⟨fun σ0 H0 => ∃ m', m' < m ∧ ∃ (i : Nat) (vs : List V), m' + i = its.length ∧ 1 ≤ i ∧ i ≤ its.length ∧ σ0 = [some (.ref A.d), some (.ref p), some (.ref b), some V.non, some (.ref ra)] ∧ Gr T (upd H p (lineI CL dx n wa (k + i))) H0 ∧ H0 ra = some (.lst vs) ∧ All2 (PairV H0) vs ((its.take i).map itemP), fun _ _ h => h, ?_⟩
            have hlt : i < its.length := by
              rcases Nat.lt_or_ge i its.length with z | z
              · exact z
              · have := hbb.mpr (by omega)
                cases this
            obtain ⟨it, hit⟩ : ∃ it, its[i]? = some it := ⟨_, List.getElem?_eq_getElem hlt⟩
            have mi := List.mem_of_getElem? hit
            have wi := hws i it hit
            have ami := rok.amt _ mi
            have sui := rok.sub _ mi
            have hD' : DN CD H' A fv names := (hD.line (k' := k + i) ne hL).ext g.ext
            have hB' : H' b = some (.tup (bs.map V.str)) := g.ext _ _ (by rw [upd_ne npb]; exact hB) (fun _ z => by cases z)
            have tb' := g.tabs (hL.tabs (k' := k + i) tb)
            refine ⟨_, rfl, .inl ⟨rfl, _, SqL.of er⟩, _, rfl, A.d, A.dx, _, rfl, hD'.ob, (by kernel_rfl), _, rfl, _, rfl, _, rfl, .ref ra, (its.take i).map itemP, rfl, ⟨ra, vs, rfl, er, hA⟩, (by rw [List.length_map, List.length_take]; omega), tb', fun t H2 g2 ht et => ?_⟩
            have ys : ((its.take i).map itemP).map (fun q : Pr => V.str q.1) = ((its.take i).map (·.1)).map V.str := by rw [List.map_map, List.map_map]; rfl
            rw [ys] at et
            refine ⟨b, t, _, _, rfl, rfl, SqT.of (g2.ext _ _ hB' (fun _ z => by cases z)), SqT.of et, (fun z => hb0 (List.map_eq_nil_iff.mp z)), (by rw [List.length_map, List.length_map, List.length_map, List.length_take]; exact big (by omega)), (fun z => ?_), fun _ c2 hc2 => ?_⟩
            · exfalso
              have := congrArg List.length z
              rw [List.length_map, List.length_map, List.length_take] at this
              have this : min i its.length = 0 := this
              omega
            have g3 : Gr T H' (upd H2 c2 (.tup (bs.map V.str ++ ((its.take i).map (·.1)).map V.str))) := g2.trans (Gr.new hc2)
            have e3 : (upd H2 c2 (.tup (bs.map V.str ++ ((its.take i).map (·.1)).map V.str))) c2 = some (.tup ((bs ++ (its.take i).map (·.1)).map V.str)) := by rw [upd_same, List.map_append]
            generalize upd H2 c2 (.tup (bs.map V.str ++ ((its.take i).map (·.1)).map V.str)) = H3 at g3 e3 ⊢
            have hL3 := hL'.ext g3.ext
            have er3 := g3.ext _ _ er (fun _ z => by cases z)
            refine ⟨A, fv, names, bs ++ (its.take i).map (·.1), p, dx, wa, c2, n, k + i, it.2, ws, it.1, zf z it.2, rfl, hD'.ext g3.ext, e3, hL3, wi, hnm _ mi, zf_W hz ami.2, ami.1, ami.2, sui.1, (fun hm => ?_), g3.tabs tb', fun t2 H4 g4 et2 ht2 => ?_⟩
            · rcases List.mem_append.mp hm with hm | hm
              · exact sui.2 hm
              · obtain ⟨it', hit', e⟩ := List.mem_map.mp hm
                obtain ⟨j, hj, ej⟩ := List.getElem_of_mem hit'
                rw [List.length_take] at hj
                rw [List.getElem_take] at ej
                have nd := rok.nd
                have := (List.getElem_inj (xs := its.map (·.1)) (h₀ := by rw [List.length_map]; omega) (h₁ := by rw [List.length_map]; exact hlt) nd (i := j) (j := i)).mp (by
                  rw [List.getElem_map, List.getElem_map, ej, e]
                  rw [List.getElem?_eq_getElem hlt] at hit
                  rw [Option.some.inj hit])
                omega
            have g5 := (g.trans g3).line g4
            have nr4 : ra ≠ p := nrp
            have er4 : H4 ra = some (.lst vs) := g4.ext _ _ (by rw [upd_ne nrp]; exact er3) (fun _ z => by cases z)
            have nt2 : t2 ≠ ra := fun z => by rw [z, er4] at et2; cases et2
            refine ⟨ra, vs, _, rfl, rfl, er4, lsz (by omega), m - 1, by omega, i + 1, vs ++ [.ref t2], by omega, by omega, by omega, rfl, g5.upd ra1, upd_same, ?_⟩
            rw [take_map hit]
            refine All2.snoc (hA.mono fun _ _ h => ?_) ⟨t2, rfl, by rw [upd_ne nt2]; exact et2⟩
            exact (((h.ext g3.ext).put hL3.ob (fun _ z => by cases z)).ext g4.ext).put er4 (fun _ z => by cases z)
        | some c =>
          have hcl : ws[k + its.length]? = some c ∧ 58 ∉ tl c := hcl
          refine ⟨_, rfl, rfl, _, rfl, if_f (decide_eq_false (fun z => by cases z)) ?_⟩
          refine ⟨_, rfl, p, dx, _, rfl, hL'.ob, (by kernel_rfl), _, rfl, p, dx, wa, n, k + i, ws, c, rfl, hL', fun bb hbb => ⟨bb, rfl, ?_⟩⟩
          cases bb with
          | true =>
            refine iteF ?_
            have : i = its.length := by
              rcases Nat.lt_or_ge i its.length with z | z
              · exfalso
                have e1 := hws i _ (List.getElem?_eq_getElem z)
                rw [hbb.mp rfl] at e1
                refine hcl.2 ?_
                rw [Option.some.inj e1]
                exact colon_in _ _
              · omega
            subst this
            exact ⟨vs, rfl, g, er, by rw [List.take_length] at hA; exact hA⟩
          | false =>
            refine iteT ⟨fun σ0 H0 => ∃ m', m' < m ∧ ∃ (i : Nat) (vs : List V), m' + i = its.length ∧ 1 ≤ i ∧ i ≤ its.length ∧ σ0 = [some (.ref A.d), some (.ref p), some (.ref b), some (V.str c), some (.ref ra)] ∧ Gr T (upd H p (lineI CL dx n wa (k + i))) H0 ∧ H0 ra = some (.lst vs) ∧ All2 (PairV H0) vs ((its.take i).map itemP), fun _ _ h => h, ?_⟩
            have hlt : i < its.length := by
              rcases Nat.lt_or_ge i its.length with z | z
              · exact z
              · have e : i = its.length := by omega
                have := hbb.mpr (by rw [e]; exact hcl.1)
                cases this
            obtain ⟨it, hit⟩ : ∃ it, its[i]? = some it := ⟨_, List.getElem?_eq_getElem hlt⟩
            have mi := List.mem_of_getElem? hit
            have wi := hws i it hit
            have ami := rok.amt _ mi
            have sui := rok.sub _ mi
            have hD' : DN CD H' A fv names := (hD.line (k' := k + i) ne hL).ext g.ext
            have hB' : H' b = some (.tup (bs.map V.str)) := g.ext _ _ (by rw [upd_ne npb]; exact hB) (fun _ z => by cases z)
            have tb' := g.tabs (hL.tabs (k' := k + i) tb)
            refine ⟨_, rfl, .inl ⟨rfl, _, SqL.of er⟩, _, rfl, A.d, A.dx, _, rfl, hD'.ob, (by kernel_rfl), _, rfl, _, rfl, _, rfl, .ref ra, (its.take i).map itemP, rfl, ⟨ra, vs, rfl, er, hA⟩, (by rw [List.length_map, List.length_take]; omega), tb', fun t H2 g2 ht et => ?_⟩
            have ys : ((its.take i).map itemP).map (fun q : Pr => V.str q.1) = ((its.take i).map (·.1)).map V.str := by rw [List.map_map, List.map_map]; rfl
            rw [ys] at et
            refine ⟨b, t, _, _, rfl, rfl, SqT.of (g2.ext _ _ hB' (fun _ z => by cases z)), SqT.of et, (fun z => hb0 (List.map_eq_nil_iff.mp z)), (by rw [List.length_map, List.length_map, List.length_map, List.length_take]; exact big (by omega)), (fun z => ?_), fun _ c2 hc2 => ?_⟩
            · exfalso
              have := congrArg List.length z
              rw [List.length_map, List.length_map, List.length_take] at this
              have this : min i its.length = 0 := this
              omega
            have g3 : Gr T H' (upd H2 c2 (.tup (bs.map V.str ++ ((its.take i).map (·.1)).map V.str))) := g2.trans (Gr.new hc2)
            have e3 : (upd H2 c2 (.tup (bs.map V.str ++ ((its.take i).map (·.1)).map V.str))) c2 = some (.tup ((bs ++ (its.take i).map (·.1)).map V.str)) := by rw [upd_same, List.map_append]
            generalize upd H2 c2 (.tup (bs.map V.str ++ ((its.take i).map (·.1)).map V.str)) = H3 at g3 e3 ⊢
            have hL3 := hL'.ext g3.ext
            have er3 := g3.ext _ _ er (fun _ z => by cases z)
            refine ⟨A, fv, names, bs ++ (its.take i).map (·.1), p, dx, wa, c2, n, k + i, it.2, ws, it.1, zf z it.2, rfl, hD'.ext g3.ext, e3, hL3, wi, hnm _ mi, zf_W hz ami.2, ami.1, ami.2, sui.1, (fun hm => ?_), g3.tabs tb', fun t2 H4 g4 et2 ht2 => ?_⟩
            · rcases List.mem_append.mp hm with hm | hm
              · exact sui.2 hm
              · obtain ⟨it', hit', e⟩ := List.mem_map.mp hm
                obtain ⟨j, hj, ej⟩ := List.getElem_of_mem hit'
                rw [List.length_take] at hj
                rw [List.getElem_take] at ej
                have nd := rok.nd
                have := (List.getElem_inj (xs := its.map (·.1)) (h₀ := by rw [List.length_map]; omega) (h₁ := by rw [List.length_map]; exact hlt) nd (i := j) (j := i)).mp (by
                  rw [List.getElem_map, List.getElem_map, ej, e]
                  rw [List.getElem?_eq_getElem hlt] at hit
                  rw [Option.some.inj hit])
                omega
            have g5 := (g.trans g3).line g4
            have nr4 : ra ≠ p := nrp
            have er4 : H4 ra = some (.lst vs) := g4.ext _ _ (by rw [upd_ne nrp]; exact er3) (fun _ z => by cases z)
            have nt2 : t2 ≠ ra := fun z => by rw [z, er4] at et2; cases et2
            refine ⟨ra, vs, _, rfl, rfl, er4, lsz (by omega), m - 1, by omega, i + 1, vs ++ [.ref t2], by omega, by omega, by omega, rfl, g5.upd ra1, upd_same, ?_⟩
            rw [take_map hit]
            refine All2.snoc (hA.mono fun _ _ h => ?_) ⟨t2, rfl, by rw [upd_ne nt2]; exact et2⟩
            exact (((h.ext g3.ext).put hL3.ob (fun _ z => by cases z)).ext g4.ext).put er4 (fun _ z => by cases z)
    · rintro σ' H' ⟨vs, rfl, g, er, hA⟩
      cases cl with
      | none =>
        refine ⟨_, rfl, rfl, _, rfl, if_f (by rfl) ?_⟩
        exact ⟨_, rfl, q _ H' g ⟨ra, vs, rfl, er, hA⟩⟩
      | some c =>
        have hcl : ws[k + its.length]? = some c ∧ 58 ∉ tl c := hcl
        have hL' : LineAt CL H' p dx wa n ws (k + its.length) := (hL.next (k' := k + its.length) kws).ext g.ext
        refine ⟨_, rfl, rfl, _, rfl, if_t (by rfl) ?_⟩
        refine ⟨_, rfl, p, dx, _, rfl, hL'.ob, (by kernel_rfl), p, dx, wa, n, k + its.length, ws, c, rfl, hL', hcl.1, ?_⟩
        refine ⟨_, rfl, q _ _ (g.line (.refl T _)) ⟨ra, vs, rfl, by rw [upd_ne nrp]; exact er, hA.mono fun _ _ h => h.put hL'.ob (fun _ z => by cases z)⟩⟩
end
end Z
set_option Elab.async false
set_option linter.all false
set_option maxRecDepth 100000
set_option maxHeartbeats 4000000
namespace Z
open PySem L2 PyProof.Rows ZX GX TL
/-! what a draft holds -/
def Solid (CM : Addr) : HO → Prop
  | .tup _ => True
  | .ins C _ _ => C = CM
  | _ => False
def Kt (CM : Addr) (H H' : Hp) : Prop := ∀ b o, H b = some o → Solid CM o → H' b = some o
theorem Kt.trans {CM : Addr} {H H1 H2 : Hp} (a : Kt CM H H1) (b : Kt CM H1 H2) : Kt CM H H2 := fun c o e s => b c o (a c o e s) s
theorem Ext.kt {CM : Addr} {H H' : Hp} (x : Ext H H') : Kt CM H H' := fun b o e s => x b o e fun ps z => by rw [z] at s; exact s
theorem kt_put {CM : Addr} {H : Hp} {q : Addr} {o o' : HO} (hq : H q = some o) (no : ¬ Solid CM o) : Kt CM H (L2.upd H q o') := fun b u e s => by
  rw [upd_ne]
  · exact e
  · intro z
    rw [z, hq] at e
    rw [Option.some.inj e] at no
    exact no s
def StrT (H : Hp) (v : V) (ws : List Str) : Prop := ∃ a, v = .ref a ∧ H a = some (.tup (ws.map V.str))
def NumT (H : Hp) (v : V) (ns : List Nat) : Prop := ∃ a, v = .ref a ∧ H a = some (.tup (ns.map fun n : Nat => V.int (n : Int)))
theorem StrT.kt {CM : Addr} {H H' : Hp} {v : V} {ws : List Str} (x : Kt CM H H') (h : StrT H v ws) : StrT H' v ws := by
  obtain ⟨a, e, h⟩ := h
  exact ⟨a, e, x _ _ h True.intro⟩
theorem NumT.kt {CM : Addr} {H H' : Hp} {v : V} {ws : List Nat} (x : Kt CM H H') (h : NumT H v ws) : NumT H' v ws := by
  obtain ⟨a, e, h⟩ := h
  exact ⟨a, e, x _ _ h True.intro⟩
def HelpV (H : Hp) (v : V) (m : MendR) : Prop := match m.two with
  | none => StrT H v (m.row.map (·.1))
  | some t => ∃ a x y, v = .ref a ∧ H a = some (.tup [x, y]) ∧ StrT H x (m.row.map (·.1)) ∧ StrT H y (t.2.2.map (·.1))
def AmtV (H : Hp) (v : V) (m : MendR) : Prop := match m.two with
  | none => NumT H v (m.row.map (·.2))
  | some t => ∃ a x y, v = .ref a ∧ H a = some (.tup [x, y]) ∧ NumT H x (m.row.map (·.2)) ∧ NumT H y (t.2.2.map (·.2))
theorem HelpV.kt {CM : Addr} {H H' : Hp} {v : V} {m : MendR} (x : Kt CM H H') (h : HelpV H v m) : HelpV H' v m := by
  unfold HelpV at h ⊢
  split at h
  · rename_i e
    exact h.kt x
  · rename_i e
    obtain ⟨a, p, q, e1, e2, e3, e4⟩ := h
    exact ⟨a, p, q, e1, x _ _ e2 True.intro, e3.kt x, e4.kt x⟩
theorem AmtV.kt {CM : Addr} {H H' : Hp} {v : V} {m : MendR} (x : Kt CM H H') (h : AmtV H v m) : AmtV H' v m := by
  unfold AmtV at h ⊢
  split at h
  · rename_i e
    exact h.kt x
  · rename_i e
    obtain ⟨a, p, q, e1, e2, e3, e4⟩ := h
    exact ⟨a, p, q, e1, x _ _ e2 True.intro, e3.kt x, e4.kt x⟩
def MendO (CM : Addr) (H : Hp) (v : V) (m : MendR) : Prop := ∃ a dx nt ht av, v = .ref a ∧ H a = some (.ins CM dx (mendF (.str m.label) (.str m.kind) nt ht av m.swap)) ∧ StrT H nt m.nodes ∧ HelpV H ht m ∧ AmtV H av m
theorem MendO.kt {CM : Addr} {H H' : Hp} {v : V} {m : MendR} (x : Kt CM H H') (h : MendO CM H v m) : MendO CM H' v m := by
  obtain ⟨a, dx, nt, ht, av, e, e1, e2, e3, e4⟩ := h
  exact ⟨a, dx, nt, ht, av, e, x _ _ e1 rfl, e2.kt x, e3.kt x, e4.kt x⟩
theorem MendO.label {CM : Addr} {H : Hp} {v : V} {m : MendR} (h : MendO CM H v m) : LabelV CM H v m.label := by
  obtain ⟨a, dx, nt, ht, av, e, e1, _⟩ := h
  exact ⟨a, dx, _, e, e1, by kernel_rfl⟩
def PlT (H : Hp) (v : V) (r : List Place) : Prop := ∃ a xs, v = .ref a ∧ H a = some (.tup xs) ∧ All2 (PlaceV H) xs r
theorem PlaceV.kt {CM : Addr} {H H' : Hp} {v : V} {it : Place} (x : Kt CM H H') (h : PlaceV H v it) : PlaceV H' v it := by
  obtain ⟨a, e, h⟩ := h
  exact ⟨a, e, x _ _ h True.intro⟩
theorem PlT.kt {CM : Addr} {H H' : Hp} {v : V} {r : List Place} (x : Kt CM H H') (h : PlT H v r) : PlT H' v r := by
  obtain ⟨a, xs, e, e1, e2⟩ := h
  exact ⟨a, xs, e, x _ _ e1 True.intro, e2.mono fun _ _ => PlaceV.kt x⟩
structure DraftAt (CD CM : Addr) (H : Hp) (A : DA) (fv : V) (xs : List NodeR) (ms : List MendR) (rs : List (List Place)) : Prop where
  dn : DN CD H A fv (namesOf xs)
  rm : H A.ra = some (.lst (xs.map fun x => V.int (x.room : Int)))
  nw : H A.wa = some (.lst ((newsOf xs).map V.str))
  md : ∃ mvs, H A.ma = some (.lst mvs) ∧ All2 (MendO CM H) mvs ms
  rd : ∃ qvs, H A.qa = some (.lst qvs) ∧ All2 (PlT H) qvs rs
/-- five lists, each at its own place -/
structure DA.Ok (A : DA) : Prop where
  nr : A.na ≠ A.ra
  nw : A.na ≠ A.wa
  nm : A.na ≠ A.ma
  nq : A.na ≠ A.qa
  rw' : A.ra ≠ A.wa
  rm : A.ra ≠ A.ma
  rq : A.ra ≠ A.qa
  wm : A.wa ≠ A.ma
  wq : A.wa ≠ A.qa
  mq : A.ma ≠ A.qa
theorem DraftAt.ext {CD CM : Addr} {H H' : Hp} {A : DA} {fv : V} {xs : List NodeR} {ms : List MendR} {rs : List (List Place)} (x : Ext H H') (h : DraftAt CD CM H A fv xs ms rs) : DraftAt CD CM H' A fv xs ms rs := by
  obtain ⟨mvs, m1, m2⟩ := h.md
  obtain ⟨qvs, q1, q2⟩ := h.rd
  exact ⟨h.dn.ext x, x _ _ h.rm (fun _ z => by cases z), x _ _ h.nw (fun _ z => by cases z), ⟨mvs, x _ _ m1 (fun _ z => by cases z), m2.mono fun _ _ => MendO.kt x.kt⟩, ⟨qvs, x _ _ q1 (fun _ z => by cases z), q2.mono fun _ _ => PlT.kt (CM := CM) x.kt⟩⟩
theorem DraftAt.line {CD CM CL : Addr} {H : Hp} {A : DA} {fv : V} {xs : List NodeR} {ms : List MendR} {rs : List (List Place)} {p dx wa : Addr} {n k k' : Nat} {ws : List Str} (ne : CD ≠ CL) (nm : CM ≠ CL) (h : DraftAt CD CM H A fv xs ms rs) (L : LineAt CL H p dx wa n ws k) : DraftAt CD CM (upd H p (lineI CL dx n wa k')) A fv xs ms rs := by
  have kt : Kt CM H (upd H p (lineI CL dx n wa k')) := kt_put L.ob (fun z => nm (show CL = CM from z).symm)
  have at_ : ∀ {b : Addr} {xs : List V}, H b = some (.lst xs) → (upd H p (lineI CL dx n wa k')) b = some (.lst xs) := fun {b xs} e => by
    rw [upd_ne]
    · exact e
    · intro z
      rw [z, L.ob] at e
      cases e
  obtain ⟨mvs, m1, m2⟩ := h.md
  obtain ⟨qvs, q1, q2⟩ := h.rd
  exact ⟨h.dn.line ne L, at_ h.rm, at_ h.nw, ⟨mvs, at_ m1, m2.mono fun _ _ => MendO.kt kt⟩, ⟨qvs, at_ q1, q2.mono fun _ _ => PlT.kt kt⟩⟩
/-- all stands but what S names -/
structure GP (T : List Addr) (S : List Addr) (H H' : Hp) : Prop where
  ext : ∀ b o, b ∉ S → H b = some o → (∀ ps, o ≠ .tbl ps) → H' b = some o
  tab : ∀ P, GxR.TabG H P → GxR.TabG H' P
  stay : ∀ b, H' b = none → H b = none
  keep : ∀ P, P ∉ T → ∀ ps, H P = some (.tbl ps) → H' P = some (.tbl ps)
theorem GP.of {T S : List Addr} {H H' : Hp} (g : Gr T H H') : GP T S H H' := ⟨fun b o _ e n => g.ext b o e n, g.tab, g.stay, g.keep⟩
theorem GP.trans {T S : List Addr} {H H1 H2 : Hp} (a : GP T S H H1) (b : GP T S H1 H2) : GP T S H H2 := ⟨fun c o h e n => b.ext c o h (a.ext c o h e n) n, fun P h => b.tab P (a.tab P h), fun c h => a.stay c (b.stay c h), fun P n ps h => b.keep P n ps (a.keep P n ps h)⟩
theorem GP.put {T S : List Addr} {H H' : Hp} {q : Addr} {o o' : HO} (g : GP T S H H') (hq : q ∈ S) (e : H' q = some o) (no : ∀ ps, o ≠ .tbl ps) : GP T S H (L2.upd H' q o') := by
  refine ⟨fun b u hb e1 n => ?_, fun P t => ?_, fun b h => ?_, fun P n qs h => ?_⟩
  · rw [upd_ne (fun z => hb (by rw [z]; exact hq))]
    exact g.ext b u hb e1 n
  · obtain ⟨ps, e1, t1⟩ := g.tab P t
    refine ⟨ps, ?_, t1⟩
    rw [upd_ne]
    · exact e1
    · intro z
      rw [z, e] at e1
      exact no _ (Option.some.inj e1)
  · by_cases z : b = q
    · rw [z, upd_same] at h
      cases h
    · rw [upd_ne z] at h
      exact g.stay b h
  · have e1 := g.keep P n qs h
    rw [upd_ne]
    · exact e1
    · intro z
      rw [z, e] at e1
      exact no _ (Option.some.inj e1)
theorem GP.line {T S : List Addr} {H H1 H2 : Hp} {CL p dx wa : Addr} {n k k' : Nat} {ws : List Str} (g : GP T S H H1) (hp : p ∈ S) (L : LineAt CL H1 p dx wa n ws k) (g2 : Gr T (L2.upd H1 p (lineI CL dx n wa k')) H2) : GP T S H H2 :=
  (g.put hp L.ob (fun _ z => by cases z)).trans (.of g2)
theorem GP.drop {T S : List Addr} {H H' : Hp} {q : Addr} (g : GP T (q :: S) H H') (h : H q = none) : GP T S H H' :=
  ⟨fun b o hb e n => g.ext b o (fun z => by
    rcases List.mem_cons.mp z with z | z
    · rw [z, h] at e
      cases e
    · exact hb z) e n, g.tab, g.stay, g.keep⟩
theorem GP.mono {T S S' : List Addr} {H H' : Hp} (g : GP T S H H') (s : ∀ b ∈ S, b ∈ S') : GP T S' H H' := ⟨fun b o hb e n => g.ext b o (fun z => hb (s b z)) e n, g.tab, g.stay, g.keep⟩
theorem GP.gr {T : List Addr} {H H' : Hp} (g : GP T [] H H') : Gr T H H' := ⟨fun b o e n => g.ext b o (List.not_mem_nil) e n, g.tab, g.stay, g.keep⟩
theorem GP.tabs {T S : List Addr} {H H' : Hp} (g : GP T S H H') (t : Tabs T H) : Tabs T H' := fun P hP => g.tab P (t P hP)
/-- what reading a line may change -/
def DA.all (A : DA) (p : Addr) : List Addr := [A.d, A.na, A.ra, A.wa, A.ma, A.qa, p]
theorem sc_D5 : FnScope ["self", "line", "is_new", "name", "room"] ["self", "line", "is_new"] (defScope (s_Draft 5)) := ⟨rfl, rfl, rfl, by decide +kernel, rfl, by decide +kernel, by decide +kernel⟩
theorem sc_D8 : FnScope ["self", "line", "row"] ["self", "line"] (defScope (s_Draft 8)) := ⟨rfl, rfl, rfl, by decide +kernel, rfl, by decide +kernel, by decide +kernel⟩
def spReadNode (CD CM CL : Addr) (T : List Addr) : Sp := fun vs H Q _ => ∃ (A : DA) (fv : V) (xs : List NodeR) (ms : List MendR) (rs : List (List Place)) (p dx wa : Addr) (n k : Nat) (ws : List Str) (rw' : Str) (x : NodeR), vs = [.ref A.d, .ref p, .bl x.isNew] ∧ DraftAt CD CM H A fv xs ms rs ∧ A.Ok ∧
  LineAt CL H p dx wa n ws k ∧ wa ∉ A.all p ∧ ws[k]? = some x.name ∧ ws[k + 1]? = some rw' ∧ NameW 11 x.name ∧ x.name ∉ namesOf xs ∧ NumW rw' x.room ∧ x.room ≤ 40 ∧ xs.length ≤ 10 ∧ Tabs T H ∧
  ∀ H', DraftAt CD CM H' A fv (xs ++ [x]) ms rs → LineAt CL H' p dx wa n ws (k + 2) → GP T (A.all p) H H' → Q .non H'
section
variable {P : Program} {w : World} {K : PySem.W.Frag} {mg : Str → Option Value} {base : Heap} {T : List Addr} {CD CM CL : Addr}
theorem ok_read_node {f : Addr} {fd : FuncData} (F : Fun K "read_node" "Draft.read_node" (s_Draft 5) f fd) (D : DraftC K mg CD) (L : LineC K CL) (ne : CD ≠ CL) (nm : CM ≠ CL) (ndm : CD ≠ CM) (TN : Mx P w K mg base CL "take_name" 3 ["self"] (spTakeName CL T)) (TU : Mx P w K mg base CL "take_number" 3 ["self", "least", "most"] (spTakeNum CL T)) :
    FnOk P w K mg base CX0 4 f fd ["self", "line", "is_new"] (spReadNode CD CM CL T) := by
  refine F.ok sc_D5 (fun vs H Q E h => ?_) (fun cdv Ar outer s H vs Q E hr h => ?_)
  · obtain ⟨A, fv, xs, ms, rs, p, dx, wa, n, k, ws, rw', x, rfl, _⟩ := h
    rfl
  · obtain ⟨A, fv, xs, ms, rs, p, dx, wa, n, k, ws, rw', x, rfl, hD, hA, hL, hwa, w1, w2, hn, hnot, hN, h40, l10, tb, q⟩ := h
    obtain ⟨tM, gM⟩ := D.most
    refine ⟨_, (pss_cons (ps_set (i := 3) sc_D5.nd rfl (Or.inl rfl) (pe_mx0 (pv 1) L.cl TN hr))
      (pss_cons (ps_if (pt_cmpR op_in_seq (pv 3) (pe_fld (pv 0) rfl) rfl) (pss_one ps_never) pss_nil)
      (pss_cons (ps_set (i := 4) sc_D5.nd rfl (Or.inl rfl) (pe_mx (pv 1) L.cl TU hr (pa_cons pe_int (pa_cons (pe_glob (v := .int 40) (by rfl) gM ⟨tM, rfl⟩) pa_nil))))
      (pss_cons (ps_expr (pe_bm PySem.F.plainAttrs_list PySem.F.slot_list_append PySem.F.type_list_append mt_append (pe_fld (pv 0) rfl) (pa_cons (pv 3) pa_nil)))
      (pss_cons (ps_expr (pe_bm PySem.F.plainAttrs_list PySem.F.slot_list_append PySem.F.type_list_append mt_append (pe_fld (pv 0) rfl) (pa_cons (pv 4) pa_nil)))
      (pss_one (ps_if (pt_val (pv 2)) (pss_one (ps_expr (pe_bm PySem.F.plainAttrs_list PySem.F.slot_list_append PySem.F.type_list_append mt_append (pe_fld (pv 0) rfl) (pa_cons (pv 3) pa_nil)))) pss_nil))))))), ?_⟩
    have few := hL.few
    have k1 : k + 1 ≤ ws.length := by have := (List.getElem?_eq_some_iff.mp w1).1; omega
    have k2 : k + 2 ≤ ws.length := by have := (List.getElem?_eq_some_iff.mp w2).1; omega
    have hp : p ∈ A.all p := by unfold DA.all; simp
    refine ⟨_, rfl, p, dx, _, rfl, hL.ob, (by kernel_rfl), p, dx, wa, n, k, ws, _, rfl, hL, w1, hn, tb, fun H1 g1 => ?_⟩
    have hD1 := (hD.line (k' := k + 1) ne nm hL).ext g1.ext
    have hL1 := (hL.next k1).ext g1.ext
    have gp1 : GP T (A.all p) H H1 := (GP.of (.refl T H)).line hp hL g1
    refine ⟨_, rfl, _, rfl, A.d, CD, A.dx, _, .ref A.na, rfl, hD1.dn.ob, D.cl, D.n, (by kernel_rfl), A.na, _, rfl, .inl (SqL.of hD1.dn.nm), rfl, flat_strs _, _, rfl, ?_⟩
    rw [inV_str]
    refine if_f (by simp [hnot]) ?_
    refine ⟨_, rfl, p, dx, _, rfl, hL1.ob, (by kernel_rfl), p, dx, wa, n, k + 1, 0, 40, x.room, ws, rw', rfl, hL1, w2, hN, Nat.zero_le _, h40, gp1.tabs tb, fun H2 g2 => ?_⟩
    have hD2 := (hD1.line (k' := k + 2) ne nm hL1).ext g2.ext
    have hL2 := (hL1.next k2).ext g2.ext
    have gp2 : GP T (A.all p) H H2 := gp1.line hp hL1 g2
    obtain ⟨mvs, m1, m2⟩ := hD2.md
    obtain ⟨qvs, q1, q2⟩ := hD2.rd
    have lnm : (namesOf xs).length = xs.length := by unfold namesOf; rw [List.length_map]
    have lnw : (newsOf xs).length ≤ xs.length := by unfold newsOf; rw [List.length_map]; exact List.length_filter_le ..
    have neD : ∀ {b : Addr} {ys : List V}, H2 b = some (.lst ys) → A.d ≠ b := fun {b ys} e z => by rw [← z, hD2.dn.ob] at e; cases e
    have neP : ∀ {b : Addr} {ys : List V}, H2 b = some (.lst ys) → p ≠ b := fun {b ys} e z => by rw [← z, hL2.ob] at e; cases e
    have hw5 : wa ≠ A.na ∧ wa ≠ A.ra ∧ wa ≠ A.wa := by
      unfold DA.all at hwa
      simp only [List.mem_cons, List.not_mem_nil, or_false, not_or] at hwa
      exact ⟨hwa.2.1, hwa.2.2.1, hwa.2.2.2.1⟩
    have in1 : A.na ∈ A.all p := by unfold DA.all; simp
    have in2 : A.ra ∈ A.all p := by unfold DA.all; simp
    have in3 : A.wa ∈ A.all p := by unfold DA.all; simp
    have dnn := neD hD2.dn.nm
    have dnr := neD hD2.rm
    have dnw := neD hD2.nw
    -- the name
    refine ⟨_, rfl, A.d, CD, A.dx, _, .ref A.na, rfl, hD2.dn.ob, D.cl, D.n, (by kernel_rfl), .inl ⟨rfl, _, SqL.of hD2.dn.nm⟩, _, rfl, A.na, _, _, rfl, rfl, hD2.dn.nm, (by rw [List.length_map, lnm]; exact lsz (by omega)), ?_⟩
    have ob3 : (upd H2 A.na (.lst ((namesOf xs).map V.str ++ [.str x.name]))) A.d = some (.ins CD A.dx (draftF A fv)) := by rw [upd_ne dnn]; exact hD2.dn.ob
    have rm3 : (upd H2 A.na (.lst ((namesOf xs).map V.str ++ [.str x.name]))) A.ra = some (.lst (xs.map fun x => V.int (x.room : Int))) := by rw [upd_ne hA.nr.symm]; exact hD2.rm
    refine ⟨_, rfl, A.d, CD, A.dx, _, .ref A.ra, rfl, ob3, D.cl, D.r, (by kernel_rfl), .inl ⟨rfl, _, SqL.of rm3⟩, _, rfl, A.ra, _, _, rfl, rfl, rm3, (by rw [List.length_map]; exact lsz (by omega)), ?_⟩
    have gp4 : GP T (A.all p) H (upd (upd H2 A.na (.lst ((namesOf xs).map V.str ++ [.str x.name]))) A.ra (.lst ((xs.map fun x => V.int (x.room : Int)) ++ [.int (x.room : Int)]))) := (gp2.put in1 hD2.dn.nm (fun _ z => by cases z)).put in2 rm3 (fun _ z => by cases z)
    have kt4 : Kt CM H2 (upd (upd H2 A.na (.lst ((namesOf xs).map V.str ++ [.str x.name]))) A.ra (.lst ((xs.map fun x => V.int (x.room : Int)) ++ [.int (x.room : Int)]))) := (kt_put hD2.dn.nm (fun z => z)).trans (kt_put rm3 (fun z => z))
    have nm4 : (upd (upd H2 A.na (.lst ((namesOf xs).map V.str ++ [.str x.name]))) A.ra (.lst ((xs.map fun x => V.int (x.room : Int)) ++ [.int (x.room : Int)]))) A.na = some (.lst ((namesOf (xs ++ [x])).map V.str)) := by
      rw [upd_ne hA.nr, upd_same]
      unfold namesOf
      rw [List.map_append, List.map_append]
      rfl
    have rm4 : (upd (upd H2 A.na (.lst ((namesOf xs).map V.str ++ [.str x.name]))) A.ra (.lst ((xs.map fun x => V.int (x.room : Int)) ++ [.int (x.room : Int)]))) A.ra = some (.lst ((xs ++ [x]).map fun x => V.int (x.room : Int))) := by
      rw [upd_same, List.map_append]
      rfl
    have ob4 : (upd (upd H2 A.na (.lst ((namesOf xs).map V.str ++ [.str x.name]))) A.ra (.lst ((xs.map fun x => V.int (x.room : Int)) ++ [.int (x.room : Int)]))) A.d = some (.ins CD A.dx (draftF A fv)) := by rw [upd_ne dnr]; exact ob3
    have nw4 : (upd (upd H2 A.na (.lst ((namesOf xs).map V.str ++ [.str x.name]))) A.ra (.lst ((xs.map fun x => V.int (x.room : Int)) ++ [.int (x.room : Int)]))) A.wa = some (.lst ((newsOf xs).map V.str)) := by rw [upd_ne hA.rw'.symm, upd_ne hA.nw.symm]; exact hD2.nw
    have md4 : (upd (upd H2 A.na (.lst ((namesOf xs).map V.str ++ [.str x.name]))) A.ra (.lst ((xs.map fun x => V.int (x.room : Int)) ++ [.int (x.room : Int)]))) A.ma = some (.lst mvs) := by rw [upd_ne hA.rm.symm, upd_ne hA.nm.symm]; exact m1
    have rd4 : (upd (upd H2 A.na (.lst ((namesOf xs).map V.str ++ [.str x.name]))) A.ra (.lst ((xs.map fun x => V.int (x.room : Int)) ++ [.int (x.room : Int)]))) A.qa = some (.lst qvs) := by rw [upd_ne hA.rq.symm, upd_ne hA.nq.symm]; exact q1
    have li4 : LineAt CL (upd (upd H2 A.na (.lst ((namesOf xs).map V.str ++ [.str x.name]))) A.ra (.lst ((xs.map fun x => V.int (x.room : Int)) ++ [.int (x.room : Int)]))) p dx wa n ws (k + 2) :=
      ⟨by rw [upd_ne (neP hD2.rm), upd_ne (neP hD2.dn.nm)]; exact hL2.ob, by rw [upd_ne hw5.2.1, upd_ne hw5.1]; exact hL2.wd, few, k2⟩
    generalize upd (upd H2 A.na (.lst ((namesOf xs).map V.str ++ [.str x.name]))) A.ra (.lst ((xs.map fun x => V.int (x.room : Int)) ++ [.int (x.room : Int)])) = H4 at gp4 kt4 nm4 rm4 ob4 nw4 md4 rd4 li4 ⊢
    refine ⟨_, rfl, _, rfl, ?_⟩
    have nws : newsOf (xs ++ [x]) = newsOf xs ++ (if x.isNew = true then [x.name] else []) := by
      unfold newsOf
      rw [List.filter_append, List.map_append]
      congr 1
      by_cases h : x.isNew = true
      · rw [if_pos h, List.filter_cons_of_pos h]
        rfl
      · rw [if_neg h, List.filter_cons_of_neg h]
        rfl
    refine ite2 (fun hx => ?_) (fun hx => ?_)
    · rw [if_pos hx] at nws
      refine ⟨_, rfl, A.d, CD, A.dx, _, .ref A.wa, rfl, ob4, D.cl, D.w, (by kernel_rfl), .inl ⟨rfl, _, SqL.of nw4⟩, _, rfl, A.wa, _, _, rfl, rfl, nw4, (by rw [List.length_map]; exact lsz (by omega)), ?_⟩
      have neP4 : p ≠ A.wa := fun z => by rw [← z, li4.ob] at nw4; cases nw4
      have kt5 := kt4.trans (kt_put (o' := .lst ((newsOf xs).map V.str ++ [.str x.name])) nw4 (fun z => z))
      refine q _ ⟨⟨by rw [upd_ne dnw]; exact ob4, by rw [upd_ne hA.nw]; exact nm4⟩, by rw [upd_ne hA.rw']; exact rm4, ?_, ⟨mvs, by rw [upd_ne hA.wm.symm]; exact md4, m2.mono fun _ _ => MendO.kt kt5⟩, ⟨qvs, by rw [upd_ne hA.wq.symm]; exact rd4, q2.mono fun _ _ => PlT.kt kt5⟩⟩ ⟨by rw [upd_ne neP4]; exact li4.ob, by rw [upd_ne hw5.2.2]; exact li4.wd, few, k2⟩ (gp4.put in3 nw4 (fun _ z => by cases z))
      rw [upd_same, nws, List.map_append]
      rfl
    · rw [if_neg hx, List.append_nil] at nws
      exact q _ ⟨⟨ob4, nm4⟩, rm4, by rw [nws]; exact nw4, ⟨mvs, md4, m2.mono fun _ _ => MendO.kt kt4⟩, ⟨qvs, rd4, q2.mono fun _ _ => PlT.kt kt4⟩⟩ li4 gp4
end
end Z
set_option Elab.async false
set_option linter.all false
set_option maxRecDepth 100000
set_option maxHeartbeats 4000000
namespace Z
open PySem L2 PyProof.Rows ZX GX TL
/-! readers and mends read -/
theorem sc_D6 : FnScope ["self", "line", "label", "node", "row"] ["self", "line"] (defScope (s_Draft 6)) := ⟨rfl, rfl, rfl, by decide +kernel, rfl, by decide +kernel, by decide +kernel⟩
theorem sc_D7 : FnScope ["self", "line", "label", "first", "nodes", "swap", "near", "far", "helpers", "amounts"] ["self", "line"] (defScope (s_Draft 7)) := ⟨rfl, rfl, rfl, by decide +kernel, rfl, by decide +kernel, by decide +kernel⟩
theorem DA.mem (A : DA) (p : Addr) : p ∈ A.all p ∧ A.ma ∈ A.all p ∧ A.qa ∈ A.all p := by unfold DA.all; simp
theorem DA.out {A : DA} {p b : Addr} (h : b ∉ A.all p) : b ≠ A.d ∧ b ≠ A.na ∧ b ≠ A.ra ∧ b ≠ A.wa ∧ b ≠ A.ma ∧ b ≠ A.qa ∧ b ≠ p := by
  unfold DA.all at h
  simp only [List.mem_cons, List.not_mem_nil, or_false, not_or] at h
  exact h
section
variable {CD CM CL : Addr} {T : List Addr} {H : Hp} {A : DA} {fv : V} {xs : List NodeR} {ms : List MendR} {rs : List (List Place)} {p dx wa : Addr} {n k : Nat} {ws : List Str}
theorem DraftAt.addR {qvs : List V} {v : V} {r : List Place} (ok : A.Ok) (h : DraftAt CD CM H A fv xs ms rs) (hq : H A.qa = some (.lst qvs)) (hA : All2 (PlT H) qvs rs) (hr : PlT H v r) (L : LineAt CL H p dx wa n ws k) (hwa : wa ∉ A.all p) :
    DraftAt CD CM (upd H A.qa (.lst (qvs ++ [v]))) A fv xs ms (rs ++ [r]) ∧ LineAt CL (upd H A.qa (.lst (qvs ++ [v]))) p dx wa n ws k := by
  have kt : Kt CM H (upd H A.qa (.lst (qvs ++ [v]))) := kt_put hq (fun z => z)
  obtain ⟨mvs, m1, m2⟩ := h.md
  have nd : A.d ≠ A.qa := fun z => by rw [← z, h.dn.ob] at hq; cases hq
  have np : p ≠ A.qa := fun z => by rw [← z, L.ob] at hq; cases hq
  exact ⟨⟨⟨by rw [upd_ne nd]; exact h.dn.ob, by rw [upd_ne ok.nq]; exact h.dn.nm⟩, by rw [upd_ne ok.rq]; exact h.rm, by rw [upd_ne ok.wq]; exact h.nw, ⟨mvs, by rw [upd_ne ok.mq]; exact m1, m2.mono fun _ _ => MendO.kt kt⟩, ⟨_, upd_same, (hA.mono fun _ _ => PlT.kt kt).snoc (hr.kt kt)⟩⟩,
    ⟨by rw [upd_ne np]; exact L.ob, by rw [upd_ne (A.out hwa).2.2.2.2.2.1]; exact L.wd, L.few, L.kle⟩⟩
theorem DraftAt.addM {mvs : List V} {v : V} {m : MendR} (ok : A.Ok) (h : DraftAt CD CM H A fv xs ms rs) (hq : H A.ma = some (.lst mvs)) (hA : All2 (MendO CM H) mvs ms) (hr : MendO CM H v m) (L : LineAt CL H p dx wa n ws k) (hwa : wa ∉ A.all p) :
    DraftAt CD CM (upd H A.ma (.lst (mvs ++ [v]))) A fv xs (ms ++ [m]) rs ∧ LineAt CL (upd H A.ma (.lst (mvs ++ [v]))) p dx wa n ws k := by
  have kt : Kt CM H (upd H A.ma (.lst (mvs ++ [v]))) := kt_put hq (fun z => z)
  obtain ⟨qvs, m1, m2⟩ := h.rd
  have nd : A.d ≠ A.ma := fun z => by rw [← z, h.dn.ob] at hq; cases hq
  have np : p ≠ A.ma := fun z => by rw [← z, L.ob] at hq; cases hq
  exact ⟨⟨⟨by rw [upd_ne nd]; exact h.dn.ob, by rw [upd_ne ok.nm]; exact h.dn.nm⟩, by rw [upd_ne ok.rm]; exact h.rm, by rw [upd_ne ok.wm]; exact h.nw, ⟨_, upd_same, (hA.mono fun _ _ => MendO.kt kt).snoc (hr.kt kt)⟩, ⟨qvs, by rw [upd_ne ok.mq.symm]; exact m1, m2.mono fun _ _ => PlT.kt kt⟩⟩,
    ⟨by rw [upd_ne np]; exact L.ob, by rw [upd_ne (A.out hwa).2.2.2.2.1]; exact L.wd, L.few, L.kle⟩⟩
end
def placeP (it : Place) : Pr := (it.1, limV it.2)
theorem placeT {z : Str} {it : Place} (hz : z ∈ zeros) (h : ∀ k, it.2 = some k → k ≤ 40) : PlaceT (placeW z it) it.1 it.2 := by
  obtain ⟨n, li⟩ := it
  cases li with
  | none => exact rfl
  | some k => exact ⟨zf z k, rfl, zf_W hz (h k rfl), h k rfl⟩
def spReadReader (CD CM CL : Addr) (T : List Addr) : Sp := fun vs H Q _ => ∃ (A : DA) (fv : V) (xs : List NodeR) (ms : List MendR) (rs : List (List Place)) (p dx wa : Addr) (n k : Nat) (ws : List Str) (z : Str) (r : List Place), vs = [.ref A.d, .ref p] ∧ DraftAt CD CM H A fv xs ms rs ∧ A.Ok ∧
  LineAt CL H p dx wa n ws k ∧ wa ∉ A.all p ∧ z ∈ zeros ∧ ReaderOk (namesOf xs) r ∧ r.length ≤ 20 ∧ (∀ it ∈ r, NameW 11 it.1) ∧ (∀ j it, r[j]? = some it → ws[k + j]? = some (placeW z it)) ∧ k + r.length = ws.length ∧ rs.length ≤ 100 ∧ Tabs T H ∧
  ∀ H', DraftAt CD CM H' A fv xs ms (rs ++ [r]) → LineAt CL H' p dx wa n ws ws.length → GP T (A.all p) H H' → Q .non H'
section
variable {P : Program} {w : World} {K : PySem.W.Frag} {mg : Str → Option Value} {base : Heap} {T : List Addr} {CD CM CL : Addr}
theorem ok_read_reader {f : Addr} {fd : FuncData} (F : Fun K "read_reader" "Draft.read_reader" (s_Draft 8) f fd) (D : DraftC K mg CD) (L : LineC K CL) (ne : CD ≠ CL) (nm : CM ≠ CL) (bt : mg "tuple" = none) (OV : Mx P w K mg base CL "is_over" 1 ["self"] (spOver CL)) (TP : Mx P w K mg base CD "taken_place" 3 ["self", "line", "barred"] (spPlace CD CL T)) (NO : Fx P w K mg base "names_of" 3 ["row"] (spCol T fun q => .str q.1)) :
    FnOk P w K mg base CX0 4 f fd ["self", "line"] (spReadReader CD CM CL T) := by
  refine F.ok sc_D8 (fun vs H Q E h => ?_) (fun cdv Ar outer s H vs Q E hr h => ?_)
  · obtain ⟨A, fv, xs, ms, rs, p, dx, wa, n, k, ws, z, r, rfl, _⟩ := h
    rfl
  · obtain ⟨A, fv, xs, ms, rs, p, dx, wa, n, k, ws, z, r, rfl, hD, hAo, hL, hwa, hz, rok, r20, hnm, hws, hend, l100, tb, q⟩ := h
    refine ⟨_, (pss_cons (ps_set (i := 2) sc_D8.nd rfl (Or.inl rfl) (pe_lst (pa_cons (pe_mx (pv 0) D.cl TP hr (pa_cons (pv 1) (pa_cons (pe_tup pa_nil) pa_nil))) pa_nil)))
      (C8.pss_cut (ps_while PassesOwn.never (pt_not (pt_val (pe_mx0 (pv 1) L.cl OV (hr.mono (by decide)))))
        (pss_one (ps_expr (pe_bm PySem.F.plainAttrs_list PySem.F.slot_list_append PySem.F.type_list_append mt_append (pv 2) (pa_cons (pe_mx (pv 0) D.cl TP hr (pa_cons (pv 1) (pa_cons (pe_fx NO hr (pa_cons (pv 2) pa_nil)) pa_nil))) pa_nil)))))
      (pss_one (ps_expr (pe_bm PySem.F.plainAttrs_list PySem.F.slot_list_append PySem.F.type_list_append mt_append (pe_fld (pv 0) rfl) (pa_cons (pe_callTy (call_tupK K) (by rfl) bt PySem.Pv.boot_tuple (pa_cons (pv 2) pa_nil)) pa_nil)))))), ?_⟩
    have big : ∀ {m : Nat}, m ≤ 1000 → m ≤ sizeLine := fun h => Nat.le_of_lt (lsz h)
    have pos := rok.pos
    obtain ⟨hp, hma, hqa⟩ := A.mem p
    obtain ⟨it0, hit0⟩ : ∃ it0, r[0]? = some it0 := ⟨_, List.getElem?_eq_getElem (by omega)⟩
    have m0 := List.mem_of_getElem? hit0
    refine ⟨_, rfl, A.d, A.dx, _, rfl, hD.dn.ob, (by kernel_rfl), _, rfl, (by show 0 ≤ sizeLine; exact Nat.zero_le _), fun b hb => ?_⟩
    have gb : Gr T H (upd H b (.tup [])) := Gr.new hb
    have hDb := hD.ext gb.ext
    have hLb := hL.ext gb.ext
    have gpb : GP T (A.all p) H (upd H b (.tup [])) := .of gb
    have eb : (upd H b (.tup [])) b = some (.tup (([] : List Str).map V.str)) := upd_same
    generalize upd H b (.tup []) = Hb at gb hDb hLb gpb eb ⊢
    refine ⟨A, fv, namesOf xs, [], p, dx, wa, b, n, k, ws, _, it0.1, it0.2, rfl, hDb.dn, eb, hLb, hws 0 it0 hit0, placeT hz (rok.lim _ m0), hnm _ m0, rok.sub _ m0, List.not_mem_nil, gb.tabs tb, fun t0 H1 g1 et0 ht0 => ?_⟩
    refine ⟨(by show 1 ≤ sizeLine; exact big (by decide)), fun ra hra => ?_⟩
    have ra0 : upd Hb p (lineI CL dx n wa (k + 1)) ra = none := g1.stay ra hra
    have nrp : ra ≠ p := fun z => by rw [z, upd_same] at ra0; cases ra0
    have raH : Hb ra = none := by rw [upd_ne nrp] at ra0; exact ra0
    have ra1 : ∀ {j : Nat}, upd Hb p (lineI CL dx n wa j) ra = none := fun {j} => by rw [upd_ne nrp]; exact raH
    have n0r : t0 ≠ ra := fun z => by rw [z, hra] at et0; cases et0
    have g1' : Gr T (upd Hb p (lineI CL dx n wa (k + 1))) (upd H1 ra (.lst [.ref t0])) := g1.trans (Gr.new hra)
    refine ⟨fun σ' H' => ∃ vs : List V, σ' = [some (.ref A.d), some (.ref p), some (.ref ra)] ∧ Gr T (upd Hb p (lineI CL dx n wa ws.length)) H' ∧ H' ra = some (.lst vs) ∧ All2 (PairV H') vs (r.map placeP), ?_, ?_⟩
    · refine ⟨fun m σ' H' => ∃ (i : Nat) (vs : List V), m + i = r.length ∧ 1 ≤ i ∧ i ≤ r.length ∧ σ' = [some (.ref A.d), some (.ref p), some (.ref ra)] ∧ Gr T (upd Hb p (lineI CL dx n wa (k + i))) H' ∧ H' ra = some (.lst vs) ∧ All2 (PairV H') vs ((r.take i).map placeP),
        ⟨r.length - 1, 1, [.ref t0], by omega, Nat.le_refl _, pos, rfl, g1', upd_same, ?_⟩, ?_⟩
      · have : r.take 1 = [it0] := by
          have := take_snoc hit0
          rw [List.take_zero, List.nil_append] at this
          exact this
        rw [this]
        exact .cons ⟨t0, rfl, by rw [upd_ne n0r]; exact et0⟩ .nil
      · rintro m σ' H' ⟨i, vs, hm, i1, il, rfl, g, er, hA⟩
        have hLi := hLb.next (k' := k + i) (by omega)
        have hL' : LineAt CL H' p dx wa n ws (k + i) := hLi.ext g.ext
        have lvs := hA.length
        rw [List.length_map, List.length_take] at lvs
        refine ⟨_, rfl, p, dx, _, rfl, hL'.ob, (by kernel_rfl), p, dx, wa, n, k + i, ws, rfl, hL', fun bb hbb => ⟨bb, rfl, ?_⟩⟩
        cases bb with
        | true =>
          refine iteF ?_
          have := hbb.mp rfl
          have e : i = r.length := by omega
          subst e
          exact ⟨vs, rfl, by rw [← hend]; exact g, er, by rw [List.take_length] at hA; exact hA⟩
        | false =>
          refine iteT ⟨fun σ0 H0 => ∃ m', m' < m ∧ ∃ (i : Nat) (vs : List V), m' + i = r.length ∧ 1 ≤ i ∧ i ≤ r.length ∧ σ0 = [some (.ref A.d), some (.ref p), some (.ref ra)] ∧ Gr T (upd Hb p (lineI CL dx n wa (k + i))) H0 ∧ H0 ra = some (.lst vs) ∧ All2 (PairV H0) vs ((r.take i).map placeP), fun _ _ h => h, ?_⟩
          have hlt : i < r.length := by
            rcases Nat.lt_or_ge i r.length with z | z
            · exact z
            · have := hbb.mpr (by omega)
              cases this
          obtain ⟨it, hit⟩ : ∃ it, r[i]? = some it := ⟨_, List.getElem?_eq_getElem hlt⟩
          have mi := List.mem_of_getElem? hit
          have hD' : DraftAt CD CM H' A fv xs ms rs := (hDb.line (k' := k + i) ne nm hLb).ext g.ext
          have tb' := g.tabs (hLb.tabs (k' := k + i) (gb.tabs tb))
          refine ⟨_, rfl, .inl ⟨rfl, _, SqL.of er⟩, _, rfl, A.d, A.dx, _, rfl, hD'.dn.ob, (by kernel_rfl), _, rfl, _, rfl, .ref ra, (r.take i).map placeP, rfl, ⟨ra, vs, rfl, er, hA⟩, (by rw [List.length_map, List.length_take]; omega), tb', fun t H2 g2 ht et => ?_⟩
          have ys : ((r.take i).map placeP).map (fun q : Pr => V.str q.1) = ((r.take i).map (·.1)).map V.str := by rw [List.map_map, List.map_map]; rfl
          rw [ys] at et
          have hL3 := hL'.ext g2.ext
          have er3 := g2.ext _ _ er (fun _ z => by cases z)
          refine ⟨A, fv, namesOf xs, (r.take i).map (·.1), p, dx, wa, t, n, k + i, ws, _, it.1, it.2, rfl, (hD'.ext g2.ext).dn, et, hL3, hws i it hit, placeT hz (rok.lim _ mi), hnm _ mi, rok.sub _ mi, (fun hm => ?_), g2.tabs tb', fun t2 H4 g4 et2 ht2 => ?_⟩
          · obtain ⟨it', hit', e⟩ := List.mem_map.mp hm
            obtain ⟨j, hj, ej⟩ := List.getElem_of_mem hit'
            rw [List.length_take] at hj
            rw [List.getElem_take] at ej
            have nd := rok.nd
            have := (List.getElem_inj (xs := r.map (·.1)) (h₀ := by rw [List.length_map]; omega) (h₁ := by rw [List.length_map]; exact hlt) nd (i := j) (j := i)).mp (by
              rw [List.getElem_map, List.getElem_map, ej, e]
              rw [List.getElem?_eq_getElem hlt] at hit
              rw [Option.some.inj hit])
            omega
          have g5 := (g.trans g2).line g4
          have er4 : H4 ra = some (.lst vs) := g4.ext _ _ (by rw [upd_ne nrp]; exact er3) (fun _ z => by cases z)
          have nt2 : t2 ≠ ra := fun z => by rw [z, er4] at et2; cases et2
          refine ⟨ra, vs, _, rfl, rfl, er4, lsz (by omega), m - 1, by omega, i + 1, vs ++ [.ref t2], by omega, by omega, by omega, rfl, g5.upd ra1, upd_same, ?_⟩
          rw [take_map hit]
          refine All2.snoc (hA.mono fun _ _ h => ?_) ⟨t2, rfl, by rw [upd_ne nt2]; exact et2⟩
          exact (((h.ext g2.ext).put hL3.ob (fun _ z => by cases z)).ext g4.ext).put er4 (fun _ z => by cases z)
    · rintro σ' H' ⟨vs, rfl, g, er, hA⟩
      have lvs := hA.length
      rw [List.length_map] at lvs
      have hD' : DraftAt CD CM H' A fv xs ms rs := (hDb.line (k' := ws.length) ne nm hLb).ext g.ext
      have hL' : LineAt CL H' p dx wa n ws ws.length := (hLb.next (Nat.le_refl _)).ext g.ext
      have gp' : GP T (A.all p) H H' := gpb.line hp hLb g
      obtain ⟨qvs, q1, q2⟩ := hD'.rd
      have lq := q2.length
      refine ⟨_, rfl, A.d, CD, A.dx, _, .ref A.qa, rfl, hD'.dn.ob, D.cl, D.q, (by kernel_rfl), .inl ⟨rfl, _, SqL.of q1⟩, _, rfl, ra, vs, rfl, .inl ⟨SqL.of er, fun t ht => ?_⟩⟩
      have gt : Gr T H' (upd H' t (.tup vs)) := Gr.new ht
      have q1t := gt.ext _ _ q1 (fun _ z => by cases z)
      refine ⟨A.qa, qvs, _, rfl, rfl, q1t, lsz (by omega), ?_⟩
      have hDt := hD'.ext gt.ext
      have pl : PlT (upd H' t (.tup vs)) (.ref t) r := ⟨t, vs, rfl, upd_same, (hA.ofr).mono fun _ _ h => PlaceV.ext gt.ext h⟩
      obtain ⟨d1, d2⟩ := hDt.addR hAo q1t (q2.mono fun _ _ => PlT.kt (CM := CM) gt.ext.kt) pl (hL'.ext gt.ext) hwa
      exact q _ d1 d2 ((gp'.trans (.of gt)).put hqa q1t (fun _ z => by cases z))
end
end Z
set_option Elab.async false
set_option linter.all false
set_option maxRecDepth 100000
set_option maxHeartbeats 4000000
namespace Z
open PySem L2 PyProof.Rows ZX GX TL
/-! mends read -/
def spReadMend (CD CM CL : Addr) (T : List Addr) (pair : Bool) : Sp := fun vs H Q _ => ∃ (A : DA) (fv : V) (xs : List NodeR) (ms : List MendR) (rs : List (List Place)) (p dx wa : Addr) (n : Nat) (ws : List Str) (z : Str) (m : MendR), vs = [.ref A.d, .ref p] ∧ DraftAt CD CM H A fv xs ms rs ∧ A.Ok ∧
  LineAt CL H p dx wa n ws 1 ∧ wa ∉ A.all p ∧ z ∈ zeros ∧ ws = mendL z m ∧ m.two.isSome = pair ∧ MendOk (namesOf xs) m ∧ NameW 11 m.label ∧ m.label ∉ ms.map (·.label) ∧ (∀ x ∈ namesOf xs, NameW 11 x) ∧ ms.length ≤ 100 ∧ Tabs T H ∧
  ∀ H', DraftAt CD CM H' A fv xs (ms ++ [m]) rs → LineAt CL H' p dx wa n ws ws.length → GP T (A.all p) H H' → Q .non H'
theorem item_at {z : Str} {row : List Item} {pre suf : List Str} {k j : Nat} {it : Item} (hk : pre.length = k) (h : row[j]? = some it) : (pre ++ row.map (itemW z) ++ suf)[k + j]? = some (itemW z it) := by
  have hj : j < row.length := (List.getElem?_eq_some_iff.mp h).1
  rw [List.getElem?_append_left (by rw [List.length_append, List.length_map]; omega), List.getElem?_append_right (by omega), hk, Nat.add_sub_cancel_left, List.getElem?_map, h]
  rfl
section
variable {P : Program} {w : World} {K : PySem.W.Frag} {mg : Str → Option Value} {base : Heap} {T : List Addr} {CD CM CL : Addr}
theorem ok_read_mend {f : Addr} {fd : FuncData} (F : Fun K "read_mend" "Draft.read_mend" (s_Draft 6) f fd) (D : DraftC K mg CD) (L : LineC K CL) (ne : CD ≠ CL) (nm : CM ≠ CL)
    (TL : Mx P w K mg base CD "taken_label" 4 ["self", "line"] (spLabel CD CM CL T)) (TN : Mx P w K mg base CD "taken_node" 2 ["self", "line", "barred"] (spNode CD CL K)) (TH : Mx P w K mg base CL "take_this" 2 ["self", "word"] (spThis CL)) (TI : Mx P w K mg base CD "taken_items" 4 ["self", "line", "mended", "close"] (spItems CD CL T))
    (MK : MkX P w K mg base "Mend" CM 1 ["self", "label", "kind", "nodes", "helpers", "amounts", "swap"] (spMendInit CM)) (NO : Fx P w K mg base "names_of" 3 ["row"] (spCol T fun q => .str q.1)) (NU : Fx P w K mg base "numbers_of" 3 ["row"] (spCol T fun q => q.2)) :
    FnOk P w K mg base CX0 5 f fd ["self", "line"] (spReadMend CD CM CL T false) := by
  refine F.ok sc_D6 (fun vs H Q E h => ?_) (fun cdv Ar outer s H vs Q E hr h => ?_)
  · obtain ⟨A, fv, xs, ms, rs, p, dx, wa, n, ws, z, m, rfl, _⟩ := h
    rfl
  · obtain ⟨A, fv, xs, ms, rs, p, dx, wa, n, ws, z, m, rfl, hD, hAo, hL, hwa, hz, hws, h2, mok, hlb, hnl, hnm, l100, tb, q⟩ := h
    obtain ⟨label, node, row, two⟩ := m
    cases two with
    | some t => cases h2
    | none =>
    have hr3 : Room 3 _ := hr.mono (by decide)
    have hr2 : Room 2 _ := hr.mono (by decide)
    refine ⟨_, (pss_cons (ps_set (i := 2) sc_D6.nd rfl (Or.inl rfl) (pe_mx (pv 0) D.cl TL hr (pa_cons (pv 1) pa_nil)))
      (pss_cons (ps_set (i := 3) sc_D6.nd rfl (Or.inl rfl) (pe_mx (pv 0) D.cl TN hr2 (pa_cons (pv 1) (pa_cons (pe_tup pa_nil) pa_nil))))
      (pss_cons (ps_expr (pe_mx (pv 1) L.cl TH hr2 (pa_cons pe_str pa_nil)))
      (pss_cons (ps_set (i := 4) sc_D6.nd rfl (Or.inl rfl) (pe_mx (pv 0) D.cl TI hr (pa_cons (pv 1) (pa_cons (pe_tup (pa_cons (pv 3) pa_nil)) (pa_cons pe_non pa_nil)))))
      (pss_one (ps_expr (pe_bm PySem.F.plainAttrs_list PySem.F.slot_list_append PySem.F.type_list_append mt_append (pe_fld (pv 0) rfl) (pa_cons (pe_mkx MK hr2 (pa_cons (pv 2) (pa_cons pe_str (pa_cons (pe_tup (pa_cons (pv 3) pa_nil)) (pa_cons (pe_fx NO hr3 (pa_cons (pv 4) pa_nil)) (pa_cons (pe_fx NU hr3 (pa_cons (pv 4) pa_nil)) (pa_cons pe_non pa_nil))))))) pa_nil)))))))), ?_⟩
    have big : ∀ {m : Nat}, m ≤ 1000 → m ≤ sizeLine := fun h => Nat.le_of_lt (lsz h)
    obtain ⟨hp, hma, hqa⟩ := A.mem p
    have hws : ws = ([("mend" : Str), label, node, "from"] : List Str) ++ row.map (itemW z) := hws
    have rok : RowOk (namesOf xs) [node] row := mok.rows row (List.mem_cons_self ..)
    have hnode : node ∈ namesOf xs := mok.node
    have lws : ws.length = 4 + row.length := by rw [hws, List.length_append, List.length_map]; rfl
    have few := rok.few
    -- the label
    obtain ⟨mvs, m1, m2⟩ := hD.md
    refine ⟨_, rfl, A.d, A.dx, _, rfl, hD.dn.ob, (by kernel_rfl), _, rfl, A, fv, namesOf xs, ms.map (·.label), mvs, p, dx, wa, n, 1, ws, label, rfl, hD.dn, m1, m2.mapr (fun _ _ h => h.label), hL, by rw [hws]; rfl, hlb, hnl, tb, fun H1 g1 => ?_⟩
    have hD1 := (hD.line (k' := 2) ne nm hL).ext g1.ext
    have hL1 := (hL.next (k' := 2) (by omega)).ext g1.ext
    have gp1 : GP T (A.all p) H H1 := (GP.of (.refl T H)).line hp hL g1
    -- the node
    refine ⟨_, rfl, A.d, A.dx, _, rfl, hD1.dn.ob, (by kernel_rfl), _, rfl, (by show 0 ≤ sizeLine; exact Nat.zero_le _), fun b hb => ?_⟩
    have gb : Gr T H1 (upd H1 b (.tup [])) := Gr.new hb
    have hD2 := hD1.ext gb.ext
    have hL2 := hL1.ext gb.ext
    have gp2 := gp1.trans (.of gb)
    have eb : (upd H1 b (.tup [])) b = some (.tup (([] : List Str).map V.str)) := upd_same
    generalize upd H1 b (.tup []) = H2 at gb hD2 hL2 gp2 eb ⊢
    refine ⟨A, fv, namesOf xs, [], p, dx, wa, b, n, 2, ws, node, rfl, hD2.dn, SqT.of eb, hL2, by rw [hws]; rfl, hnode, List.not_mem_nil, ?_⟩
    have hD3 := hD2.line (k' := 3) ne nm hL2
    have hL3 := hL2.next (k' := 3) (by omega)
    have gp3 : GP T (A.all p) H (upd H2 p (lineI CL dx n wa 3)) := gp2.line hp hL2 (.refl T _)
    generalize upd H2 p (lineI CL dx n wa 3) = H3 at hD3 hL3 gp3 ⊢
    -- from
    refine ⟨_, rfl, p, dx, _, rfl, hL3.ob, (by kernel_rfl), p, dx, wa, n, 3, ws, "from", rfl, hL3, by rw [hws]; rfl, ?_⟩
    have hD4 := hD3.line (k' := 4) ne nm hL3
    have hL4 := hL3.next (k' := 4) (by omega)
    have gp4 : GP T (A.all p) H (upd H3 p (lineI CL dx n wa 4)) := gp3.line hp hL3 (.refl T _)
    generalize upd H3 p (lineI CL dx n wa 4) = H4 at hD4 hL4 gp4 ⊢
    -- the row
    refine ⟨_, rfl, A.d, A.dx, _, rfl, hD4.dn.ob, (by kernel_rfl), _, rfl, _, rfl, (by show 1 ≤ sizeLine; exact big (by decide)), fun b2 hb2 => ?_⟩
    have gb2 : Gr T H4 (upd H4 b2 (.tup [.str node])) := Gr.new hb2
    have hD5 := hD4.ext gb2.ext
    have hL5 := hL4.ext gb2.ext
    have gp5 := gp4.trans (.of gb2)
    have eb2 : (upd H4 b2 (.tup [.str node])) b2 = some (.tup (([node] : List Str).map V.str)) := upd_same
    generalize upd H4 b2 (.tup [.str node]) = H5 at gb2 hD5 hL5 gp5 eb2 ⊢
    refine ⟨A, fv, namesOf xs, [node], p, dx, wa, b2, n, 4, ws, z, row, none, rfl, hD5.dn, eb2, by simp, (by show 1 ≤ 10; decide), hL5, hz, rok, fun it hit => hnm _ (rok.sub it hit).1, fun j it hit => ?_, ?_, gp5.tabs tb, fun v H6 g6 hPs => ?_⟩
    · have := item_at (z := z) (pre := [("mend" : Str), label, node, "from"]) (suf := []) rfl hit
      rw [List.append_nil] at this
      rw [hws]
      exact this
    · show 4 + row.length = ws.length
      omega
    have hk6 : 4 + row.length + closeN none = ws.length := by show 4 + row.length + 0 = ws.length; omega
    rw [hk6] at g6
    have hD6 := (hD5.line (k' := ws.length) ne nm hL5).ext g6.ext
    have hL6 := (hL5.next (Nat.le_refl _)).ext g6.ext
    have gp6 : GP T (A.all p) H H6 := gp5.line hp hL5 g6
    -- the mend
    obtain ⟨mvs6, m16, m26⟩ := hD6.md
    have lm := m26.length
    refine ⟨_, rfl, A.d, CD, A.dx, _, .ref A.ma, rfl, hD6.dn.ob, D.cl, D.m, (by kernel_rfl), .inl ⟨rfl, _, SqL.of m16⟩, _, rfl, _, rfl, (by show 1 ≤ sizeLine; exact big (by decide)), fun t1 ht1 => ?_⟩
    have g7 : Gr T H6 (upd H6 t1 (.tup [.str node])) := Gr.new ht1
    have et1 : (upd H6 t1 (.tup [.str node])) t1 = some (.tup [.str node]) := upd_same
    generalize upd H6 t1 (.tup [.str node]) = H7 at g7 et1 ⊢
    refine ⟨_, rfl, v, row.map itemP, rfl, hPs.ext g7.ext, by rw [List.length_map]; omega, g7.tabs (gp6.tabs tb), fun t2 H8 g8 ht2 et2 => ?_⟩
    refine ⟨_, rfl, v, row.map itemP, rfl, hPs.ext (g7.trans g8).ext, by rw [List.length_map]; omega, (g7.trans g8).tabs (gp6.tabs tb), fun t3 H9 g9 ht3 et3 => ?_⟩
    refine fun x dx2 hx hdx nxd => ?_
    have g10 : Gr T H9 (upd (upd H9 dx2 (.own x)) x (.ins CM dx2 [])) := (Gr.new hdx).upd hx
    refine ⟨x, dx2, _, _, _, _, _, _, rfl, upd_same, rfl, ?_⟩
    rw [upd_twice]
    have g11 : Gr T H9 (upd (upd H9 dx2 (.own x)) x (.ins CM dx2 (mendF (.str label) (.str "one") (.ref t1) (.ref t2) (.ref t3) .non))) := (Gr.new hdx).upd hx
    have ex11 : (upd (upd H9 dx2 (.own x)) x (.ins CM dx2 (mendF (.str label) (.str "one") (.ref t1) (.ref t2) (.ref t3) .non))) x = some (.ins CM dx2 (mendF (.str label) (.str "one") (.ref t1) (.ref t2) (.ref t3) .non)) := upd_same
    generalize upd (upd H9 dx2 (.own x)) x (.ins CM dx2 (mendF (.str label) (.str "one") (.ref t1) (.ref t2) (.ref t3) .non)) = H11 at g11 ex11 ⊢
    have gA : Gr T H6 H11 := ((g7.trans g8).trans g9).trans g11
    have mo : MendO CM H11 (.ref x) ⟨label, node, row, none⟩ := by
      refine ⟨x, dx2, _, _, _, rfl, ex11, ⟨t1, rfl, ((g8.trans g9).trans g11).ext _ _ et1 (fun _ z => by cases z)⟩, ⟨t2, rfl, ?_⟩, ⟨t3, rfl, ?_⟩⟩
      · have := (g9.trans g11).ext _ _ et2 (fun _ z => by cases z)
        rw [this, List.map_map, List.map_map]
        rfl
      · have := g11.ext _ _ et3 (fun _ z => by cases z)
        rw [this, List.map_map, List.map_map]
        rfl
    have m1A := gA.ext _ _ m16 (fun _ z => by cases z)
    refine ⟨A.ma, mvs6, _, rfl, rfl, m1A, lsz (by omega), ?_⟩
    obtain ⟨d1, d2⟩ := (hD6.ext gA.ext).addM hAo m1A (m26.mono fun _ _ => MendO.kt gA.ext.kt) mo (hL6.ext gA.ext) hwa
    exact q _ d1 d2 ((gp6.trans (.of gA)).put hma m1A (fun _ z => by cases z))
theorem ok_read_pair {f : Addr} {fd : FuncData} (F : Fun K "read_pair" "Draft.read_pair" (s_Draft 7) f fd) (D : DraftC K mg CD) (L : LineC K CL) (ne : CD ≠ CL) (nm : CM ≠ CL)
    (TL : Mx P w K mg base CD "taken_label" 4 ["self", "line"] (spLabel CD CM CL T)) (TN : Mx P w K mg base CD "taken_node" 2 ["self", "line", "barred"] (spNode CD CL K)) (TH : Mx P w K mg base CL "take_this" 2 ["self", "word"] (spThis CL)) (TU : Mx P w K mg base CL "take_number" 3 ["self", "least", "most"] (spTakeNum CL T)) (TI : Mx P w K mg base CD "taken_items" 4 ["self", "line", "mended", "close"] (spItems CD CL T))
    (MK : MkX P w K mg base "Mend" CM 1 ["self", "label", "kind", "nodes", "helpers", "amounts", "swap"] (spMendInit CM)) (NO : Fx P w K mg base "names_of" 3 ["row"] (spCol T fun q => .str q.1)) (NU : Fx P w K mg base "numbers_of" 3 ["row"] (spCol T fun q => q.2)) :
    FnOk P w K mg base CX0 5 f fd ["self", "line"] (spReadMend CD CM CL T true) := by
  refine F.ok sc_D7 (fun vs H Q E h => ?_) (fun cdv Ar outer s H vs Q E hr h => ?_)
  · obtain ⟨A, fv, xs, ms, rs, p, dx, wa, n, ws, z, m, rfl, _⟩ := h
    rfl
  · obtain ⟨A, fv, xs, ms, rs, p, dx, wa, n, ws, z, m, rfl, hD, hAo, hL, hwa, hz, hws, h2, mok, hlb, hnl, hnm, l100, tb, q⟩ := h
    obtain ⟨label, node, row, two⟩ := m
    cases two with
    | none => cases h2
    | some t =>
    obtain ⟨oth, c, row2⟩ := t
    have hr3 : Room 3 _ := hr.mono (by decide)
    have hr2 : Room 2 _ := hr.mono (by decide)
    obtain ⟨tM, gM⟩ := D.most
    refine ⟨_, (pss_cons (ps_set (i := 2) sc_D7.nd rfl (Or.inl rfl) (pe_mx (pv 0) D.cl TL hr (pa_cons (pv 1) pa_nil)))
      (pss_cons (ps_set (i := 3) sc_D7.nd rfl (Or.inl rfl) (pe_mx (pv 0) D.cl TN hr2 (pa_cons (pv 1) (pa_cons (pe_tup pa_nil) pa_nil))))
      (pss_cons (ps_set (i := 4) sc_D7.nd rfl (Or.inl rfl) (pe_tup (pa_cons (pv 3) (pa_cons (pe_mx (pv 0) D.cl TN hr2 (pa_cons (pv 1) (pa_cons (pe_tup (pa_cons (pv 3) pa_nil)) pa_nil))) pa_nil))))
      (pss_cons (ps_expr (pe_mx (pv 1) L.cl TH hr2 (pa_cons pe_str pa_nil)))
      (pss_cons (ps_set (i := 5) sc_D7.nd rfl (Or.inl rfl) (pe_mx (pv 1) L.cl TU hr3 (pa_cons pe_int (pa_cons (pe_glob (v := .int 40) (by rfl) gM ⟨tM, rfl⟩) pa_nil))))
      (pss_cons (ps_expr (pe_mx (pv 1) L.cl TH hr2 (pa_cons pe_str pa_nil)))
      (pss_cons (ps_set (i := 6) sc_D7.nd rfl (Or.inl rfl) (pe_mx (pv 0) D.cl TI hr (pa_cons (pv 1) (pa_cons (pv 4) (pa_cons pe_str pa_nil)))))
      (pss_cons (ps_set (i := 7) sc_D7.nd rfl (Or.inl rfl) (pe_mx (pv 0) D.cl TI hr (pa_cons (pv 1) (pa_cons (pv 4) (pa_cons pe_non pa_nil)))))
      (pss_cons (ps_set (i := 8) sc_D7.nd rfl (Or.inl rfl) (pe_tup (pa_cons (pe_fx NO hr3 (pa_cons (pv 6) pa_nil)) (pa_cons (pe_fx NO hr3 (pa_cons (pv 7) pa_nil)) pa_nil))))
      (pss_cons (ps_set (i := 9) sc_D7.nd rfl (Or.inl rfl) (pe_tup (pa_cons (pe_fx NU hr3 (pa_cons (pv 6) pa_nil)) (pa_cons (pe_fx NU hr3 (pa_cons (pv 7) pa_nil)) pa_nil))))
      (pss_one (ps_expr (pe_bm PySem.F.plainAttrs_list PySem.F.slot_list_append PySem.F.type_list_append mt_append (pe_fld (pv 0) rfl) (pa_cons (pe_mkx MK hr2 (pa_cons (pv 2) (pa_cons pe_str (pa_cons (pv 4) (pa_cons (pv 8) (pa_cons (pv 9) (pa_cons (pv 5) pa_nil))))))) pa_nil)))))))))))))), ?_⟩
    have big : ∀ {m : Nat}, m ≤ 1000 → m ≤ sizeLine := fun h => Nat.le_of_lt (lsz h)
    obtain ⟨hp, hma, hqa⟩ := A.mem p
    have hws : ws = ([("pair" : Str), label, node, oth, "swap", zf z c, "from"] : List Str) ++ row.map (itemW z) ++ ([("and" : Str)] : List Str) ++ row2.map (itemW z) := hws
    have rok1 : RowOk (namesOf xs) [node, oth] row := mok.rows row (List.mem_cons_self ..)
    have rok2 : RowOk (namesOf xs) [node, oth] row2 := mok.rows row2 (List.mem_cons_of_mem _ (List.mem_cons_self ..))
    have hnode : node ∈ namesOf xs := mok.node
    have two := mok.two _ _ _ rfl
    have hone : oth ≠ node := two.2.1
    have lws : ws.length = 8 + row.length + row2.length := by
      rw [hws, List.length_append, List.length_append, List.length_append, List.length_map, List.length_map]
      show 7 + row.length + 1 + row2.length = _
      omega
    have few1 := rok1.few
    have few2 := rok2.few
    have wat : ∀ {j : Nat} {w : Str}, j < 7 → ([("pair" : Str), label, node, oth, "swap", zf z c, "from"] : List Str)[j]? = some w → ws[j]? = some w := fun {j w} hj e => by
      rw [hws, List.getElem?_append_left (by rw [List.length_append, List.length_append]; show j < 7 + _ + _; omega), List.getElem?_append_left (by rw [List.length_append]; show j < 7 + _; omega), List.getElem?_append_left (by show j < 7; exact hj)]
      exact e
    -- the label
    obtain ⟨mvs, m1, m2⟩ := hD.md
    refine ⟨_, rfl, A.d, A.dx, _, rfl, hD.dn.ob, (by kernel_rfl), _, rfl, A, fv, namesOf xs, ms.map (·.label), mvs, p, dx, wa, n, 1, ws, label, rfl, hD.dn, m1, m2.mapr (fun _ _ h => h.label), hL, wat (by decide) rfl, hlb, hnl, tb, fun H1 g1 => ?_⟩
    have hD1 := (hD.line (k' := 2) ne nm hL).ext g1.ext
    have hL1 := (hL.next (k' := 2) (by omega)).ext g1.ext
    have gp1 : GP T (A.all p) H H1 := (GP.of (.refl T H)).line hp hL g1
    -- the first node
    refine ⟨_, rfl, A.d, A.dx, _, rfl, hD1.dn.ob, (by kernel_rfl), _, rfl, (by show 0 ≤ sizeLine; exact Nat.zero_le _), fun b hb => ?_⟩
    have gb : Gr T H1 (upd H1 b (.tup [])) := Gr.new hb
    have hD2 := hD1.ext gb.ext
    have hL2 := hL1.ext gb.ext
    have gp2 := gp1.trans (.of gb)
    have eb : (upd H1 b (.tup [])) b = some (.tup (([] : List Str).map V.str)) := upd_same
    generalize upd H1 b (.tup []) = H2 at gb hD2 hL2 gp2 eb ⊢
    refine ⟨A, fv, namesOf xs, [], p, dx, wa, b, n, 2, ws, node, rfl, hD2.dn, SqT.of eb, hL2, wat (by decide) rfl, hnode, List.not_mem_nil, ?_⟩
    have hD3 := hD2.line (k' := 3) ne nm hL2
    have hL3 := hL2.next (k' := 3) (by omega)
    have gp3 : GP T (A.all p) H (upd H2 p (lineI CL dx n wa 3)) := gp2.line hp hL2 (.refl T _)
    generalize upd H2 p (lineI CL dx n wa 3) = H3 at hD3 hL3 gp3 ⊢
    -- both nodes
    refine ⟨_, rfl, _, rfl, A.d, A.dx, _, rfl, hD3.dn.ob, (by kernel_rfl), _, rfl, _, rfl, (by show 1 ≤ sizeLine; exact big (by decide)), fun b1 hb1 => ?_⟩
    have gb1 : Gr T H3 (upd H3 b1 (.tup [.str node])) := Gr.new hb1
    have hD4 := hD3.ext gb1.ext
    have hL4 := hL3.ext gb1.ext
    have gp4 := gp3.trans (.of gb1)
    have eb1 : (upd H3 b1 (.tup [.str node])) b1 = some (.tup (([node] : List Str).map V.str)) := upd_same
    generalize upd H3 b1 (.tup [.str node]) = H4 at gb1 hD4 hL4 gp4 eb1 ⊢
    refine ⟨A, fv, namesOf xs, [node], p, dx, wa, b1, n, 3, ws, oth, rfl, hD4.dn, SqT.of eb1, hL4, wat (by decide) rfl, two.1, (fun z => hone (List.mem_singleton.mp z)), ?_⟩
    have hD5 := hD4.line (k' := 4) ne nm hL4
    have hL5 := hL4.next (k' := 4) (by omega)
    have gp5 : GP T (A.all p) H (upd H4 p (lineI CL dx n wa 4)) := gp4.line hp hL4 (.refl T _)
    generalize upd H4 p (lineI CL dx n wa 4) = H5 at hD5 hL5 gp5 ⊢
    refine ⟨(by show 2 ≤ sizeLine; exact big (by decide)), fun b2 hb2 => ?_⟩
    have gb2 : Gr T H5 (upd H5 b2 (.tup [.str node, .str oth])) := Gr.new hb2
    have hD6 := hD5.ext gb2.ext
    have hL6 := hL5.ext gb2.ext
    have gp6 := gp5.trans (.of gb2)
    have eb2 : (upd H5 b2 (.tup [.str node, .str oth])) b2 = some (.tup (([node, oth] : List Str).map V.str)) := upd_same
    generalize upd H5 b2 (.tup [.str node, .str oth]) = H6 at gb2 hD6 hL6 gp6 eb2 ⊢
    have b2L : ∀ {H : Hp} {k k' : Nat}, LineAt CL H p dx wa n ws k → H b2 = some (.tup (([node, oth] : List Str).map V.str)) → (upd H p (lineI CL dx n wa k')) b2 = some (.tup (([node, oth] : List Str).map V.str)) := fun {H k k'} l e => by
      rw [upd_ne]
      · exact e
      · intro z
        rw [z, l.ob] at e
        cases e
    -- swap
    refine ⟨_, rfl, p, dx, _, rfl, hL6.ob, (by kernel_rfl), p, dx, wa, n, 4, ws, "swap", rfl, hL6, wat (by decide) rfl, ?_⟩
    have hD7 := hD6.line (k' := 5) ne nm hL6
    have hL7 := hL6.next (k' := 5) (by omega)
    have gp7 : GP T (A.all p) H (upd H6 p (lineI CL dx n wa 5)) := gp6.line hp hL6 (.refl T _)
    have eb7 := b2L (k' := 5) hL6 eb2
    generalize upd H6 p (lineI CL dx n wa 5) = H7 at hD7 hL7 gp7 eb7 ⊢
    refine ⟨_, rfl, p, dx, _, rfl, hL7.ob, (by kernel_rfl), p, dx, wa, n, 5, 0, 40, c, ws, zf z c, rfl, hL7, wat (by decide) rfl, zf_W hz two.2.2, Nat.zero_le _, two.2.2, gp7.tabs tb, fun H8 g8 => ?_⟩
    have hD8 := (hD7.line (k' := 6) ne nm hL7).ext g8.ext
    have hL8 := (hL7.next (k' := 6) (by omega)).ext g8.ext
    have gp8 : GP T (A.all p) H H8 := gp7.line hp hL7 g8
    have eb8 := g8.ext _ _ (b2L (k' := 6) hL7 eb7) (fun _ z => by cases z)
    -- from
    refine ⟨_, rfl, p, dx, _, rfl, hL8.ob, (by kernel_rfl), p, dx, wa, n, 6, ws, "from", rfl, hL8, wat (by decide) rfl, ?_⟩
    have hD9 := hD8.line (k' := 7) ne nm hL8
    have hL9 := hL8.next (k' := 7) (by omega)
    have gp9 : GP T (A.all p) H (upd H8 p (lineI CL dx n wa 7)) := gp8.line hp hL8 (.refl T _)
    have eb9 := b2L (k' := 7) hL8 eb8
    generalize upd H8 p (lineI CL dx n wa 7) = H9 at hD9 hL9 gp9 eb9 ⊢
    -- the near row
    have ss1 : ws = ([("pair" : Str), label, node, oth, "swap", zf z c, "from"] : List Str) ++ row.map (itemW z) ++ (([("and" : Str)] : List Str) ++ row2.map (itemW z)) := by rw [hws, List.append_assoc]
    refine ⟨_, rfl, A.d, A.dx, _, rfl, hD9.dn.ob, (by kernel_rfl), _, rfl, _, rfl, A, fv, namesOf xs, [node, oth], p, dx, wa, b2, n, 7, ws, z, row, some "and", rfl, hD9.dn, eb9, by simp, (by show 2 ≤ 10; decide), hL9, hz, rok1, fun it hit => hnm _ (rok1.sub it hit).1, fun j it hit => ?_, ⟨?_, by decide +kernel⟩, gp9.tabs tb, fun v1 H10 g10 hP1 => ?_⟩
    · rw [ss1]
      exact item_at rfl hit
    · rw [ss1, List.getElem?_append_right (by rw [List.length_append, List.length_map]; exact Nat.le_refl _), List.length_append, List.length_map]
      show ((([("and" : Str)] : List Str) ++ row2.map (itemW z)))[7 + row.length - (7 + row.length)]? = _
      rw [Nat.sub_self]
      rfl
    have hk10 : 7 + row.length + closeN (some "and") = 8 + row.length := by show 7 + row.length + 1 = _; omega
    rw [hk10] at g10
    have hD10 := (hD9.line (k' := 8 + row.length) ne nm hL9).ext g10.ext
    have hL10 := (hL9.next (k' := 8 + row.length) (by omega)).ext g10.ext
    have gp10 : GP T (A.all p) H H10 := gp9.line hp hL9 g10
    have eb10 := g10.ext _ _ (b2L (k' := 8 + row.length) hL9 eb9) (fun _ z => by cases z)
    -- the far row
    refine ⟨_, rfl, A.d, A.dx, _, rfl, hD10.dn.ob, (by kernel_rfl), _, rfl, _, rfl, A, fv, namesOf xs, [node, oth], p, dx, wa, b2, n, 8 + row.length, ws, z, row2, none, rfl, hD10.dn, eb10, by simp, (by show 2 ≤ 10; decide), hL10, hz, rok2, fun it hit => hnm _ (rok2.sub it hit).1, fun j it hit => ?_, ?_, gp10.tabs tb, fun v2 H11 g11 hP2 => ?_⟩
    · have := item_at (z := z) (pre := ([("pair" : Str), label, node, oth, "swap", zf z c, "from"] : List Str) ++ row.map (itemW z) ++ ([("and" : Str)] : List Str)) (suf := []) (k := 8 + row.length) (by rw [List.length_append, List.length_append, List.length_map]; show 7 + row.length + 1 = _; omega) hit
      rw [List.append_nil] at this
      rw [hws]
      exact this
    · show 8 + row.length + row2.length = ws.length
      omega
    have hk11 : 8 + row.length + row2.length + closeN none = ws.length := by show 8 + row.length + row2.length + 0 = ws.length; omega
    rw [hk11] at g11
    have hD11 := (hD10.line (k' := ws.length) ne nm hL10).ext g11.ext
    have hL11 := (hL10.next (Nat.le_refl _)).ext g11.ext
    have gp11 : GP T (A.all p) H H11 := gp10.line hp hL10 g11
    have eb11 := g11.ext _ _ (b2L (k' := ws.length) hL10 eb10) (fun _ z => by cases z)
    have tb11 := gp11.tabs tb
    have hP1' : PairsV H11 v1 (row.map itemP) := by
      obtain ⟨a1, vs1, e1, e2, e3⟩ := hP1
      have npa : a1 ≠ p := fun z => by rw [z, hL10.ob] at e2; cases e2
      refine ⟨a1, vs1, e1, g11.ext _ _ (by rw [upd_ne npa]; exact e2) (fun _ z => by cases z), e3.mono fun _ _ h => (h.put hL10.ob (fun _ z => by cases z)).ext g11.ext⟩
    -- helpers
    have lr1 : (row.map itemP).length ≤ 100 := by rw [List.length_map]; omega
    have lr2 : (row2.map itemP).length ≤ 100 := by rw [List.length_map]; omega
    refine ⟨_, rfl, v1, row.map itemP, rfl, hP1', lr1, tb11, fun t1 H12 g12 ht1 et1 => ?_⟩
    refine ⟨_, rfl, v2, row2.map itemP, rfl, hP2.ext g12.ext, lr2, g12.tabs tb11, fun t2 H13 g13 ht2 et2 => ?_⟩
    refine ⟨(by show 2 ≤ sizeLine; exact big (by decide)), fun th hth => ?_⟩
    have g14 : Gr T H13 (upd H13 th (.tup [.ref t1, .ref t2])) := Gr.new hth
    have eth : (upd H13 th (.tup [.ref t1, .ref t2])) th = some (.tup [.ref t1, .ref t2]) := upd_same
    generalize upd H13 th (.tup [.ref t1, .ref t2]) = H14 at g14 eth ⊢
    have gh := (g12.trans g13).trans g14
    -- amounts
    refine ⟨_, rfl, v1, row.map itemP, rfl, hP1'.ext gh.ext, lr1, gh.tabs tb11, fun t3 H15 g15 ht3 et3 => ?_⟩
    refine ⟨_, rfl, v2, row2.map itemP, rfl, hP2.ext (gh.trans g15).ext, lr2, (gh.trans g15).tabs tb11, fun t4 H16 g16 ht4 et4 => ?_⟩
    refine ⟨(by show 2 ≤ sizeLine; exact big (by decide)), fun ta hta => ?_⟩
    have g17 : Gr T H16 (upd H16 ta (.tup [.ref t3, .ref t4])) := Gr.new hta
    have eta : (upd H16 ta (.tup [.ref t3, .ref t4])) ta = some (.tup [.ref t3, .ref t4]) := upd_same
    generalize upd H16 ta (.tup [.ref t3, .ref t4]) = H17 at g17 eta ⊢
    have gB := ((gh.trans g15).trans g16).trans g17
    have hD17 := hD11.ext gB.ext
    obtain ⟨mvs6, m16, m26⟩ := hD17.md
    have lm := m26.length
    -- the mend
    refine ⟨_, rfl, A.d, CD, A.dx, _, .ref A.ma, rfl, hD17.dn.ob, D.cl, D.m, (by kernel_rfl), .inl ⟨rfl, _, SqL.of m16⟩, _, rfl, _, rfl, _, rfl, _, rfl, _, rfl, fun x dx2 hx hdx nxd => ?_⟩
    refine ⟨x, dx2, _, _, _, _, _, _, rfl, upd_same, rfl, ?_⟩
    rw [upd_twice]
    have g18 : Gr T H17 (upd (upd H17 dx2 (.own x)) x (.ins CM dx2 (mendF (.str label) (.str "pair") (.ref b2) (.ref th) (.ref ta) (.int (c : Int))))) := (Gr.new hdx).upd hx
    have ex18 : (upd (upd H17 dx2 (.own x)) x (.ins CM dx2 (mendF (.str label) (.str "pair") (.ref b2) (.ref th) (.ref ta) (.int (c : Int))))) x = some (.ins CM dx2 (mendF (.str label) (.str "pair") (.ref b2) (.ref th) (.ref ta) (.int (c : Int)))) := upd_same
    generalize upd (upd H17 dx2 (.own x)) x (.ins CM dx2 (mendF (.str label) (.str "pair") (.ref b2) (.ref th) (.ref ta) (.int (c : Int)))) = H18 at g18 ex18 ⊢
    have gA := gB.trans g18
    have st : ∀ {H : Hp} {t : Addr} {r : List Item}, Gr T H H18 → H t = some (.tup ((r.map itemP).map fun q : Pr => V.str q.1)) → StrT H18 (.ref t) (r.map (·.1)) := fun {H t r} g e => ⟨t, rfl, by
      have := g.ext _ _ e (fun _ z => by cases z)
      rw [this, List.map_map, List.map_map]
      rfl⟩
    have nt : ∀ {H : Hp} {t : Addr} {r : List Item}, Gr T H H18 → H t = some (.tup ((r.map itemP).map fun q : Pr => q.2)) → NumT H18 (.ref t) (r.map (·.2)) := fun {H t r} g e => ⟨t, rfl, by
      have := g.ext _ _ e (fun _ z => by cases z)
      rw [this, List.map_map, List.map_map]
      rfl⟩
    have mo : MendO CM H18 (.ref x) ⟨label, node, row, some (oth, c, row2)⟩ := by
      refine ⟨x, dx2, _, _, _, rfl, ex18, ⟨b2, rfl, gA.ext _ _ eb11 (fun _ z => by cases z)⟩, ⟨th, .ref t1, .ref t2, rfl, (((g15.trans g16).trans g17).trans g18).ext _ _ eth (fun _ z => by cases z), ?_, ?_⟩, ⟨ta, .ref t3, .ref t4, rfl, g18.ext _ _ eta (fun _ z => by cases z), ?_, ?_⟩⟩
      · exact st (((((g13.trans g14).trans g15).trans g16).trans g17).trans g18) et1
      · exact st ((((g14.trans g15).trans g16).trans g17).trans g18) et2
      · exact nt ((g16.trans g17).trans g18) et3
      · exact nt (g17.trans g18) et4
    have m1A := g18.ext _ _ m16 (fun _ z => by cases z)
    refine ⟨A.ma, mvs6, _, rfl, rfl, m1A, lsz (by omega), ?_⟩
    obtain ⟨d1, d2⟩ := (hD17.ext g18.ext).addM hAo m1A (m26.mono fun _ _ => MendO.kt g18.ext.kt) mo (hL11.ext gA.ext) hwa
    exact q _ d1 d2 ((gp11.trans (.of gA)).put hma m1A (fun _ z => by cases z))
end
end Z
set_option Elab.async false
set_option linter.all false
set_option maxRecDepth 100000
set_option maxHeartbeats 4000000
namespace EN
open PySem PySem.Spec PyProof.Rows L2 ZX
open PySem.Calls
/-! enumerate(xs, start=1) -/
section
variable {M : Model} {A : Around} {E : Value → Shared → Prop} {s : Shared} {env : Env}
theorem callWith_type_kwB {pos : Pos} {T : String} {first : List Value} {args : List (Bool × Sem Value)} {keywords : List (Option Str × Sem Value)} {Q : Value → Shared → Prop}
    (hplain : args.any (·.1) = false) (hkw : keywords.any (·.1.isNone) = false)
    (h : wpAny M A (evalArgs (.type T) true args keywords) (fun a s₁ => wpAny M A (call (.type T) (first ++ a.pos) a.kw) Q E s₁) E s) :
    wpAny M A (callWith pos (.type T) first args keywords) Q E s := by
  unfold callWith
  refine wpAny_bind (wpAny_holding (wpAny_mono h (fun a s₁ h₁ => wpAny_bind (wpAny_standAt ?_)) fun _ _ x => x))
  simp only [hplain, hkw, Bool.or_false]
  refine wpAny_bind (wpAny_pure ?_)
  exact wpAny_bind (wpAny_mono h₁ (fun r s₂ hr => wpAny_bind (wpAny_holding (wpAny_point (wpAny_pure hr)))) fun _ _ x => x)
theorem callWith_kwT {pos : Pos} {T : String} {e : Expr} {rest : List Expr} {kws : List Keyword} {Q : Value → Shared → Prop}
    (h : wpAny M A (spliced (backTo pos (starEach (e :: rest) env))) (fun vs s₁ => wpAny M A (evalAll ((backToKw pos (keywordEach kws env)).map (·.2)))
      (fun kvs s₂ => wpAny M A (call (.type T) vs (((backToKw pos (keywordEach kws env)).filterMap (·.1)).zip kvs)) Q E s₂) E s₁) E s)
    (he : backTo pos (starEach (e :: rest) env) = (false, eval e env) :: backTo pos (starEach rest env) := by rfl)
    (hplain : (backTo pos (starEach (e :: rest) env)).any (·.1) = false := by rfl)
    (hall : (backToKw pos (keywordEach kws env)).all (·.1.isSome) = true := by rfl)
    (hkw : (backToKw pos (keywordEach kws env)).any (·.1.isNone) = false := by rfl) :
    wpAny M A (callWith pos (.type T) [] (backTo pos (starEach (e :: rest) env)) (backToKw pos (keywordEach kws env))) Q E s := by
  refine callWith_type_kwB hplain hkw ?_
  rw [he] at h ⊢
  exact evalArgs_kwB hall h
end
/-- the list at a as it stands at each turn, each item in a new pair, counted from 1 -/
def It1 (K : PySem.W.Frag) (a : Addr) : It :=
  ⟨fun i H => ∃ (xs : List V) (x : V), SqL K H a xs ∧ xs[i]? = some x, fun i H v H' => ∃ T x, v = .ref T ∧ H T = none ∧ H' = upd H T (.tup [.int (1 + (i : Int)), x]) ∧ ∀ xs, SqL K H a xs → xs[i]? = some x, fun i H => ∃ xs : List V, SqL K H a xs ∧ xs.length = i⟩
theorem turn_enum1 {P : Program} {w : World} {K : PySem.W.Frag} {elts : List Expr} {kk : Nat} {tpos : Pos} (a e it : Addr) (na : a ≠ it) :
    Turn P w K (.Tuple elts kk tpos) (It1 K a) [e, it] e (fun i h => (∃ old, IsEnum h e it (1 + (i : Int)) old) ∧ h.IsListIter it a i ∧ e ≠ it) where
  mem := by simp
  obj := fun i h st b hb => by
    obtain ⟨⟨old, he⟩, ⟨o, ho, hc, hd⟩, _⟩ := st
    have e' : b = e ∨ b = it := by simpa using hb
    rcases e' with z | z
    · rw [z]; exact ⟨_, he, fun v q => nomatch q⟩
    · rw [z]; exact ⟨o, ho, fun v q => by rw [hd] at q; cases q⟩
  keep := fun i h h' st k => let ⟨⟨old, he⟩, hi, hne⟩ := st; ⟨⟨old, k e (by simp) _ he⟩, hi.at fun o q => k it (by simp) o q, hne⟩
  item := by
    intro X hP hw hK hc i pins s σ H E I hf st hg
    subst hP hw hK
    obtain ⟨⟨old, he⟩, hit, hne⟩ := st
    obtain ⟨xs, x, hq, hx⟩ := hg
    obtain ⟨its, rv, p, hz⟩ := I.list hq
    obtain ⟨u, hu, ru⟩ := rv.get hx
    have hh : X.A.in1.handled = none := I.ok.hd hc
    have hel : e < s.heap.objs.size := Heap.lt_size he
    have hil : it < s.heap.objs.size := by obtain ⟨_, q, _⟩ := hit; exact Heap.lt_size q
    have l1 : i < its.toArray.size := by simp; exact (List.getElem?_eq_some_iff.mp hu).1
    have nea : e ≠ a := fun z => by
      obtain ⟨o, e1, e2, _⟩ := p.isList
      rw [← z] at e1
      have he' : s.heap.get? e = some _ := he
      rw [he'] at e1
      have := Option.some.inj e1
      rw [← this] at e2
      injection e2 with e2
      exact absurd e2 (by decide)
    refine wpAny_pyNext_enum_itemC (drawsOf hh false it a na its.toArray) he ⟨hit, p.isList⟩ l1 hne (by simp [hne, nea]) fun v1 h' tk e1 ho st' hT hsz hk => ?_
    have ev1 : v1 = u := by
      have q : its.toArray[i]? = some u := by simpa using hu
      exact Option.some.inj ((show its.toArray[i]? = some v1 from e1).symm.trans q)
    subst ev1
    refine ⟨_, rfl, wpAny_letOwnedTupleGo_enum (s := { s with heap := h', toks := tk + 1 }) ho fun h'' he' sb => ?_⟩
    have hT2 : h''.get? s.heap.objs.size = some { cls := .type "tuple", data := .seq #[.int (1 + (i : Int)) tk, v1] } := (sb.2 _ (Nat.ne_of_gt hel)).trans hT
    have new : ObjOk X.prog X.w (upd H s.heap.objs.size (.tup [.int (1 + (i : Int)), x])) h'' s.heap.objs.size (.tup [.int (1 + (i : Int)), x]) :=
      ⟨by show 2 ≤ sizeLine; decide, [.int (1 + (i : Int)) tk, v1], .cons ⟨_, rfl⟩ (.cons ru .nil), ⟨_, hT2, rfl, _, rfl⟩⟩
    have I1 : Inv X pins σ (upd H s.heap.objs.size (.tup [.int (1 + (i : Int)), x])) { s with heap := h'', toks := tk + 1 } :=
      I.turnedNew (ch := [e, it]) (fun b ob hb q => (sb.2 b (fun z => hb (by simp [z]))).trans (hk b ob (fun z => hb (by simp [z])) (fun z => hb (by simp [z])) q)) hf (Nat.le_refl _) new
    refine ⟨.ref s.heap.objs.size, _, I1, rfl, ⟨_, x, rfl, I.hok.fresh (Nat.le_refl _), rfl, fun ys hy => by rw [I.list_inj hy hq]; exact hx⟩, ⟨⟨v1, ?_⟩, ?_, hne⟩, fun b hb => ?_⟩
    · have e1 : (1 : Int) + ((i + 1 : Nat) : Int) = 1 + (i : Int) + 1 := by omega
      rw [e1]; exact he'
    · have h1 : h'.IsListIter it a (i + 1) := st'.1
      exact h1.at fun o q => (sb.2 it (Ne.symm hne)).trans q
    · have hb' : b < s.heap.objs.size := by
        have e' : b = e ∨ b = it := by simpa using hb
        rcases e' with z | z
        · rw [z]; exact hel
        · rw [z]; exact hil
      rw [upd_ne (Nat.ne_of_lt hb')]
      exact (hf b hb).1
  done := by
    intro X hP hw hK hc i pins s σ H E I hf st hg
    subst hP hw hK
    obtain ⟨⟨old, he⟩, hit, hne⟩ := st
    obtain ⟨xs, hq, hx⟩ := hg
    obtain ⟨its, rv, p, hz⟩ := I.list hq
    obtain ⟨f0, f1, f2, f3, f4, f5⟩ := hf it (by simp)
    have hh : X.A.in1.handled = none := I.ok.hd hc
    have hl := rv.length
    have hsz : its.toArray.size = i := by simp; omega
    refine wpAny_pyNext_enum_endD (drawsOf hh false it a na its.toArray) he (by rw [hsz]; exact ⟨hit, p.isList⟩) fun h' eb => ⟨rfl, I.turned (t' := s.toks) (fun b o hb q => eb b o hb q) f0 f1 f3 f4 f5⟩
  self := fun A i s Q E st h => let ⟨⟨_, he⟩, _⟩ := st; wpAny_pyIter_enum he h
def iEnum1 (K : PySem.W.Frag) (ta : TA) : TI := fun σ H R => ta σ H fun vs H1 => ∃ a xs, vs = [.ref a] ∧ SqL K H1 a xs ∧ R (It1 K a) H1
theorem pi_enum1 {X : Cx} {e : Expr} {ta : TA} {p pos tpos kpos cpos : Pos} {elts : List Expr} {kk ck : Nat} (hg : Gl X "enumerate") (hm : X.mg "enumerate" = none) (ha : PA X [e] ta)
    (he : backTo pos (starEach [e] X.env) = (false, eval e X.env) :: backTo pos (starEach [] X.env) := by rfl)
    (hplain : (backTo pos (starEach [e] X.env)).any (·.1) = false := by rfl)
    (hall : (backToKw pos (keywordEach [⟨some "start", .Constant (.int 1) ck cpos, kpos⟩] X.env)).all (·.1.isSome) = true := by rfl)
    (hkw : (backToKw pos (keywordEach [⟨some "start", .Constant (.int 1) ck cpos, kpos⟩] X.env)).any (·.1.isNone) = false := by rfl)
    (hks : (backToKw pos (keywordEach [⟨some "start", .Constant (.int 1) ck cpos, kpos⟩] X.env)).filterMap (·.1) = [("start" : Str)] := by rfl) :
    PI X (.Tuple elts kk tpos) (.Call (.Name "enumerate" p) [e] [⟨some "start", .Constant (.int 1) ck cpos, kpos⟩] pos) (iEnum1 X.K ta) := by
  refine ⟨fun pins s σ H R I h => ?_⟩
  refine wpAny_Call_Name_kw (ld_blt I hg hm boot_enumerate (callWith_kwT (thn (ha.run pos pins s σ H _ I h) fun us s1 ⟨vs, H1, I1, r1, q1⟩ => kwAll_cons ?_) he hplain hall hkw))
  rw [hks]
  refine thn ((pe_int (X := X) (i := 1) (j := ck) (pos := cpos)).run pins s1 σ H1 (fun v H => v = .int 1 ∧ H = H1) I1 ⟨rfl, rfl⟩) fun v s2 ⟨x, H2, I2, rx, e1, e2⟩ => kwAll_nil ?_
  subst e1 e2
  obtain ⟨tk, rfl⟩ := rx
  obtain ⟨a, xs, ex, hq, q⟩ := q1
  subst ex
  cases r1 with
  | cons r rr =>
    cases rr
    cases r
    obtain ⟨its, rv, p', hz⟩ := I2.list hq
    have la : a < s2.heap.objs.size := by
      obtain ⟨o, eo, _⟩ := p'.isList
      exact Heap.lt_size eo
    refine enum_begins_start (begins_list a its.toArray) p'.isList (by decide) (by decide) fun h' he hit hsz hk => wpAny_pyIter_enum he ?_
    have I3 : Inv X pins σ H2 { s2 with heap := h' } := I2.kept (t' := s2.toks) hk
    refine ⟨s2.heap.objs.size + 1, [s2.heap.objs.size + 1, s2.heap.objs.size], _, _, H2, rfl, I3, turn_enum1 a (s2.heap.objs.size + 1) s2.heap.objs.size (Nat.ne_of_lt la), ⟨⟨.none, he⟩, ⟨_, hit, rfl, rfl⟩, Nat.succ_ne_self _⟩, fun b hb => ?_, q⟩
    have e' : b = s2.heap.objs.size + 1 ∨ b = s2.heap.objs.size := by simpa using hb
    have hle : s2.heap.objs.size ≤ b := by
      rcases e' with z | z
      · rw [z]; exact Nat.le_add_right _ _
      · rw [z]; exact Nat.le_refl _
    exact I2.fpOk hle (I2.hok.fresh hle)
theorem walk_enum1 {K : PySem.W.Frag} {a : Addr} {xs : List V} : Walk (It1 K a) xs.length (fun H => SqL K H a xs) (YPair (fun i => some (.int (1 + (i : Int)))) (fun i => xs[i]?)) := by
  refine ⟨fun i _ hi q => ⟨xs, xs[i], q, by simp [hi]⟩, fun _ q => ⟨xs, q, rfl⟩, fun i H v H' _ q y => ?_⟩
  obtain ⟨T, x, h1, h2, h3, h4⟩ := y
  exact ⟨T, .int (1 + (i : Int)), x, h1, h2, h3, rfl, h4 xs q⟩
end EN
set_option Elab.async false
set_option linter.all false
set_option maxRecDepth 100000
set_option maxHeartbeats 4000000
namespace Z
open PySem L2 PyProof.Rows ZX GX TL
/-! a line read -/
theorem sc_D1 : FnScope ["self", "line", "word"] ["self", "line"] (defScope (s_Draft 1)) := ⟨rfl, rfl, rfl, by decide +kernel, rfl, by decide +kernel, by decide +kernel⟩
theorem sc_D2 : FnScope ["self"] ["self"] (defScope (s_Draft 2)) := ⟨rfl, rfl, rfl, by decide +kernel, rfl, by decide +kernel, by decide +kernel⟩
theorem sc_D3 : FnScope ["self"] ["self"] (defScope (s_Draft 3)) := ⟨rfl, rfl, rfl, by decide +kernel, rfl, by decide +kernel, by decide +kernel⟩
theorem sc_D4 : FnScope ["self"] ["self"] (defScope (s_Draft 4)) := ⟨rfl, rfl, rfl, by decide +kernel, rfl, by decide +kernel, by decide +kernel⟩
/-- one line more -/
inductive StepR (z : Str) : V → List NodeR → List MendR → List (List Place) → List Str → V → List NodeR → List MendR → List (List Place) → Prop
  | file {n : Nat} {xs : List NodeR} {ms : List MendR} {rs : List (List Place)} (h : 1 ≤ n ∧ n ≤ 40) : StepR z .non xs ms rs ["file", zf z n] (.int (n : Int)) xs ms rs
  | node {b : Nat} {xs : List NodeR} {x : NodeR} (l : xs.length < 7) (h1 : NameW 11 x.name) (h2 : x.name ∉ namesOf xs) (h3 : x.room ≤ 40) : StepR z (.int (b : Int)) xs [] [] (nodeL z x) (.int (b : Int)) (xs ++ [x]) [] []
  | mend {b : Nat} {xs : List NodeR} {ms : List MendR} {m : MendR} (o : ∃ x ∈ xs, x.isNew = false) (h1 : MendOk (namesOf xs) m) (h2 : NameW 11 m.label) (h3 : m.label ∉ ms.map (·.label)) (h4 : ∀ x ∈ namesOf xs, NameW 11 x) (l : ms.length ≤ 100) : StepR z (.int (b : Int)) xs ms [] (mendL z m) (.int (b : Int)) xs (ms ++ [m]) []
  | reader {b : Nat} {xs : List NodeR} {ms : List MendR} {rs : List (List Place)} {r : List Place} (o : ∃ x ∈ xs, x.isNew = false) (h1 : ReaderOk (namesOf xs) r) (h2 : r.length ≤ 20) (h3 : ∀ x ∈ namesOf xs, NameW 11 x) (l : rs.length ≤ 100) : StepR z (.int (b : Int)) xs ms rs (readerL z r) (.int (b : Int)) xs ms (rs ++ [r])
def spStands (CD CM : Addr) : Sp := fun vs H Q _ => ∃ (A : DA) (fv : V) (xs : List NodeR) (ms : List MendR) (rs : List (List Place)), vs = [.ref A.d] ∧ DraftAt CD CM H A fv xs ms rs ∧ (∃ x ∈ xs, x.isNew = false) ∧ Q (.bl true) H
def spMayNode (CD CM : Addr) : Sp := fun vs H Q _ => ∃ (A : DA) (b : Nat) (xs : List NodeR), vs = [.ref A.d] ∧ DraftAt CD CM H A (.int (b : Int)) xs [] [] ∧ xs.length < 7 ∧ Q (.bl true) H
def spMayMend (CD CM : Addr) : Sp := fun vs H Q _ => ∃ (A : DA) (fv : V) (xs : List NodeR) (ms : List MendR), vs = [.ref A.d] ∧ DraftAt CD CM H A fv xs ms [] ∧ (∃ x ∈ xs, x.isNew = false) ∧ Q (.bl true) H
def spRead (CD CM CL : Addr) (T : List Addr) : Sp := fun vs H Q _ => ∃ (A : DA) (fv fv' : V) (xs xs' : List NodeR) (ms ms' : List MendR) (rs rs' : List (List Place)) (p dx wa : Addr) (n : Nat) (ws : List Str) (z : Str), vs = [.ref A.d, .ref p] ∧ DraftAt CD CM H A fv xs ms rs ∧ A.Ok ∧ LineAt CL H p dx wa n ws 0 ∧ wa ∉ A.all p ∧ z ∈ zeros ∧
  StepR z fv xs ms rs ws fv' xs' ms' rs' ∧ Tabs T H ∧ ∀ H', DraftAt CD CM H' A fv' xs' ms' rs' → GP T (A.all p) H H' → Q .non H'
theorem news_lt {xs : List NodeR} (o : ∃ x ∈ xs, x.isNew = false) : (newsOf xs).length < (namesOf xs).length := by
  unfold newsOf namesOf
  rw [List.length_map, List.length_map]
  obtain ⟨x, hx, e⟩ := o
  rcases Nat.lt_or_ge (xs.filter (·.isNew)).length xs.length with z | z
  · exact z
  · exfalso
    have := List.length_filter_eq_length_iff.mp (Nat.le_antisymm (List.length_filter_le ..) z)
    have := this x hx
    rw [e] at this
    cases this
theorem DraftAt.file {CD CM : Addr} {H : Hp} {A : DA} {fv fv' : V} {xs : List NodeR} {ms : List MendR} {rs : List (List Place)} (ndm : CD ≠ CM) (h : DraftAt CD CM H A fv xs ms rs) : DraftAt CD CM (upd H A.d (.ins CD A.dx (draftF A fv'))) A fv' xs ms rs := by
  have kt : Kt CM H (upd H A.d (.ins CD A.dx (draftF A fv'))) := kt_put h.dn.ob (fun z => ndm z)
  have at_ : ∀ {b : Addr} {ys : List V}, H b = some (.lst ys) → (upd H A.d (.ins CD A.dx (draftF A fv'))) b = some (.lst ys) := fun {b ys} e => by
    rw [upd_ne]
    · exact e
    · intro z
      rw [z, h.dn.ob] at e
      cases e
  obtain ⟨mvs, m1, m2⟩ := h.md
  obtain ⟨qvs, q1, q2⟩ := h.rd
  exact ⟨⟨upd_same, at_ h.dn.nm⟩, at_ h.rm, at_ h.nw, ⟨mvs, at_ m1, m2.mono fun _ _ => MendO.kt kt⟩, ⟨qvs, at_ q1, q2.mono fun _ _ => PlT.kt kt⟩⟩
section
variable {P : Program} {w : World} {K : PySem.W.Frag} {mg : Str → Option Value} {base : Heap} {T : List Addr} {CD CM CL : Addr}
theorem ok_stands {f : Addr} {fd : FuncData} (F : Fun K "stands" "Draft.stands" (s_Draft 2) f fd) (D : DraftC K mg CD) (bn : mg "len" = none) : FnOk P w K mg base CX0 1 f fd ["self"] (spStands CD CM) := by
  refine F.ok sc_D2 (fun vs H Q E h => ?_) (fun cdv Ar outer s H vs Q E hr h => ?_)
  · obtain ⟨A, fv, xs, ms, rs, rfl, _⟩ := h
    rfl
  · obtain ⟨A, fv, xs, ms, rs, rfl, hD, o, q⟩ := h
    refine ⟨_, (pss_one (ps_ret (pe_cmpR op_gt (pe_callB lenH (by rfl) bn (by decide +kernel) (pa_cons (pe_fld (pv 0) rfl) pa_nil)) (pe_callB lenH (by rfl) bn (by decide +kernel) (pa_cons (pe_fld (pv 0) rfl) pa_nil)) (nomark _)))), ?_⟩
    refine ⟨_, rfl, A.d, CD, A.dx, _, .ref A.na, rfl, hD.dn.ob, D.cl, D.n, (by kernel_rfl), false, A.na, _, rfl, hD.dn.nm, _, rfl, A.d, CD, A.dx, _, .ref A.wa, rfl, hD.dn.ob, D.cl, D.w, (by kernel_rfl), false, A.wa, _, rfl, hD.nw, _, _, rfl, rfl, ?_⟩
    have := news_lt o
    have e : decide ((((newsOf xs).map V.str).length : Int) < (((namesOf xs).map V.str).length : Int)) = true := decide_eq_true (by rw [List.length_map, List.length_map]; omega)
    show Q (.bl (decide ((((newsOf xs).map V.str).length : Int) < (((namesOf xs).map V.str).length : Int)))) H
    rw [e]
    exact q
theorem ok_may_node {f : Addr} {fd : FuncData} (F : Fun K "may_have_node" "Draft.may_have_node" (s_Draft 3) f fd) (D : DraftC K mg CD) (bn : mg "len" = none) : FnOk P w K mg base CX0 1 f fd ["self"] (spMayNode CD CM) := by
  refine F.ok sc_D3 (fun vs H Q E h => ?_) (fun cdv Ar outer s H vs Q E hr h => ?_)
  · obtain ⟨A, b, xs, rfl, _⟩ := h
    rfl
  · obtain ⟨A, b, xs, rfl, hD, l, q⟩ := h
    obtain ⟨tM, gM⟩ := D.mostN
    refine ⟨_, (pss_cons (ps_if (PW.pt (pw_or (pt_cmpR op_isN (pe_fld (pv 0) rfl) pe_non (nomark _)) (pw_or1 (pt_cmpR op_eq (pe_callB lenH (by rfl) bn (by decide +kernel) (pa_cons (pe_fld (pv 0) rfl) pa_nil)) (pe_glob (v := .int 7) (by rfl) gM ⟨tM, rfl⟩) (nomark _))))) (pss_one (ps_ret pe_bl)) pss_nil)
      (pss_one (ps_ret (pe_and (pe_cmpR op_eq (pe_callB lenH (by rfl) bn (by decide +kernel) (pa_cons (pe_fld (pv 0) rfl) pa_nil)) pe_int (nomark _)) (pe_one (pe_cmpR op_eq (pe_callB lenH (by rfl) bn (by decide +kernel) (pa_cons (pe_fld (pv 0) rfl) pa_nil)) pe_int (nomark _))))))), ?_⟩
    obtain ⟨mvs, m1, m2⟩ := hD.md
    obtain ⟨qvs, q1, q2⟩ := hD.rd
    cases m2
    cases q2
    have ln : (namesOf xs).length = xs.length := by unfold namesOf; rw [List.length_map]
    refine ⟨_, rfl, A.d, CD, A.dx, _, .int (b : Int), rfl, hD.dn.ob, D.cl, D.f, (by kernel_rfl), rfl, _, rfl, if_f (decide_eq_false (fun z => by cases z)) ?_⟩
    refine ⟨_, rfl, A.d, CD, A.dx, _, .ref A.na, rfl, hD.dn.ob, D.cl, D.n, (by kernel_rfl), false, A.na, _, rfl, hD.dn.nm, rfl, _, rfl, if_f (decide_eq_false (fun z => ?_)) ?_⟩
    · injection z with z
      rw [List.length_map] at z
      omega
    refine ⟨_, rfl, A.d, CD, A.dx, _, .ref A.ma, rfl, hD.dn.ob, D.cl, D.m, (by kernel_rfl), false, A.ma, _, rfl, m1, rfl, _, rfl, if_t (decide_eq_true rfl) ?_⟩
    exact ⟨_, rfl, A.d, CD, A.dx, _, .ref A.qa, rfl, hD.dn.ob, D.cl, D.q, (by kernel_rfl), false, A.qa, _, rfl, q1, rfl, q⟩
theorem ok_may_mend {f : Addr} {fd : FuncData} (F : Fun K "may_have_mend" "Draft.may_have_mend" (s_Draft 4) f fd) (D : DraftC K mg CD) (bn : mg "len" = none) (ST : Mx P w K mg base CD "stands" 1 ["self"] (spStands CD CM)) : FnOk P w K mg base CX0 2 f fd ["self"] (spMayMend CD CM) := by
  refine F.ok sc_D4 (fun vs H Q E h => ?_) (fun cdv Ar outer s H vs Q E hr h => ?_)
  · obtain ⟨A, fv, xs, ms, rfl, _⟩ := h
    rfl
  · obtain ⟨A, fv, xs, ms, rfl, hD, o, q⟩ := h
    refine ⟨_, (pss_one (ps_ret (pe_and (pe_mx0 (pv 0) D.cl ST hr) (pe_one (pe_cmpR op_eq (pe_callB lenH (by rfl) bn (by decide +kernel) (pa_cons (pe_fld (pv 0) rfl) pa_nil)) pe_int (nomark _)))))), ?_⟩
    obtain ⟨qvs, q1, q2⟩ := hD.rd
    cases q2
    refine ⟨_, rfl, A.d, A.dx, _, rfl, hD.dn.ob, (by kernel_rfl), A, fv, xs, ms, [], rfl, hD, o, _, rfl, iteT ?_⟩
    exact ⟨_, rfl, A.d, CD, A.dx, _, .ref A.qa, rfl, hD.dn.ob, D.cl, D.q, (by kernel_rfl), false, A.qa, _, rfl, q1, rfl, q⟩
theorem ok_read {f : Addr} {fd : FuncData} (F : Fun K "read" "Draft.read" (s_Draft 1) f fd) (D : DraftC K mg CD) (L : LineC K CL) (ne : CD ≠ CL) (nm : CM ≠ CL) (ndm : CD ≠ CM)
    (TK : Mx P w K mg base CL "take" 1 ["self"] (spTake CL)) (TU : Mx P w K mg base CL "take_number" 3 ["self", "least", "most"] (spTakeNum CL T)) (FN : Mx P w K mg base CL "finish" 2 ["self"] (spFinish CL))
    (ST : Mx P w K mg base CD "stands" 1 ["self"] (spStands CD CM)) (MN : Mx P w K mg base CD "may_have_node" 1 ["self"] (spMayNode CD CM)) (MM : Mx P w K mg base CD "may_have_mend" 2 ["self"] (spMayMend CD CM))
    (RN : Mx P w K mg base CD "read_node" 4 ["self", "line", "is_new"] (spReadNode CD CM CL T)) (RM : Mx P w K mg base CD "read_mend" 5 ["self", "line"] (spReadMend CD CM CL T false)) (RP : Mx P w K mg base CD "read_pair" 5 ["self", "line"] (spReadMend CD CM CL T true)) (RR : Mx P w K mg base CD "read_reader" 4 ["self", "line"] (spReadReader CD CM CL T)) :
    FnOk P w K mg base CX0 6 f fd ["self", "line"] (spRead CD CM CL T) := by
  refine F.ok sc_D1 (fun vs H Q E h => ?_) (fun cdv Ar outer s H vs Q E hr h => ?_)
  · obtain ⟨A, fv, fv', xs, xs', ms, ms', rs, rs', p, dx, wa, n, ws, z, rfl, _⟩ := h
    rfl
  · obtain ⟨A, fv, fv', xs, xs', ms, ms', rs, rs', p, dx, wa, n, ws, z, rfl, hD, hAo, hL, hwa, hz, hst, tb, q⟩ := h
    have hr1 : Room 1 _ := hr.mono (by decide)
    have hr2 : Room 2 _ := hr.mono (by decide)
    have hr3 : Room 3 _ := hr.mono (by decide)
    have hr4 : Room 4 _ := hr.mono (by decide)
    obtain ⟨tM, gM⟩ := D.most
    refine ⟨_, (pss_cons (ps_set (i := 2) sc_D1.nd rfl (Or.inl rfl) (pe_mx0 (pv 1) L.cl TK hr1))
      (C8.pss_cut (ps_if (PW.pt (pw_and (pt_cmpR op_eq (pv 2) pe_str (nomark _)) (pw_and1 (pt_cmpR op_isN (pe_fld (pv 0) rfl) pe_non (nomark _)))))
          (pss_one (ps_fld (pv 0) (pe_mx (pv 1) L.cl TU hr3 (pa_cons pe_int (pa_cons (pe_glob (v := .int 40) (by rfl) gM ⟨tM, rfl⟩) pa_nil))) rfl))
        (pss_one (ps_if (PW.pt (pw_and (pt_cmpR op_in_seq (pv 2) (pe_tup (pa_cons pe_str (pa_cons pe_str pa_nil))) rfl) (pw_and1 (pt_val (pe_mx0 (pv 0) D.cl MN hr1)))))
          (pss_one (ps_expr (pe_mx (pv 0) D.cl RN hr4 (pa_cons (pv 1) (pa_cons (pe_cmpR op_eq (pv 2) pe_str (nomark _)) pa_nil)))))
        (pss_one (ps_if (PW.pt (pw_and (pt_cmpR op_eq (pv 2) pe_str (nomark _)) (pw_and1 (pt_val (pe_mx0 (pv 0) D.cl MM hr2)))))
          (pss_one (ps_expr (pe_mx (pv 0) D.cl RM hr (pa_cons (pv 1) pa_nil))))
        (pss_one (ps_if (PW.pt (pw_and (pt_cmpR op_eq (pv 2) pe_str (nomark _)) (pw_and1 (pt_val (pe_mx0 (pv 0) D.cl MM hr2)))))
          (pss_one (ps_expr (pe_mx (pv 0) D.cl RP hr (pa_cons (pv 1) pa_nil))))
        (pss_one (ps_if (PW.pt (pw_and (pt_cmpR op_eq (pv 2) pe_str (nomark _)) (pw_and1 (pt_val (pe_mx0 (pv 0) D.cl ST hr1)))))
          (pss_one (ps_expr (pe_mx (pv 0) D.cl RR hr4 (pa_cons (pv 1) pa_nil))))
        (pss_one ps_never))))))))))
      (pss_one (ps_expr (pe_mx0 (pv 1) L.cl FN hr2))))), ?_⟩
    have big : ∀ {m : Nat}, m ≤ 1000 → m ≤ sizeLine := fun h => Nat.le_of_lt (lsz h)
    obtain ⟨hp, hma, hqa⟩ := A.mem p
    have hd : A.d ∈ A.all p := by unfold DA.all; simp
    have w0 : ∃ w0 rest, ws = w0 :: rest := by
      cases hst with
      | file h => exact ⟨_, _, rfl⟩
      | node l h1 h2 h3 => exact ⟨_, _, rfl⟩
      | @mend b xs ms m o h1 h2 h3 h4 l =>
        obtain ⟨label, node, row, two⟩ := m
        cases two with
        | none => exact ⟨_, _, rfl⟩
        | some t => exact ⟨_, _, rfl⟩
      | reader o h1 h2 h3 l => exact ⟨_, _, rfl⟩
    obtain ⟨w0, rest, hw0⟩ := w0
    have l1 : 1 ≤ ws.length := by rw [hw0, List.length_cons]; omega
    have hw : ws[0]? = some w0 := by rw [hw0]; rfl
    refine ⟨_, rfl, p, dx, _, rfl, hL.ob, (by kernel_rfl), p, dx, wa, n, 0, ws, w0, rfl, hL, hw, ?_⟩
    have hD1 := hD.line (k' := 1) ne nm hL
    have hL1 := hL.next (k' := 1) l1
    have gp1 : GP T (A.all p) H (upd H p (lineI CL dx n wa 1)) := (GP.of (.refl T H)).line hp hL (.refl T _)
    have tb1 := gp1.tabs tb
    generalize upd H p (lineI CL dx n wa (0 + 1)) = H1 at hD1 hL1 gp1 tb1 ⊢
    refine ⟨fun σ' H' => ∃ w0 : V, σ' = [some (.ref A.d), some (.ref p), some w0] ∧ DraftAt CD CM H' A fv' xs' ms' rs' ∧ LineAt CL H' p dx wa n ws ws.length ∧ GP T (A.all p) H H', ?_, ?_⟩
    · cases hst with
      | @file fn xs ms rs h =>
        obtain ⟨rfl, rfl⟩ := List.cons.inj hw0
        refine ⟨_, rfl, rfl, _, rfl, if_t (decide_eq_true rfl) ?_⟩
        refine ⟨_, rfl, A.d, CD, A.dx, _, .non, rfl, hD1.dn.ob, D.cl, D.f, (by kernel_rfl), rfl, _, rfl, if_t (by rfl) ?_⟩
        refine ⟨_, rfl, p, dx, _, rfl, hL1.ob, (by kernel_rfl), p, dx, wa, n, 1, 1, 40, fn, _, zf z fn, rfl, hL1, rfl, zf_W hz h.2, h.1, h.2, tb1, fun H2 g2 => ?_⟩
        have hD2 := (hD1.line (k' := 2) ne nm hL1).ext g2.ext
        have hL2 := (hL1.next (k' := 2) (by show 2 ≤ 2; exact Nat.le_refl _)).ext g2.ext
        have gp2 : GP T (A.all p) H H2 := gp1.line hp hL1 g2
        refine ⟨_, rfl, A.d, CD, A.dx, _, rfl, hD2.dn.ob, D.cl, D.f, (by show 6 < 1000; decide), ?_⟩
        rw [show putF "file" (V.int (fn : Int)) (draftF A .non) = draftF A (.int (fn : Int)) by kernel_rfl]
        have npd : p ≠ A.d := fun z => by
          have := hL2.ob
          rw [z, hD2.dn.ob] at this
          injection this with this
          injection this with this
          exact ne this
        refine ⟨_, rfl, hD2.file ndm, ⟨by rw [upd_ne npd]; exact hL2.ob, by rw [upd_ne (A.out hwa).1]; exact hL2.wd, hL2.few, hL2.kle⟩, gp2.put hd hD2.dn.ob (fun _ z => by cases z)⟩
      | @node b xs x l h1 h2 h3 =>
        obtain ⟨xn, xr, xi⟩ := x
        have in1 : inV (.str "node") [.str "node", .str "new"] = true := by decide +kernel
        have in2 : inV (.str "new") [.str "node", .str "new"] = true := by decide +kernel
        have go : ∀ {t : Addr}, H1 t = none → DraftAt CD CM (upd H1 t (.tup [.str "node", .str "new"])) A (.int (b : Int)) xs [] [] ∧ LineAt CL (upd H1 t (.tup [.str "node", .str "new"])) p dx wa n (nodeL z ⟨xn, xr, xi⟩) 1 ∧ GP T (A.all p) H (upd H1 t (.tup [.str "node", .str "new"])) := fun {t} ht =>
          ⟨hD1.ext (Gr.new (T := T) ht).ext, hL1.ext (Gr.new (T := T) ht).ext, gp1.trans (.of (Gr.new ht))⟩
        cases xi with
        | true =>
          obtain ⟨rfl, rfl⟩ := List.cons.inj hw0
          refine ⟨_, rfl, rfl, _, rfl, if_f (decide_eq_false (str_ne (show ("new" : Str) ≠ ("file" : Str) from by decide +kernel))) ?_⟩
          refine ⟨_, rfl, (by show 2 ≤ sizeLine; exact big (by decide)), fun t ht => ⟨t, _, rfl, .inr (SqT.of upd_same), rfl, rfl, _, rfl, if_t in2 ?_⟩⟩
          obtain ⟨hD2, hL2, gp2⟩ := go ht
          refine ⟨_, rfl, A.d, A.dx, _, rfl, hD2.dn.ob, (by kernel_rfl), A, b, xs, rfl, hD2, l, true, rfl, iteT ?_⟩
          refine ⟨_, rfl, A.d, A.dx, _, rfl, hD2.dn.ob, (by kernel_rfl), _, rfl, _, rfl, rfl, A, .int (b : Int), xs, [], [], p, dx, wa, n, 1, _, zf z xr, ⟨xn, xr, true⟩, ?_, hD2, hAo, hL2, hwa, rfl, rfl, h1, h2, zf_W hz h3, h3, by omega, gp2.tabs tb, fun H' d' l' g' => ⟨_, rfl, d', l', gp2.trans g'⟩⟩
          rw [decide_eq_true (show V.str ((if true = true then ("new" : Str) else ("node" : Str))) = V.str "new" from rfl)]
          rfl
        | false =>
          obtain ⟨rfl, rfl⟩ := List.cons.inj hw0
          refine ⟨_, rfl, rfl, _, rfl, if_f (decide_eq_false (str_ne (show ("node" : Str) ≠ ("file" : Str) from by decide +kernel))) ?_⟩
          refine ⟨_, rfl, (by show 2 ≤ sizeLine; exact big (by decide)), fun t ht => ⟨t, _, rfl, .inr (SqT.of upd_same), rfl, rfl, _, rfl, if_t in1 ?_⟩⟩
          obtain ⟨hD2, hL2, gp2⟩ := go ht
          refine ⟨_, rfl, A.d, A.dx, _, rfl, hD2.dn.ob, (by kernel_rfl), A, b, xs, rfl, hD2, l, true, rfl, iteT ?_⟩
          refine ⟨_, rfl, A.d, A.dx, _, rfl, hD2.dn.ob, (by kernel_rfl), _, rfl, _, rfl, rfl, A, .int (b : Int), xs, [], [], p, dx, wa, n, 1, _, zf z xr, ⟨xn, xr, false⟩, ?_, hD2, hAo, hL2, hwa, rfl, rfl, h1, h2, zf_W hz h3, h3, by omega, gp2.tabs tb, fun H' d' l' g' => ⟨_, rfl, d', l', gp2.trans g'⟩⟩
          rw [decide_eq_false (str_ne (show ((if false = true then ("new" : Str) else ("node" : Str))) ≠ ("new" : Str) from by decide +kernel))]
          rfl
      | @mend b xs ms m o h1 h2 h3 h4 l =>
        obtain ⟨label, node, row, two⟩ := m
        cases two with
        | none =>
          obtain ⟨rfl, rfl⟩ := List.cons.inj hw0
          refine ⟨_, rfl, rfl, _, rfl, if_f (decide_eq_false (str_ne (show ("mend" : Str) ≠ ("file" : Str) from by decide +kernel))) ?_⟩
          refine ⟨_, rfl, (by show 2 ≤ sizeLine; exact big (by decide)), fun t ht => ⟨t, _, rfl, .inr (SqT.of upd_same), rfl, rfl, _, rfl, if_f (show inV (.str "mend") [.str "node", .str "new"] = false by decide +kernel) ?_⟩⟩
          have hD2 := hD1.ext (Gr.new (T := T) (o := .tup [.str "node", .str "new"]) ht).ext
          have hL2 := hL1.ext (Gr.new (T := T) (o := .tup [.str "node", .str "new"]) ht).ext
          have gp2 := gp1.trans (.of (Gr.new (o := .tup [.str "node", .str "new"]) ht))
          refine ⟨_, rfl, rfl, _, rfl, if_t (decide_eq_true rfl) ?_⟩
          refine ⟨_, rfl, A.d, A.dx, _, rfl, hD2.dn.ob, (by kernel_rfl), A, _, xs, ms, rfl, hD2, o, true, rfl, iteT ?_⟩
          refine ⟨_, rfl, A.d, A.dx, _, rfl, hD2.dn.ob, (by kernel_rfl), _, rfl, A, _, xs, ms, [], p, dx, wa, n, _, z, ⟨label, node, row, none⟩, rfl, hD2, hAo, hL2, hwa, hz, rfl, rfl, h1, h2, h3, h4, l, gp2.tabs tb, fun H' d' l' g' => ⟨_, rfl, d', l', gp2.trans g'⟩⟩
        | some tw =>
          obtain ⟨rfl, rfl⟩ := List.cons.inj hw0
          refine ⟨_, rfl, rfl, _, rfl, if_f (decide_eq_false (str_ne (show ("pair" : Str) ≠ ("file" : Str) from by decide +kernel))) ?_⟩
          refine ⟨_, rfl, (by show 2 ≤ sizeLine; exact big (by decide)), fun t ht => ⟨t, _, rfl, .inr (SqT.of upd_same), rfl, rfl, _, rfl, if_f (show inV (.str "pair") [.str "node", .str "new"] = false by decide +kernel) ?_⟩⟩
          have hD2 := hD1.ext (Gr.new (T := T) (o := .tup [.str "node", .str "new"]) ht).ext
          have hL2 := hL1.ext (Gr.new (T := T) (o := .tup [.str "node", .str "new"]) ht).ext
          have gp2 := gp1.trans (.of (Gr.new (o := .tup [.str "node", .str "new"]) ht))
          refine ⟨_, rfl, rfl, _, rfl, if_f (decide_eq_false (str_ne (show ("pair" : Str) ≠ ("mend" : Str) from by decide +kernel))) ?_⟩
          refine ⟨_, rfl, rfl, _, rfl, if_t (decide_eq_true rfl) ?_⟩
          refine ⟨_, rfl, A.d, A.dx, _, rfl, hD2.dn.ob, (by kernel_rfl), A, _, xs, ms, rfl, hD2, o, true, rfl, iteT ?_⟩
          refine ⟨_, rfl, A.d, A.dx, _, rfl, hD2.dn.ob, (by kernel_rfl), _, rfl, A, _, xs, ms, [], p, dx, wa, n, _, z, ⟨label, node, row, some tw⟩, rfl, hD2, hAo, hL2, hwa, hz, rfl, rfl, h1, h2, h3, h4, l, gp2.tabs tb, fun H' d' l' g' => ⟨_, rfl, d', l', gp2.trans g'⟩⟩
      | @reader b xs ms rs r o h1 h2 h3 l =>
        obtain ⟨rfl, rfl⟩ := List.cons.inj hw0
        refine ⟨_, rfl, rfl, _, rfl, if_f (decide_eq_false (str_ne (show ("reader" : Str) ≠ ("file" : Str) from by decide +kernel))) ?_⟩
        refine ⟨_, rfl, (by show 2 ≤ sizeLine; exact big (by decide)), fun t ht => ⟨t, _, rfl, .inr (SqT.of upd_same), rfl, rfl, _, rfl, if_f (show inV (.str "reader") [.str "node", .str "new"] = false by decide +kernel) ?_⟩⟩
        have hD2 := hD1.ext (Gr.new (T := T) (o := .tup [.str "node", .str "new"]) ht).ext
        have hL2 := hL1.ext (Gr.new (T := T) (o := .tup [.str "node", .str "new"]) ht).ext
        have gp2 := gp1.trans (.of (Gr.new (o := .tup [.str "node", .str "new"]) ht))
        refine ⟨_, rfl, rfl, _, rfl, if_f (decide_eq_false (str_ne (show ("reader" : Str) ≠ ("mend" : Str) from by decide +kernel))) ?_⟩
        refine ⟨_, rfl, rfl, _, rfl, if_f (decide_eq_false (str_ne (show ("reader" : Str) ≠ ("pair" : Str) from by decide +kernel))) ?_⟩
        refine ⟨_, rfl, rfl, _, rfl, if_t (decide_eq_true rfl) ?_⟩
        refine ⟨_, rfl, A.d, A.dx, _, rfl, hD2.dn.ob, (by kernel_rfl), A, _, xs, ms, rs, rfl, hD2, o, true, rfl, iteT ?_⟩
        refine ⟨_, rfl, A.d, A.dx, _, rfl, hD2.dn.ob, (by kernel_rfl), _, rfl, A, _, xs, ms, rs, p, dx, wa, n, 1, _, z, r, rfl, hD2, hAo, hL2, hwa, hz, h1, h2, fun it hit => h3 _ (h1.sub it hit), fun j it hj => ?_, ?_, l, gp2.tabs tb, fun H' d' l' g' => ⟨_, rfl, d', l', gp2.trans g'⟩⟩
        · show ((("reader" : Str) :: r.map (placeW z)) : List Str)[1 + j]? = some (placeW z it)
          rw [Nat.add_comm, List.getElem?_cons_succ, List.getElem?_map, hj]
          rfl
        · show 1 + r.length = (("reader" : Str) :: r.map (placeW z)).length
          rw [List.length_cons, List.length_map]
          omega
    · rintro σ' H' ⟨w0, rfl, d', l', g'⟩
      refine ⟨_, rfl, p, dx, _, rfl, l'.ob, (by kernel_rfl), p, dx, wa, n, ws, rfl, l', ?_⟩
      exact q H' d' g'
end
end Z
set_option Elab.async false
set_option linter.all false
set_option maxRecDepth 100000
set_option maxHeartbeats 4000000
namespace Z
open PySem L2 PyProof.Rows ZX GX TL
/-! all lines of a store, one after the other -/
structure DS where
  fv : V
  xs : List NodeR
  ms : List MendR
  rs : List (List Place)
inductive Steps (z : Str) : DS → List (List Str) → DS → Prop
  | nil {a : DS} : Steps z a [] a
  | cons {a b c : DS} {ws : List Str} {rest : List (List Str)} (h : StepR z a.fv a.xs a.ms a.rs ws b.fv b.xs b.ms b.rs) (t : Steps z b rest c) : Steps z a (ws :: rest) c
theorem Steps.app {z : Str} {a b c : DS} {r1 r2 : List (List Str)} (h : Steps z a r1 b) (k : Steps z b r2 c) : Steps z a (r1 ++ r2) c := by
  induction h with
  | nil => exact k
  | cons h _ ih => exact .cons h (ih k)
theorem names_app (xs ys : List NodeR) : namesOf (xs ++ ys) = namesOf xs ++ namesOf ys := by
  unfold namesOf
  rw [List.map_append]
theorem steps_nodes {z : Str} {b : Nat} : ∀ (ys xs : List NodeR), (xs ++ ys).length ≤ 7 → (namesOf (xs ++ ys)).Nodup → (∀ x ∈ ys, NameW 11 x.name ∧ x.room ≤ 40) → Steps z ⟨.int (b : Int), xs, [], []⟩ (ys.map (nodeL z)) ⟨.int (b : Int), xs ++ ys, [], []⟩
  | [], xs, _, _, _ => by
    rw [List.append_nil]
    exact .nil
  | y :: ys, xs, l, nd, h => by
    have hy := h y (List.mem_cons_self ..)
    have e : xs ++ y :: ys = (xs ++ [y]) ++ ys := by simp
    rw [e] at l nd ⊢
    refine .cons (b := ⟨.int (b : Int), xs ++ [y], [], []⟩) (.node ?_ hy.1 (fun hm => ?_) hy.2) (steps_nodes ys (xs ++ [y]) l nd fun x hx => h x (List.mem_cons_of_mem _ hx))
    · show xs.length < 7
      rw [List.length_append, List.length_append] at l
      have : [y].length = 1 := rfl
      omega
    · rw [names_app, names_app] at nd
      have := (List.nodup_append.mp (List.nodup_append.mp nd).1).2.2
      exact this _ hm _ (List.mem_singleton.mpr rfl) rfl
theorem steps_mends {z : Str} {b : Nat} {xs : List NodeR} (o : ∃ x ∈ xs, x.isNew = false) (hn : ∀ x ∈ namesOf xs, NameW 11 x) : ∀ (ys ms : List MendR), (ms ++ ys).length ≤ 100 → ((ms ++ ys).map (·.label)).Nodup → (∀ m ∈ ys, NameW 11 m.label ∧ MendOk (namesOf xs) m) → Steps z ⟨.int (b : Int), xs, ms, []⟩ (ys.map (mendL z)) ⟨.int (b : Int), xs, ms ++ ys, []⟩
  | [], ms, _, _, _ => by
    rw [List.append_nil]
    exact .nil
  | y :: ys, ms, l, nd, h => by
    have hy := h y (List.mem_cons_self ..)
    have e : ms ++ y :: ys = (ms ++ [y]) ++ ys := by simp
    rw [e] at l nd ⊢
    refine .cons (b := ⟨.int (b : Int), xs, ms ++ [y], []⟩) (.mend o hy.2 hy.1 (fun hm => ?_) hn ?_) (steps_mends o hn ys (ms ++ [y]) l nd fun x hx => h x (List.mem_cons_of_mem _ hx))
    · rw [List.map_append, List.map_append] at nd
      have := (List.nodup_append.mp (List.nodup_append.mp nd).1).2.2
      exact this _ hm _ (List.mem_singleton.mpr rfl) rfl
    · show ms.length ≤ 100
      rw [List.length_append, List.length_append] at l
      omega
theorem steps_readers {z : Str} {b : Nat} {xs : List NodeR} {ms : List MendR} (o : ∃ x ∈ xs, x.isNew = false) (hn : ∀ x ∈ namesOf xs, NameW 11 x) : ∀ (ys rs : List (List Place)), (rs ++ ys).length ≤ 100 → (∀ r ∈ ys, r.length ≤ 20 ∧ ReaderOk (namesOf xs) r) → Steps z ⟨.int (b : Int), xs, ms, rs⟩ (ys.map (readerL z)) ⟨.int (b : Int), xs, ms, rs ++ ys⟩
  | [], rs, _, _ => by
    rw [List.append_nil]
    exact .nil
  | y :: ys, rs, l, h => by
    have hy := h y (List.mem_cons_self ..)
    have e : rs ++ y :: ys = (rs ++ [y]) ++ ys := by simp
    rw [e] at l ⊢
    refine .cons (b := ⟨.int (b : Int), xs, ms, rs ++ [y]⟩) (.reader o hy.2 hy.1 hn ?_) (steps_readers o hn ys (rs ++ [y]) l fun x hx => h x (List.mem_cons_of_mem _ hx))
    show rs.length ≤ 100
    rw [List.length_append, List.length_append] at l
    omega
theorem steps_store {z : Str} {s : StoreR} (ok : StoreOk s) : Steps z ⟨.non, [], [], []⟩ (rowsOf z s) ⟨.int (s.file : Int), s.nodes, s.mends, s.readers⟩ := by
  have hn : ∀ x ∈ namesOf s.nodes, NameW 11 x := ok.name
  have ln : s.names.length = s.nodes.length := by unfold StoreR.names namesOf; rw [List.length_map]
  refine Steps.app (Steps.app (Steps.app (.cons (b := ⟨.int (s.file : Int), [], [], []⟩) (.file ok.file) .nil) (steps_nodes s.nodes [] ?_ ?_ ?_)) (steps_mends ok.old hn s.mends [] ?_ ?_ ?_)) (steps_readers ok.old hn s.readers [] ?_ ?_)
  · show s.nodes.length ≤ 7
    exact ok.few
  · exact ok.nd
  · exact fun x hx => ⟨hn _ (List.mem_map.mpr ⟨x, hx, rfl⟩), ok.room x hx⟩
  · show s.mends.length ≤ 100
    have := ok.mfew
    omega
  · exact ok.mnd
  · exact fun m hm => ⟨ok.mname m hm, ok.mok m hm⟩
  · show s.readers.length ≤ 100
    have := ok.rfew
    omega
  · intro r hr
    have h := ok.rok r hr
    have := h.few
    have := ok.few
    exact ⟨by omega, h⟩
/-! a draft made of a text -/
theorem sc_D0 : FnScope ["self", "text", "lines", "number", "line"] ["self", "text"] (defScope (s_Draft 0)) := ⟨rfl, rfl, rfl, by decide +kernel, rfl, by decide +kernel, by decide +kernel⟩
theorem GP.only {T S : List Addr} {H H' : Hp} {d : Addr} (g : GP T S H H') (h : ∀ q ∈ S, q = d ∨ H q = none) : GP T [d] H H' :=
  ⟨fun b o hb e n => g.ext b o (fun hm => by
    rcases h b hm with z | z
    · exact hb (by rw [z]; exact List.mem_singleton.mpr rfl)
    · rw [z] at e
      cases e) e n, g.tab, g.stay, g.keep⟩
theorem init_step {T : List Addr} {H Hk : Hp} {d dx n CD : Addr} {fs fs' : List (Str × V)} (hob : Hk d = some (.ins CD dx fs)) (hn : Hk n = none) (g : GP T [d] H Hk) :
    (L2.upd Hk n (.lst [])) d = some (.ins CD dx fs) ∧ (L2.upd (L2.upd Hk n (.lst [])) d (.ins CD dx fs')) n = some (.lst []) ∧ (∀ b, b ≠ d → b ≠ n → (L2.upd (L2.upd Hk n (.lst [])) d (.ins CD dx fs')) b = Hk b) ∧ GP T [d] H (L2.upd (L2.upd Hk n (.lst [])) d (.ins CD dx fs')) ∧ H n = none ∧ n ≠ d := by
  have nd : n ≠ d := fun z => by rw [z, hob] at hn; cases hn
  have e1 : (L2.upd Hk n (.lst [])) d = some (.ins CD dx fs) := by rw [upd_ne nd.symm]; exact hob
  refine ⟨e1, by rw [upd_ne nd, upd_same], fun b b1 b2 => by rw [upd_ne b1, upd_ne b2], (g.trans (.of (Gr.new hn))).put (List.mem_singleton.mpr rfl) e1 (fun _ z => by cases z), g.stay n hn, nd⟩
theorem gr_line {T : List Addr} {H H' : Hp} {x dx wa : Addr} {o o1 o2 o3 : HO} (hx : H x = none) (hdx : H dx = none) (hwa : (L2.upd (L2.upd H dx o) x o1) wa = none) (k : ∀ b, b ≠ x → b ≠ wa → H' b = (L2.upd (L2.upd H dx o) x o1) b) (ex : H' x = some o2) (ew : H' wa = some o3) : Gr T H H' := by
  have old : ∀ {b u}, H b = some u → H' b = some u := fun {b u} e => by
    have n1 : b ≠ x := fun z => by rw [z, hx] at e; cases e
    have n2 : b ≠ dx := fun z => by rw [z, hdx] at e; cases e
    have n3 : b ≠ wa := fun z => by
      rw [← z, upd_ne n1, upd_ne n2, e] at hwa
      cases hwa
    rw [k b n1 n3, upd_ne n1, upd_ne n2]
    exact e
  refine ⟨fun b u e _ => old e, fun P ⟨ps, e, t⟩ => ⟨ps, old e, t⟩, fun b e => ?_, fun P _ ps e => old e⟩
  cases h : H b with
  | none => rfl
  | some u =>
    rw [old h] at e
    cases e
def spDraftInit (CD CM : Addr) (T : List Addr) : Sp := fun vs H Q _ => ∃ (d dx : Addr) (z nl : Str) (s : StoreR), vs = [.ref d, .str (textT (rowsOf z s) nl)] ∧ H d = some (.ins CD dx []) ∧ z ∈ zeros ∧ (nl = "" ∨ nl = "\n") ∧ StoreOk s ∧ Tabs T H ∧
  ∀ (A : DA) (H' : Hp), A.d = d → DraftAt CD CM H' A (.int (s.file : Int)) s.nodes s.mends s.readers → GP T [d] H H' → Q .non H'
section
variable {P : Program} {w : World} {K : PySem.W.Frag} {mg : Str → Option Value} {base : Heap} {T : List Addr} {CD CM CL : Addr}
theorem ok_draft_init {f : Addr} {fd : FuncData} (F : Fun K "__init__" "Draft.__init__" (s_Draft 0) f fd) (D : DraftC K mg CD) (L : LineC K CL) (ne : CD ≠ CL) (be : mg "enumerate" = none) (bn : mg "len" = none) (LO : Fx P w K mg base "lines_of" 1 ["text"] (spLines T)) (LI : MkX P w K mg base "Line" CL 1 ["self", "number", "text"] (spLineInit CL)) (RD : Mx P w K mg base CD "read" 6 ["self", "line"] (spRead CD CM CL T)) :
    FnOk P w K mg base CX0 7 f fd ["self", "text"] (spDraftInit CD CM T) := by
  refine F.ok sc_D0 (fun vs H Q E h => ?_) (fun cdv Ar outer s H vs Q E hr h => ?_)
  · obtain ⟨d, dx, z, nl, s, rfl, _⟩ := h
    rfl
  · obtain ⟨d, dx, z, nl, s, rfl, hd, hz, hnl, ok, tb, q⟩ := h
    have hr1 : Room 1 _ := hr.mono (by decide)
    have hr2 : Room 2 _ := hr.mono (by decide)
    refine ⟨_, (pss_cons (ps_fld (pv 0) pe_non rfl)
      (pss_cons (ps_fld (pv 0) (pe_lst pa_nil) rfl)
      (pss_cons (ps_fld (pv 0) (pe_lst pa_nil) rfl)
      (pss_cons (ps_fld (pv 0) (pe_lst pa_nil) rfl)
      (pss_cons (ps_fld (pv 0) (pe_lst pa_nil) rfl)
      (pss_cons (ps_fld (pv 0) (pe_lst pa_nil) rfl)
      (pss_cons (ps_set (i := 2) sc_D0.nd rfl (Or.inl rfl) (pe_fx LO hr1 (pa_cons (pv 1) pa_nil)))
      (pss_cons (ps_for PassesOwn.never rfl (EN.pi_enum1 (by rfl) be (pa_cons (pv 2) pa_nil)) (pg_tup rfl (pgs_cons (pg_name (i := 3) sc_D0.nd rfl (Or.inl rfl)) (pgs_cons (pg_name (i := 4) sc_D0.nd rfl (Or.inl rfl)) pgs_nil)))
        (pss_one (ps_expr (pe_mx (pv 0) D.cl RD hr (pa_cons (pe_mkx LI hr2 (pa_cons (pv 3) (pa_cons (pv 4) pa_nil))) pa_nil)))))
      (pss_one (ps_if (pt_cmpR op_eq (pe_callB lenH (by rfl) bn (by decide +kernel) (pa_cons (pe_fld (pv 0) rfl) pa_nil)) pe_int (nomark _)) (pss_one ps_never) pss_nil)))))))))), ?_⟩
    have zl : (0 : Nat) ≤ sizeLine := Nat.zero_le _
    refine ⟨_, rfl, d, CD, dx, _, rfl, hd, D.cl, D.f, (by show 0 < 1000; decide), ?_⟩
    have g1 : GP T [d] H (upd H d (.ins CD dx (putF "file" .non []))) := (GP.of (.refl T H)).put (List.mem_singleton.mpr rfl) hd (fun _ z => by cases z)
    have o1 : (upd H d (.ins CD dx (putF "file" .non []))) d = some (.ins CD dx (putF "file" .non [])) := upd_same
    generalize upd H d (.ins CD dx (putF "file" .non [])) = H1 at g1 o1 ⊢
    refine ⟨zl, fun na hna => ?_⟩
    obtain ⟨a1, a2, a3, a4, a5, a6⟩ := init_step (fs' := putF "nodes" (.ref na) (putF "file" .non [])) o1 hna g1
    refine ⟨_, rfl, d, CD, dx, _, rfl, a1, D.cl, D.n, (by show 1 < 1000; decide), ?_⟩
    have o2 : (upd (upd H1 na (.lst [])) d (.ins CD dx (putF "nodes" (.ref na) (putF "file" .non [])))) d = some (.ins CD dx (putF "nodes" (.ref na) (putF "file" .non []))) := upd_same
    generalize upd (upd H1 na (.lst [])) d (.ins CD dx (putF "nodes" (.ref na) (putF "file" .non []))) = H2 at a2 a3 a4 o2 ⊢
    refine ⟨zl, fun ra hra => ?_⟩
    obtain ⟨b1, b2, b3, b4, b5, b6⟩ := init_step (fs' := putF "rooms" (.ref ra) (putF "nodes" (.ref na) (putF "file" .non []))) o2 hra a4
    refine ⟨_, rfl, d, CD, dx, _, rfl, b1, D.cl, D.r, (by show 2 < 1000; decide), ?_⟩
    have o3 : (upd (upd H2 ra (.lst [])) d (.ins CD dx (putF "rooms" (.ref ra) (putF "nodes" (.ref na) (putF "file" .non []))))) d = some (.ins CD dx (putF "rooms" (.ref ra) (putF "nodes" (.ref na) (putF "file" .non [])))) := upd_same
    generalize upd (upd H2 ra (.lst [])) d (.ins CD dx (putF "rooms" (.ref ra) (putF "nodes" (.ref na) (putF "file" .non [])))) = H3 at b2 b3 b4 o3 ⊢
    have nr : na ≠ ra := fun z => by rw [← z, a2] at hra; cases hra
    refine ⟨zl, fun wa hwa => ?_⟩
    obtain ⟨c1, c2, c3, c4, c5, c6⟩ := init_step (fs' := putF "news" (.ref wa) (putF "rooms" (.ref ra) (putF "nodes" (.ref na) (putF "file" .non [])))) o3 hwa b4
    refine ⟨_, rfl, d, CD, dx, _, rfl, c1, D.cl, D.w, (by show 3 < 1000; decide), ?_⟩
    have o4 : (upd (upd H3 wa (.lst [])) d (.ins CD dx (putF "news" (.ref wa) (putF "rooms" (.ref ra) (putF "nodes" (.ref na) (putF "file" .non [])))))) d = some (.ins CD dx (putF "news" (.ref wa) (putF "rooms" (.ref ra) (putF "nodes" (.ref na) (putF "file" .non []))))) := upd_same
    generalize upd (upd H3 wa (.lst [])) d (.ins CD dx (putF "news" (.ref wa) (putF "rooms" (.ref ra) (putF "nodes" (.ref na) (putF "file" .non []))))) = H4 at c2 c3 c4 o4 ⊢
    have nw3 : na ≠ wa := fun z => by rw [← z, b3 na a6 nr, a2] at hwa; cases hwa
    have rw3 : ra ≠ wa := fun z => by rw [← z, b2] at hwa; cases hwa
    refine ⟨zl, fun ma hma => ?_⟩
    obtain ⟨d1, d2, d3, d4, d5, d6⟩ := init_step (fs' := putF "mends" (.ref ma) (putF "news" (.ref wa) (putF "rooms" (.ref ra) (putF "nodes" (.ref na) (putF "file" .non []))))) o4 hma c4
    refine ⟨_, rfl, d, CD, dx, _, rfl, d1, D.cl, D.m, (by show 4 < 1000; decide), ?_⟩
    have o5 : (upd (upd H4 ma (.lst [])) d (.ins CD dx (putF "mends" (.ref ma) (putF "news" (.ref wa) (putF "rooms" (.ref ra) (putF "nodes" (.ref na) (putF "file" .non []))))))) d = some (.ins CD dx (putF "mends" (.ref ma) (putF "news" (.ref wa) (putF "rooms" (.ref ra) (putF "nodes" (.ref na) (putF "file" .non [])))))) := upd_same
    generalize upd (upd H4 ma (.lst [])) d (.ins CD dx (putF "mends" (.ref ma) (putF "news" (.ref wa) (putF "rooms" (.ref ra) (putF "nodes" (.ref na) (putF "file" .non [])))))) = H5 at d2 d3 d4 o5 ⊢
    have na4 : H4 na = some (.lst []) := by rw [c3 na a6 nw3, b3 na a6 nr, a2]
    have ra4 : H4 ra = some (.lst []) := by rw [c3 ra b6 rw3, b2]
    have nm4 : na ≠ ma := fun z => by rw [← z, na4] at hma; cases hma
    have rm4 : ra ≠ ma := fun z => by rw [← z, ra4] at hma; cases hma
    have wm4 : wa ≠ ma := fun z => by rw [← z, c2] at hma; cases hma
    refine ⟨zl, fun qa hqa => ?_⟩
    obtain ⟨e1, e2, e3, e4, e5, e6⟩ := init_step (fs' := putF "readers" (.ref qa) (putF "mends" (.ref ma) (putF "news" (.ref wa) (putF "rooms" (.ref ra) (putF "nodes" (.ref na) (putF "file" .non [])))))) o5 hqa d4
    refine ⟨_, rfl, d, CD, dx, _, rfl, e1, D.cl, D.q, (by show 5 < 1000; decide), ?_⟩
    have o6 : (upd (upd H5 qa (.lst [])) d (.ins CD dx (putF "readers" (.ref qa) (putF "mends" (.ref ma) (putF "news" (.ref wa) (putF "rooms" (.ref ra) (putF "nodes" (.ref na) (putF "file" .non [])))))))) d = some (.ins CD dx (putF "readers" (.ref qa) (putF "mends" (.ref ma) (putF "news" (.ref wa) (putF "rooms" (.ref ra) (putF "nodes" (.ref na) (putF "file" .non []))))))) := upd_same
    generalize upd (upd H5 qa (.lst [])) d (.ins CD dx (putF "readers" (.ref qa) (putF "mends" (.ref ma) (putF "news" (.ref wa) (putF "rooms" (.ref ra) (putF "nodes" (.ref na) (putF "file" .non []))))))) = H6 at e2 e3 e4 o6 ⊢
    have na5 : H5 na = some (.lst []) := by rw [d3 na a6 nm4, na4]
    have ra5 : H5 ra = some (.lst []) := by rw [d3 ra b6 rm4, ra4]
    have wa5 : H5 wa = some (.lst []) := by rw [d3 wa c6 wm4, c2]
    have nq5 : na ≠ qa := fun z => by rw [← z, na5] at hqa; cases hqa
    have rq5 : ra ≠ qa := fun z => by rw [← z, ra5] at hqa; cases hqa
    have wq5 : wa ≠ qa := fun z => by rw [← z, wa5] at hqa; cases hqa
    have mq5 : ma ≠ qa := fun z => by rw [← z, d2] at hqa; cases hqa
    have D6 : DraftAt CD CM H6 ⟨d, dx, na, ra, wa, ma, qa⟩ .non [] [] [] := by
      refine ⟨⟨?_, by rw [e3 na a6 nq5]; exact na5⟩, by rw [e3 ra b6 rq5]; exact ra5, by rw [e3 wa c6 wq5]; exact wa5, ⟨[], by rw [e3 ma d6 mq5]; exact d2, .nil⟩, ⟨[], e2, .nil⟩⟩
      rw [o6, show putF "readers" (.ref qa) (putF "mends" (.ref ma) (putF "news" (.ref wa) (putF "rooms" (.ref ra) (putF "nodes" (.ref na) (putF "file" .non []))))) = draftF ⟨d, dx, na, ra, wa, ma, qa⟩ .non by kernel_rfl]
    have AO : DA.Ok ⟨d, dx, na, ra, wa, ma, qa⟩ := ⟨nr, nw3, nm4, nq5, rw3, rm4, rq5, wm4, wq5, mq5⟩
    have AF : ∀ p, H p = none → ∀ b ∈ DA.all ⟨d, dx, na, ra, wa, ma, qa⟩ p, b = d ∨ H b = none := fun p hp b hb => by
      unfold DA.all at hb
      simp only [List.mem_cons, List.not_mem_nil, or_false] at hb
      rcases hb with rfl | rfl | rfl | rfl | rfl | rfl | rfl
      · exact .inl rfl
      · exact .inr a5
      · exact .inr b5
      · exact .inr c5
      · exact .inr d5
      · exact .inr e5
      · exact .inr hp
    have Ad : (⟨d, dx, na, ra, wa, ma, qa⟩ : DA).d = d := rfl
    generalize (⟨d, dx, na, ra, wa, ma, qa⟩ : DA) = A at D6 AO AF Ad
    clear a1 a2 a3 b1 b2 b3 c1 c2 c3 d1 d2 d3 e1 e2 e3 na4 ra4 na5 ra5 wa5 o1 o2 o3 o4 o5 o6
    -- the lines
    have C := rows_clean hz ok
    have st := steps_store (z := z) ok
    have K' := rowsK hz ok
    have lrows := rows_len (z := z) ok
    generalize rowsOf z s = rows at *
    refine ⟨_, rfl, rows, nl, rfl, C.1, C.2, hnl, fun la H7 g7 hla7 eL => ?_⟩
    have D7 := D6.ext g7.ext
    have gp7 : GP T [d] H H7 := e4.trans (.of g7)
    have laH : H la = none := e4.stay la hla7
    obtain ⟨mv6, m61, _⟩ := D6.md
    obtain ⟨qv6, q61, _⟩ := D6.rd
    have AL : ∀ p, la ≠ p → la ∉ A.all p := fun p hp hm => by
      unfold DA.all at hm
      simp only [List.mem_cons, List.not_mem_nil, or_false] at hm
      rcases hm with h | h | h | h | h | h | h
      · rw [h, D6.dn.ob] at hla7
        cases hla7
      · rw [h, D6.dn.nm] at hla7
        cases hla7
      · rw [h, D6.rm] at hla7
        cases hla7
      · rw [h, D6.nw] at hla7
        cases hla7
      · rw [h, m61] at hla7
        cases hla7
      · rw [h, q61] at hla7
        cases hla7
      · exact hp h
    have lL : (linesT rows).length = rows.length := by unfold linesT; rw [List.length_map]
    subst Ad
    refine ⟨_, rfl, la, _, rfl, SqL.of eL, for_it EN.walk_enum1 (fun i σ' H' => ∃ (v3 v4 : Option V) (a : DS), σ' = [some (.ref A.d), some (.str (textT rows nl)), some (.ref la), v3, v4] ∧ Steps z a (rows.drop i) ⟨.int (s.file : Int), s.nodes, s.mends, s.readers⟩ ∧ DraftAt CD CM H' A a.fv a.xs a.ms a.rs ∧ GP T [A.d] H H' ∧ H' la = some (.lst ((linesT rows).map V.str)))
      ⟨none, none, _, rfl, st, D7, gp7, eL⟩ (fun i σ' H' _ h => by obtain ⟨_, _, _, _, _, _, _, h⟩ := h; exact SqL.of h) ?_ ?_⟩
    · rintro i x σ' H8 H8' hi ⟨v3, v4, a, rfl, hst, D8, gp8, eL8⟩ hy
      obtain ⟨tp, x1, x2, rfl, htp, rfl, hx1, hx2⟩ := hy
      rw [List.length_map, lL] at hi
      have hx1 : V.int (1 + (i : Int)) = x1 := Option.some.inj hx1
      have hx2 : V.str (lineT rows[i]) = x2 := by
        have hx2 : ((linesT rows).map V.str)[i]? = some x2 := hx2
        unfold linesT at hx2
        rw [List.getElem?_map, List.getElem?_map, List.getElem?_eq_getElem hi] at hx2
        exact Option.some.inj hx2
      subst hx1 hx2
      have hmem := List.getElem_mem hi
      rw [List.drop_eq_getElem_cons hi] at hst
      generalize rows[i] = ws at hst hmem ⊢
      refine ⟨tp, _, rfl, SqT.of upd_same, rfl, _, _, rfl, _, _, rfl, rfl, ?_⟩
      have g9 : Gr T H8 (upd H8 tp (.tup [.int (1 + (i : Int)), .str (lineT ws)])) := Gr.new htp
      have D9 := D8.ext g9.ext
      have gp9 := gp8.trans (.of g9)
      have eL9 := g9.ext _ _ eL8 (fun _ z => by cases z)
      generalize upd H8 tp (.tup [.int (1 + (i : Int)), .str (lineT ws)]) = H9 at g9 D9 gp9 eL9 ⊢
      have kws := K' ws hmem
      have ll := lineT_len kws.wide (fun w hw => (kws.word w hw).2)
      obtain ⟨wh, wt, ewt, _⟩ := kws.hd
      refine ⟨_, rfl, A.d, A.dx, _, rfl, D9.dn.ob, (by kernel_rfl), _, rfl, _, rfl, fun x dx2 hx hdx nxd => ?_⟩
      refine ⟨x, dx2, 1 + i, ws, ?_, upd_same, by rw [ewt]; simp, fun w hw => (kws.word w hw).1, by omega, kws.wide, fun wa H10 hwa0 keep LA => ⟨rfl, ?_⟩⟩
      · rw [show ((1 + i : Nat) : Int) = 1 + (i : Int) by omega]
        rfl
      have g10 : Gr T H9 H10 := gr_line hx hdx hwa0 keep LA.ob LA.wd
      have D10 := D9.ext g10.ext
      have gp10 := gp9.trans (.of g10)
      have xH : H x = none := gp9.stay x hx
      have waH9 : H9 wa = none := by
        have nx : wa ≠ x := LA.ne
        rw [upd_ne nx] at hwa0
        by_cases h : wa = dx2
        · rw [h, upd_same] at hwa0
          cases hwa0
        · rw [upd_ne h] at hwa0
          exact hwa0
      obtain ⟨mv9, m91, _⟩ := D9.md
      obtain ⟨qv9, q91, _⟩ := D9.rd
      have WO : wa ∉ A.all x := fun hm => by
        unfold DA.all at hm
        simp only [List.mem_cons, List.not_mem_nil, or_false] at hm
        rcases hm with h | h | h | h | h | h | h
        · rw [h, D9.dn.ob] at waH9
          cases waH9
        · rw [h, D9.dn.nm] at waH9
          cases waH9
        · rw [h, D9.rm] at waH9
          cases waH9
        · rw [h, D9.nw] at waH9
          cases waH9
        · rw [h, m91] at waH9
          cases waH9
        · rw [h, q91] at waH9
          cases waH9
        · exact LA.ne h
      cases hst with
      | @cons a b c ws rest h t =>
      refine ⟨A, a.fv, b.fv, a.xs, b.xs, a.ms, b.ms, a.rs, b.rs, x, dx2, wa, 1 + i, ws, z, rfl, D10, AO, LA, WO, hz, h, gp10.tabs tb, fun H11 D11 gp11 => ?_⟩
      have nlx : la ≠ x := fun q => by rw [← q, eL9] at hx; cases hx
      refine ⟨_, _, b, rfl, t, D11, ?_, ?_⟩
      · have : ∀ y ∈ [A.d], y ∈ A.all x := fun y hy => by
          rw [List.mem_singleton.mp hy]
          unfold DA.all
          simp
        exact ((gp10.mono this).trans gp11).only (AF x xH)
      · exact gp11.ext _ _ (AL x nlx) (g10.ext _ _ eL9 (fun _ z => by cases z)) (fun _ z => by cases z)
    · rintro σ' H8 ⟨v3, v4, a, rfl, hst, D8, gp8, eL8⟩
      rw [List.length_map, lL, List.drop_length] at hst
      cases hst
      obtain ⟨qvs, q1, q2⟩ := D8.rd
      have lq := q2.length
      have rp := ok.rpos
      refine ⟨_, rfl, A.d, CD, A.dx, _, .ref A.qa, rfl, D8.dn.ob, D.cl, D.q, (by kernel_rfl), false, A.qa, _, rfl, q1, rfl, _, rfl, ?_⟩
      refine if_f (decide_eq_false (fun z => ?_)) (q A H8 rfl D8 gp8)
      injection z with z
      have : (qvs.length : Int) = 0 := z
      have : s.readers.length = qvs.length := lq.symm
      omega
end
end Z
set_option Elab.async false
set_option linter.all false
set_option maxRecDepth 100000
set_option maxHeartbeats 4000000
namespace Z
open PySem L2 PyProof.Rows ZX GX TL
/-! stores -/
structure StoreC (K : PySem.W.Frag) (C : Addr) : Prop where
  cl : Cls K C
  t : NoAttr K C "text"
  f : NoAttr K C "file"
  n : NoAttr K C "nodes"
  r : NoAttr K C "rooms"
  w : NoAttr K C "news"
  m : NoAttr K C "mends"
  q : NoAttr K C "readers"
abbrev s_Store (k : Nat) : Stmt := inClass (topS 18) k
theorem sc_S0 : FnScope ["self", "text", "draft"] ["self", "text"] (defScope (s_Store 0)) := ⟨rfl, rfl, rfl, by decide +kernel, rfl, by decide +kernel, by decide +kernel⟩
theorem sc_S1 : FnScope ["self", "name"] ["self", "name"] (defScope (s_Store 1)) := ⟨rfl, rfl, rfl, by decide +kernel, rfl, by decide +kernel, by decide +kernel⟩
theorem sc_S2 : FnScope ["self", "label", "mend"] ["self", "label"] (defScope (s_Store 2)) := ⟨rfl, rfl, rfl, by decide +kernel, rfl, by decide +kernel, by decide +kernel⟩
def storeF (text : Str) (file : Nat) (nt rt wt mt qt : Addr) : List (Str × V) := [("text", .str text), ("file", .int (file : Int)), ("nodes", .ref nt), ("rooms", .ref rt), ("news", .ref wt), ("mends", .ref mt), ("readers", .ref qt)]
structure SA where
  a : Addr
  dx : Addr
  nt : Addr
  rt : Addr
  wt : Addr
  mt : Addr
  qt : Addr
structure StoreAt (CS CM : Addr) (H : Hp) (B : SA) (s : StoreR) (text : Str) : Prop where
  ob : H B.a = some (.ins CS B.dx (storeF text s.file B.nt B.rt B.wt B.mt B.qt))
  nm : H B.nt = some (.tup (s.names.map V.str))
  rm : H B.rt = some (.tup (s.nodes.map fun x => V.int (x.room : Int)))
  nw : H B.wt = some (.tup ((newsOf s.nodes).map V.str))
  md : ∃ mvs, H B.mt = some (.tup mvs) ∧ All2 (MendO CM H) mvs s.mends
  rd : ∃ qvs, H B.qt = some (.tup qvs) ∧ All2 (PlT H) qvs s.readers
theorem StoreAt.ext {CS CM : Addr} {H H' : Hp} {B : SA} {s : StoreR} {text : Str} (x : Ext H H') (h : StoreAt CS CM H B s text) : StoreAt CS CM H' B s text := by
  obtain ⟨mvs, m1, m2⟩ := h.md
  obtain ⟨qvs, q1, q2⟩ := h.rd
  exact ⟨x _ _ h.ob (fun _ z => by cases z), x _ _ h.nm (fun _ z => by cases z), x _ _ h.rm (fun _ z => by cases z), x _ _ h.nw (fun _ z => by cases z), ⟨mvs, x _ _ m1 (fun _ z => by cases z), m2.mono fun _ _ => MendO.kt x.kt⟩, ⟨qvs, x _ _ q1 (fun _ z => by cases z), q2.mono fun _ _ => PlT.kt (CM := CM) x.kt⟩⟩
def spStoreInit (CS CM : Addr) (T : List Addr) : Sp := fun vs H Q _ => ∃ (x dx : Addr) (z nl : Str) (s : StoreR), vs = [.ref x, .str (textT (rowsOf z s) nl)] ∧ H x = some (.ins CS dx []) ∧ z ∈ zeros ∧ (nl = "" ∨ nl = "\n") ∧ StoreOk s ∧ Tabs T H ∧
  ∀ (B : SA) (H' : Hp), B.a = x → StoreAt CS CM H' B s (textT (rowsOf z s) nl) → GP T [x] H H' → Q .non H'
def spIsNew (CS CM : Addr) : Sp := fun vs H Q _ => ∃ (B : SA) (s : StoreR) (text x : Str), vs = [.ref B.a, .str x] ∧ StoreAt CS CM H B s text ∧ x ∈ s.names ∧ Q (.bl (decide (x ∈ newsOf s.nodes))) H
def spMendOf (CS CM : Addr) : Sp := fun vs H Q _ => ∃ (B : SA) (s : StoreR) (text : Str) (m : MendR), vs = [.ref B.a, .str m.label] ∧ StoreAt CS CM H B s text ∧ m ∈ s.mends ∧ (s.mends.map (·.label)).Nodup ∧ ∀ v, MendO CM H v m → Q v H
section
variable {P : Program} {w : World} {K : PySem.W.Frag} {mg : Str → Option Value} {base : Heap} {T : List Addr} {CS CD CM CL : Addr}
theorem ok_store_init {f : Addr} {fd : FuncData} (F : Fun K "__init__" "Store.__init__" (s_Store 0) f fd) (SC : StoreC K CS) (D : DraftC K mg CD) (nsm : CS ≠ CM) (nsd : CS ≠ CD) (bt : mg "tuple" = none) (DI : MkX P w K mg base "Draft" CD 7 ["self", "text"] (spDraftInit CD CM T)) :
    FnOk P w K mg base CX0 9 f fd ["self", "text"] (spStoreInit CS CM T) := by
  refine F.ok sc_S0 (fun vs H Q E h => ?_) (fun cdv Ar outer sh H vs Q E hr h => ?_)
  · obtain ⟨x, dx, z, nl, s, rfl, _⟩ := h
    rfl
  · obtain ⟨x, dx, z, nl, s, rfl, hx, hz, hnl, ok, tb, q⟩ := h
    have hr8 : Room 8 _ := hr.mono (by decide)
    refine ⟨_, (pss_cons (ps_set (i := 2) sc_S0.nd rfl (Or.inl rfl) (pe_mkx DI hr8 (pa_cons (pv 1) pa_nil)))
      (pss_cons (ps_fld (pv 0) (pv 1) rfl)
      (pss_cons (ps_fld (pv 0) (pe_fld (pv 2) rfl) rfl)
      (pss_cons (ps_fld (pv 0) (pe_callTy (call_tupK K) (by rfl) bt PySem.Pv.boot_tuple (pa_cons (pe_fld (pv 2) rfl) pa_nil)) rfl)
      (pss_cons (ps_fld (pv 0) (pe_callTy (call_tupK K) (by rfl) bt PySem.Pv.boot_tuple (pa_cons (pe_fld (pv 2) rfl) pa_nil)) rfl)
      (pss_cons (ps_fld (pv 0) (pe_callTy (call_tupK K) (by rfl) bt PySem.Pv.boot_tuple (pa_cons (pe_fld (pv 2) rfl) pa_nil)) rfl)
      (pss_cons (ps_fld (pv 0) (pe_callTy (call_tupK K) (by rfl) bt PySem.Pv.boot_tuple (pa_cons (pe_fld (pv 2) rfl) pa_nil)) rfl)
      (pss_one (ps_fld (pv 0) (pe_callTy (call_tupK K) (by rfl) bt PySem.Pv.boot_tuple (pa_cons (pe_fld (pv 2) rfl) pa_nil)) rfl))))))))), ?_⟩
    refine ⟨_, rfl, fun d ddx hd hddx nd => ?_⟩
    have nxd : x ≠ d := fun z => by rw [z, hd] at hx; cases hx
    have nxdd : x ≠ ddx := fun z => by rw [z, hddx] at hx; cases hx
    have g0 : Gr T H (upd (upd H ddx (.own d)) d (.ins CD ddx [])) := (Gr.new hddx).upd hd
    refine ⟨d, ddx, z, nl, s, rfl, upd_same, hz, hnl, ok, g0.tabs tb, fun A H1 hA D1 gp1 => ⟨rfl, ?_⟩⟩
    subst hA
    have gp1' : GP T [x] H H1 := by
      have : GP T [A.d] H H1 := (GP.of g0).trans gp1
      have := this.only (d := x) (fun q hq => .inr (by rw [List.mem_singleton.mp hq]; exact hd))
      exact this
    have hx1 : H1 x = some (.ins CS dx []) := gp1.ext _ _ (fun z => nxd (List.mem_singleton.mp z)) (by rw [upd_ne nxd, upd_ne nxdd]; exact hx) (fun _ z => by cases z)
    have in1 : x ∈ [x] := List.mem_singleton.mpr rfl
    -- fields are stored one after the other
    have step : ∀ {Hk : Hp} {fs fs' : List (Str × V)}, DraftAt CD CM Hk A (.int (s.file : Int)) s.nodes s.mends s.readers → GP T [x] H Hk → Hk x = some (.ins CS dx fs) → DraftAt CD CM (upd Hk x (.ins CS dx fs')) A (.int (s.file : Int)) s.nodes s.mends s.readers ∧ GP T [x] H (upd Hk x (.ins CS dx fs')) ∧ Kt CM Hk (upd Hk x (.ins CS dx fs')) := fun {Hk fs fs'} hD g e => by
      have kt : Kt CM Hk (upd Hk x (.ins CS dx fs')) := kt_put e (fun z => nsm z)
      have at_ : ∀ {b : Addr} {ys : List V}, Hk b = some (.lst ys) → (upd Hk x (.ins CS dx fs')) b = some (.lst ys) := fun {b ys} h => by
        rw [upd_ne]
        · exact h
        · intro z
          rw [z, e] at h
          cases h
      obtain ⟨mvs, m1, m2⟩ := hD.md
      obtain ⟨qvs, q1, q2⟩ := hD.rd
      have ndx : A.d ≠ x := fun z => by
        have := hD.dn.ob
        rw [z, e] at this
        injection this with this
        injection this with this
        exact nsd this
      exact ⟨⟨⟨by rw [upd_ne ndx]; exact hD.dn.ob, at_ hD.dn.nm⟩, at_ hD.rm, at_ hD.nw, ⟨mvs, at_ m1, m2.mono fun _ _ => MendO.kt kt⟩, ⟨qvs, at_ q1, q2.mono fun _ _ => PlT.kt kt⟩⟩, g.put in1 e (fun _ z => by cases z), kt⟩
    have neU : ∀ {Hk : Hp} {t : Addr} {fs : List (Str × V)} {ys : List V}, Hk x = some (.ins CS dx fs) → Hk t = some (.tup ys) → t ≠ x := fun {Hk t fs ys} e h z => by
      rw [z, e] at h
      cases h
    -- text
    obtain ⟨D2, gp2, _⟩ := step (fs' := putF "text" (.str (textT (rowsOf z s) nl)) []) D1 gp1' hx1
    refine ⟨_, rfl, _, rfl, x, CS, dx, _, rfl, hx1, SC.cl, SC.t, (by show 0 < 1000; decide), ?_⟩
    have e2 : (upd H1 x (.ins CS dx (putF "text" (.str (textT (rowsOf z s) nl)) []))) x = some (.ins CS dx (putF "text" (.str (textT (rowsOf z s) nl)) [])) := upd_same
    generalize upd H1 x (.ins CS dx (putF "text" (.str (textT (rowsOf z s) nl)) [])) = H2 at D2 gp2 e2 ⊢
    generalize hF2 : putF "text" (.str (textT (rowsOf z s) nl)) [] = F2 at e2
    have l2 : F2.length < 1000 := by rw [← hF2]; show 1 < 1000; decide
    -- file
    obtain ⟨D3, gp3, _⟩ := step (fs' := putF "file" (.int (s.file : Int)) F2) D2 gp2 e2
    refine ⟨_, rfl, A.d, CD, A.dx, _, .int (s.file : Int), rfl, D2.dn.ob, D.cl, D.f, (by kernel_rfl), _, rfl, x, CS, dx, _, rfl, e2, SC.cl, SC.f, l2, ?_⟩
    have e3 : (upd H2 x (.ins CS dx (putF "file" (.int (s.file : Int)) F2))) x = some (.ins CS dx (putF "file" (.int (s.file : Int)) F2)) := upd_same
    generalize upd H2 x (.ins CS dx (putF "file" (.int (s.file : Int)) F2)) = H3 at D3 gp3 e3 ⊢
    generalize hF3 : putF "file" (.int (s.file : Int)) F2 = F3 at e3
    have l3 : F3.length < 1000 := by rw [← hF3, ← hF2]; exact (by decide : 2 < 1000)
    -- nodes
    refine ⟨_, rfl, A.d, CD, A.dx, _, .ref A.na, rfl, D3.dn.ob, D.cl, D.n, (by kernel_rfl), A.na, _, rfl, .inl ⟨SqL.of D3.dn.nm, fun nt hnt => ?_⟩⟩
    have gn : Gr T H3 (upd H3 nt (.tup ((namesOf s.nodes).map V.str))) := Gr.new hnt
    have e3' := gn.ext _ _ e3 (fun _ z => by cases z)
    have ent : (upd H3 nt (.tup ((namesOf s.nodes).map V.str))) nt = some (.tup ((namesOf s.nodes).map V.str)) := upd_same
    have D3' := D3.ext gn.ext
    have gp3' := gp3.trans (.of gn)
    generalize upd H3 nt (.tup ((namesOf s.nodes).map V.str)) = H3' at e3' ent D3' gp3' ⊢
    obtain ⟨D4, gp4, kt4⟩ := step (fs' := putF "nodes" (.ref nt) F3) D3' gp3' e3'
    refine ⟨_, rfl, x, CS, dx, _, rfl, e3', SC.cl, SC.n, l3, ?_⟩
    have e4 : (upd H3' x (.ins CS dx (putF "nodes" (.ref nt) F3))) x = some (.ins CS dx (putF "nodes" (.ref nt) F3)) := upd_same
    have ent4 := kt4 _ _ ent True.intro
    generalize upd H3' x (.ins CS dx (putF "nodes" (.ref nt) F3)) = H4 at D4 gp4 e4 ent4 ⊢
    generalize hF4 : putF "nodes" (.ref nt) F3 = F4 at e4
    have l4 : F4.length < 1000 := by rw [← hF4, ← hF3, ← hF2]; exact (by decide : 3 < 1000)
    -- rooms
    refine ⟨_, rfl, A.d, CD, A.dx, _, .ref A.ra, rfl, D4.dn.ob, D.cl, D.r, (by kernel_rfl), A.ra, _, rfl, .inl ⟨SqL.of D4.rm, fun rt hrt => ?_⟩⟩
    have gr : Gr T H4 (upd H4 rt (.tup (s.nodes.map fun x => V.int (x.room : Int)))) := Gr.new hrt
    have e4' := gr.ext _ _ e4 (fun _ z => by cases z)
    have ert : (upd H4 rt (.tup (s.nodes.map fun x => V.int (x.room : Int)))) rt = some (.tup (s.nodes.map fun x => V.int (x.room : Int))) := upd_same
    have D4' := D4.ext gr.ext
    have gp4' := gp4.trans (.of gr)
    have ent4' := gr.ext _ _ ent4 (fun _ z => by cases z)
    generalize upd H4 rt (.tup (s.nodes.map fun x => V.int (x.room : Int))) = H4' at e4' ert D4' gp4' ent4' ⊢
    obtain ⟨D5, gp5, kt5⟩ := step (fs' := putF "rooms" (.ref rt) F4) D4' gp4' e4'
    refine ⟨_, rfl, x, CS, dx, _, rfl, e4', SC.cl, SC.r, l4, ?_⟩
    have e5 : (upd H4' x (.ins CS dx (putF "rooms" (.ref rt) F4))) x = some (.ins CS dx (putF "rooms" (.ref rt) F4)) := upd_same
    have ent5 := kt5 _ _ ent4' True.intro
    have ert5 := kt5 _ _ ert True.intro
    generalize upd H4' x (.ins CS dx (putF "rooms" (.ref rt) F4)) = H5 at D5 gp5 e5 ent5 ert5 ⊢
    generalize hF5 : putF "rooms" (.ref rt) F4 = F5 at e5
    have l5 : F5.length < 1000 := by rw [← hF5, ← hF4, ← hF3, ← hF2]; exact (by decide : 4 < 1000)
    -- news
    refine ⟨_, rfl, A.d, CD, A.dx, _, .ref A.wa, rfl, D5.dn.ob, D.cl, D.w, (by kernel_rfl), A.wa, _, rfl, .inl ⟨SqL.of D5.nw, fun wt hwt => ?_⟩⟩
    have gw : Gr T H5 (upd H5 wt (.tup ((newsOf s.nodes).map V.str))) := Gr.new hwt
    have e5' := gw.ext _ _ e5 (fun _ z => by cases z)
    have ewt : (upd H5 wt (.tup ((newsOf s.nodes).map V.str))) wt = some (.tup ((newsOf s.nodes).map V.str)) := upd_same
    have D5' := D5.ext gw.ext
    have gp5' := gp5.trans (.of gw)
    have ent5' := gw.ext _ _ ent5 (fun _ z => by cases z)
    have ert5' := gw.ext _ _ ert5 (fun _ z => by cases z)
    generalize upd H5 wt (.tup ((newsOf s.nodes).map V.str)) = H5' at e5' ewt D5' gp5' ent5' ert5' ⊢
    obtain ⟨D6, gp6, kt6⟩ := step (fs' := putF "news" (.ref wt) F5) D5' gp5' e5'
    refine ⟨_, rfl, x, CS, dx, _, rfl, e5', SC.cl, SC.w, l5, ?_⟩
    have e6 : (upd H5' x (.ins CS dx (putF "news" (.ref wt) F5))) x = some (.ins CS dx (putF "news" (.ref wt) F5)) := upd_same
    have ent6 := kt6 _ _ ent5' True.intro
    have ert6 := kt6 _ _ ert5' True.intro
    have ewt6 := kt6 _ _ ewt True.intro
    generalize upd H5' x (.ins CS dx (putF "news" (.ref wt) F5)) = H6 at D6 gp6 e6 ent6 ert6 ewt6 ⊢
    generalize hF6 : putF "news" (.ref wt) F5 = F6 at e6
    have l6 : F6.length < 1000 := by rw [← hF6, ← hF5, ← hF4, ← hF3, ← hF2]; exact (by decide : 5 < 1000)
    -- mends
    obtain ⟨mvs, m1, m2⟩ := D6.md
    refine ⟨_, rfl, A.d, CD, A.dx, _, .ref A.ma, rfl, D6.dn.ob, D.cl, D.m, (by kernel_rfl), A.ma, _, rfl, .inl ⟨SqL.of m1, fun mt hmt => ?_⟩⟩
    have gm : Gr T H6 (upd H6 mt (.tup mvs)) := Gr.new hmt
    have e6' := gm.ext _ _ e6 (fun _ z => by cases z)
    have emt : (upd H6 mt (.tup mvs)) mt = some (.tup mvs) := upd_same
    have D6' := D6.ext gm.ext
    have gp6' := gp6.trans (.of gm)
    have ent6' := gm.ext _ _ ent6 (fun _ z => by cases z)
    have ert6' := gm.ext _ _ ert6 (fun _ z => by cases z)
    have ewt6' := gm.ext _ _ ewt6 (fun _ z => by cases z)
    have mo6 := m2.mono fun _ _ (h : MendO CM H6 _ _) => h.kt (gm.ext.kt (CM := CM))
    generalize upd H6 mt (.tup mvs) = H6' at e6' emt D6' gp6' ent6' ert6' ewt6' mo6 ⊢
    obtain ⟨D7, gp7, kt7⟩ := step (fs' := putF "mends" (.ref mt) F6) D6' gp6' e6'
    refine ⟨_, rfl, x, CS, dx, _, rfl, e6', SC.cl, SC.m, l6, ?_⟩
    have e7 : (upd H6' x (.ins CS dx (putF "mends" (.ref mt) F6))) x = some (.ins CS dx (putF "mends" (.ref mt) F6)) := upd_same
    have ent7 := kt7 _ _ ent6' True.intro
    have ert7 := kt7 _ _ ert6' True.intro
    have ewt7 := kt7 _ _ ewt6' True.intro
    have emt7 := kt7 _ _ emt True.intro
    have mo7 := mo6.mono fun _ _ (h : MendO CM H6' _ _) => h.kt kt7
    generalize upd H6' x (.ins CS dx (putF "mends" (.ref mt) F6)) = H7 at D7 gp7 e7 ent7 ert7 ewt7 emt7 mo7 ⊢
    generalize hF7 : putF "mends" (.ref mt) F6 = F7 at e7
    have l7 : F7.length < 1000 := by rw [← hF7, ← hF6, ← hF5, ← hF4, ← hF3, ← hF2]; exact (by decide : 6 < 1000)
    -- readers
    obtain ⟨qvs, q1, q2⟩ := D7.rd
    refine ⟨_, rfl, A.d, CD, A.dx, _, .ref A.qa, rfl, D7.dn.ob, D.cl, D.q, (by kernel_rfl), A.qa, _, rfl, .inl ⟨SqL.of q1, fun qt hqt => ?_⟩⟩
    have gq : Gr T H7 (upd H7 qt (.tup qvs)) := Gr.new hqt
    have e7' := gq.ext _ _ e7 (fun _ z => by cases z)
    have eqt : (upd H7 qt (.tup qvs)) qt = some (.tup qvs) := upd_same
    have D7' := D7.ext gq.ext
    have gp7' := gp7.trans (.of gq)
    have ent7' := gq.ext _ _ ent7 (fun _ z => by cases z)
    have ert7' := gq.ext _ _ ert7 (fun _ z => by cases z)
    have ewt7' := gq.ext _ _ ewt7 (fun _ z => by cases z)
    have emt7' := gq.ext _ _ emt7 (fun _ z => by cases z)
    have mo7' := mo7.mono fun _ _ (h : MendO CM H7 _ _) => h.kt (gq.ext.kt (CM := CM))
    have pl7 := q2.mono fun _ _ (h : PlT H7 _ _) => h.kt (gq.ext.kt (CM := CM))
    generalize upd H7 qt (.tup qvs) = H7' at e7' eqt D7' gp7' ent7' ert7' ewt7' emt7' mo7' pl7 ⊢
    obtain ⟨D8, gp8, kt8⟩ := step (fs' := putF "readers" (.ref qt) F7) D7' gp7' e7'
    refine ⟨_, rfl, x, CS, dx, _, rfl, e7', SC.cl, SC.q, l7, ?_⟩
    refine q ⟨x, dx, nt, rt, wt, mt, qt⟩ _ rfl ⟨?_, kt8 _ _ ent7' True.intro, kt8 _ _ ert7' True.intro, kt8 _ _ ewt7' True.intro, ⟨mvs, kt8 _ _ emt7' True.intro, mo7'.mono fun _ _ h => h.kt kt8⟩, ⟨qvs, kt8 _ _ eqt True.intro, pl7.mono fun _ _ h => h.kt kt8⟩⟩ gp8
    rw [upd_same, ← hF7, ← hF6, ← hF5, ← hF4, ← hF3, ← hF2]
    show some (HO.ins CS dx _) = some (HO.ins CS dx (storeF (textT (rowsOf z s) nl) s.file nt rt wt mt qt))
    rw [show putF "readers" (.ref qt) (putF "mends" (.ref mt) (putF "news" (.ref wt) (putF "rooms" (.ref rt) (putF "nodes" (.ref nt) (putF "file" (.int (s.file : Int)) (putF "text" (.str (textT (rowsOf z s) nl)) [])))))) = storeF (textT (rowsOf z s) nl) s.file nt rt wt mt qt by kernel_rfl]
theorem ok_is_new {f : Addr} {fd : FuncData} (F : Fun K "is_new" "Store.is_new" (s_Store 1) f fd) (SC : StoreC K CS) (bI : mg "isinstance" = none) (bs : mg "str" = none) : FnOk P w K mg base CX0 1 f fd ["self", "name"] (spIsNew CS CM) := by
  refine F.ok sc_S1 (fun vs H Q E h => ?_) (fun cdv Ar outer sh H vs Q E hr h => ?_)
  · obtain ⟨B, s, text, x, rfl, _⟩ := h
    rfl
  · obtain ⟨B, s, text, x, rfl, hS, hin, q⟩ := h
    refine ⟨_, (pss_cons (ps_if (pt_not (pt_val (pe_callB call_isi (by rfl) bI (by decide +kernel) (pa_cons (pv 1) (pa_cons (pe_bltn (v := .ty "str") (by rfl) bs (by decide +kernel) rfl) pa_nil))))) (pss_one ps_never) pss_nil)
      (pss_cons (ps_if (pt_cmpR op_notIn_seq (pv 1) (pe_fld (pv 0) rfl) rfl) (pss_one ps_never) pss_nil)
      (pss_one (ps_ret (pe_cmpR op_in_seq (pv 1) (pe_fld (pv 0) rfl) rfl))))), ?_⟩
    refine ⟨_, rfl, _, .ty "str", _, _, true, rfl, .ty _, .base (.str _), kit_ty (show kitB "str" "str" = some true by decide +kernel), true, rfl, iteF ?_⟩
    refine ⟨_, rfl, _, rfl, B.a, CS, B.dx, _, .ref B.nt, rfl, hS.ob, SC.cl, SC.n, (by kernel_rfl), B.nt, _, rfl, .inr (SqT.of hS.nm), rfl, flat_strs _, _, rfl, ?_⟩
    rw [inV_str]
    refine if_f (by simp [hin]) ?_
    refine ⟨_, rfl, _, rfl, B.a, CS, B.dx, _, .ref B.wt, rfl, hS.ob, SC.cl, SC.w, (by kernel_rfl), B.wt, _, rfl, .inr (SqT.of hS.nw), rfl, flat_strs _, ?_⟩
    rw [inV_str]
    exact q
theorem ok_mend_of {f : Addr} {fd : FuncData} (F : Fun K "mend_of" "Store.mend_of" (s_Store 2) f fd) (SC : StoreC K CS) (M : MendC K CM) (bI : mg "isinstance" = none) (bs : mg "str" = none) : FnOk P w K mg base CX0 1 f fd ["self", "label"] (spMendOf CS CM) := by
  refine F.ok sc_S2 (fun vs H Q E h => ?_) (fun cdv Ar outer sh H vs Q E hr h => ?_)
  · obtain ⟨B, s, text, m, rfl, _⟩ := h
    rfl
  · obtain ⟨B, s, text, m, rfl, hS, hin, nd, q⟩ := h
    refine ⟨_, (pss_cons (ps_if (pt_not (pt_val (pe_callB call_isi (by rfl) bI (by decide +kernel) (pa_cons (pv 1) (pa_cons (pe_bltn (v := .ty "str") (by rfl) bs (by decide +kernel) rfl) pa_nil))))) (pss_one ps_never) pss_nil)
      (pss_cons (ps_for PassesOwn.never rfl (pi_sqK K (pe_fld (pv 0) rfl)) (pg_name (i := 2) sc_S2.nd rfl (Or.inl rfl))
        (pss_one (ps_if (pt_cmpR op_eq (pe_fld (pv 2) rfl) (pv 1) (nomark _)) (pss_one (ps_ret (pv 2))) pss_nil)))
      (pss_one ps_never))), ?_⟩
    obtain ⟨mvs, m1, m2⟩ := hS.md
    refine ⟨_, rfl, _, .ty "str", _, _, true, rfl, .ty _, .base (.str _), kit_ty (show kitB "str" "str" = some true by decide +kernel), true, rfl, iteF ?_⟩
    refine ⟨_, rfl, B.a, CS, B.dx, _, .ref B.mt, rfl, hS.ob, SC.cl, SC.m, (by kernel_rfl), B.mt, mvs, true, rfl, sqT m1, for_it walk_sq (fun i σ' H' => H' = H ∧ (∃ v2 : Option V, σ' = [some (.ref B.a), some (.str m.label), v2]) ∧ ∀ m' ∈ s.mends.take i, m'.label ≠ m.label) ⟨rfl, ⟨none, rfl⟩, fun _ h => by simp at h⟩ (fun i σ' H' _ h => by rw [h.1]; exact sqT m1) ?_ ?_⟩
    · rintro i x σ' H2 H3 hi ⟨rfl, ⟨v2, rfl⟩, no⟩ ⟨rfl, hx⟩
      obtain ⟨m', hm', hMO⟩ := m2.get hx
      obtain ⟨a, dx, nt, ht, av, rfl, e1, e2⟩ := id hMO
      refine ⟨_, rfl, a, CM, dx, _, .str m'.label, rfl, e1, M.cl, M.l, (by kernel_rfl), _, rfl, rfl, _, rfl, ?_⟩
      refine ite2 (fun h => ?_) (fun h => ?_)
      · have h : m'.label = m.label := by
          have := of_decide_eq_true h
          injection this with this
        have : m' = m := by
          obtain ⟨i1, h1, e1⟩ := List.getElem_of_mem (List.mem_of_getElem? hm')
          obtain ⟨i2, h2, e2⟩ := List.getElem_of_mem hin
          have := (List.getElem_inj (xs := s.mends.map (·.label)) (h₀ := by rw [List.length_map]; exact h1) (h₁ := by rw [List.length_map]; exact h2) nd (i := i1) (j := i2)).mp (by rw [List.getElem_map, List.getElem_map, e1, e2, h])
          subst this
          rw [← e1, ← e2]
        subst this
        exact ⟨_, rfl, q _ hMO⟩
      · have h : m'.label ≠ m.label := fun z => h (by rw [z]; exact decide_eq_true rfl)
        refine ⟨rfl, ⟨_, rfl⟩, fun y hy => ?_⟩
        rw [take_snoc hm'] at hy
        rcases List.mem_append.mp hy with z | z
        · exact no y z
        · rw [List.mem_singleton.mp z]
          exact h
    · rintro σ' H2 ⟨rfl, ⟨v2, rfl⟩, no⟩
      rw [m2.length, List.take_length] at no
      exact (no m hin rfl).elim
end
end Z
set_option Elab.async false
set_option linter.all false
set_option maxRecDepth 100000
set_option maxHeartbeats 4000000
namespace Z
open PySem L2 PyProof.Rows ZX GX TL
/-! stores written -/
abbrev s_w_items : Stmt := topS 25
abbrev s_w_mend : Stmt := topS 24
abbrev N_w_items : List Str := ["row", "name", "number"]
abbrev N_w_mend : List Str := ["mend", "sent", "row"]
theorem sc_w_items : FnScope N_w_items ["row"] (defScope s_w_items) := ⟨rfl, rfl, rfl, by decide +kernel, rfl, by decide +kernel, by decide +kernel⟩
theorem sc_w_mend : FnScope N_w_mend ["mend"] (defScope s_w_mend) := ⟨rfl, rfl, rfl, by decide +kernel, rfl, by decide +kernel, by decide +kernel⟩
def plOf (row : List Item) : List Place := row.map fun it => (it.1, some it.2)
theorem placeW_pl (z : Str) (row : List Item) : (plOf row).map (placeW z) = row.map (itemW z) := by
  unfold plOf
  rw [List.map_map]
  rfl
def PlOk (r : List Place) : Prop := r.length ≤ 7 ∧ (∀ it ∈ r, it.1.length ≤ 12) ∧ ∀ it ∈ r, ∀ k, it.2 = some k → k ≤ 40
def spWItems (T : List Addr) : Sp := fun vs H Q _ => ∃ (v : V) (r : List Place), vs = [v] ∧ PlT H v r ∧ PlOk r ∧ ∀ H', Gr T H H' → Q (.str (lineT (r.map (placeW "")))) H'
theorem placeW_len {r : List Place} (ok : PlOk r) {it : Place} (h : it ∈ r) : (placeW "" it).length ≤ 20 := by
  have h1 := ok.2.1 it h
  have h2 := ok.2.2 it h
  obtain ⟨nm, li⟩ := it
  cases li with
  | none => exact Nat.le_trans h1 (by decide)
  | some k =>
    have l2 := (zf_W nil_zeros (h2 k rfl)).len'
    show (nm ++ ":" ++ zf "" k).length ≤ 20
    rw [app_len, app_len, colon_len]
    have h1 : nm.length ≤ 12 := h1
    omega
theorem items_len {r : List Place} (ok : PlOk r) : ((r.map (placeW "")).map (·.length)).sum + (r.map (placeW "")).length * (" " : Str).length ≤ 1000 ∧ (lineT (r.map (placeW ""))).length ≤ 1000 := by
  have a := tjoin_len " " (r.map (placeW ""))
  have b := sum_le (fun w : Str => w.length) 20 (r.map (placeW "")) (fun w hw => by
    obtain ⟨it, hit, rfl⟩ := List.mem_map.mp hw
    exact placeW_len ok hit)
  have c : (" " : Str).length = 1 := by decide +kernel
  rw [List.length_map] at a b ⊢
  have d := ok.1
  rw [c] at a ⊢
  unfold lineT
  omega
section
variable {P : Program} {w : World} {K : PySem.W.Frag} {mg : Str → Option Value} {base : Heap} {T : List Addr} {CS CD CM CL : Addr}
theorem ok_w_items {f : Addr} {fd : FuncData} (F : Fun K "written_items" "written_items" s_w_items f fd) : FnOk P w K mg base CX0 1 f fd ["row"] (spWItems T) := by
  refine F.ok sc_w_items (fun vs H Q E h => ?_) (fun cdv A outer s H vs Q E hr h => ?_)
  · obtain ⟨v, r, rfl, _⟩ := h
    rfl
  · obtain ⟨v, r, rfl, ⟨a, vs, rfl, ea, hA⟩, ok, k⟩ := h
    refine ⟨_, (pss_one (ps_ret (pe_joinK K pe_str (pe_lc (own := [("name", 1), ("number", 2)]) (g := gTup K 2 (gCons (gName 1) (gCons (gName 2) gNil))) (tt := tYes) rfl sc_w_items.nd (pi_sqK K (pv 0)) (blkOk_by (own := [("name", 1), ("number", 2)]) (N := N_w_items) (sc := defScope s_w_items) (by decide +kernel))
      (fun _ _ _ _ _ => pg_tup rfl (pgs_cons (pg_name (i := 1) sc_w_items.nd rfl (Or.inl rfl)) (pgs_cons (pg_name (i := 2) sc_w_items.nd rfl (Or.inl rfl)) pgs_nil))) (fun _ _ _ _ _ => pts_nil)
      (fun _ _ _ _ _ => pe_ifExp (pt_cmpR op_isN (pv 2) pe_non (nomark _)) (pv 1) (pe_joined (.cons (pe_fmt (pv 1)) (.cons pe_str (.cons (pe_fmt (pv 2)) .nil))))))))), ?_⟩
    have big : ∀ {m : Nat}, m ≤ 1000 → m ≤ sizeLine := fun h => Nat.le_of_lt (lsz h)
    have lvs := hA.length
    have L := items_len ok
    refine ⟨⟨_, rfl⟩, _, rfl, a, vs, true, rfl, sqT ea, fun D hD => lc_map (T := T) (r.map (placeW "")) StrV walk_sq (by rw [List.length_map, lvs]) (lsz (by have := ok.1; omega)) hD (sqT ea) Ext.sqof (fun _ _ _ _ _ h => h) ?_ ?_⟩
    · rintro j y b H4 H5 Qc Nx hj ⟨rfl, hy⟩ hF g4 hacc kc
      obtain ⟨it, hit, tp, rfl, etp⟩ := hA.get hy
      rw [List.getElem?_map, hit] at hF
      have hF : placeW "" it = b := Option.some.inj hF
      subst hF
      have hitm := List.mem_of_getElem? hit
      have l1 := ok.2.1 it hitm
      have et := g4.ext _ _ etp (fun _ z => by cases z)
      refine ⟨tp, _, rfl, SqT.of et, rfl, _, _, rfl, _, _, rfl, rfl, rfl, ?_⟩
      dsimp only [tYes]
      refine iteT ?_
      have lim := ok.2.2 it hitm
      obtain ⟨nm, li⟩ := it
      cases li with
      | none =>
        refine ⟨_, rfl, rfl, _, rfl, if_t (decide_eq_true rfl) ?_⟩
        exact ⟨_, rfl, kc _ _ (.refl T _) rfl⟩
      | some k =>
        have hk := lim k rfl
        have l1 : nm.length ≤ 12 := l1
        refine ⟨_, rfl, rfl, _, rfl, if_f (decide_eq_false (fun z => by cases z)) ?_⟩
        have e1 : Str.empty ++ nm = nm := ext_tl (by rw [tl_append]; rfl)
        refine ⟨_, rfl, .inl ⟨nm, rfl, big (by omega), nm, rfl, by rw [e1]; exact big (by omega), ":", rfl, by rw [e1, app_len, colon_len]; exact big (by omega), _, rfl, .inr ⟨_, rfl, log_small (by omega), numS k, rfl, ?_, ?_⟩⟩⟩
        · rw [e1, app_len, app_len, colon_len]
          have := numS_le hk
          exact big (by omega)
        · rw [e1, ← zf_nil hk]
          exact kc _ _ (.refl T _) rfl
    · intro H4 ys hD4 hA4 g4
      rw [all_str hA4] at hD4
      exact ⟨" ", D, _, rfl, rfl, .inl (SqL.of hD4), Nat.le_trans L.1 (by decide), k H4 g4⟩
end
end Z
set_option Elab.async false
set_option linter.all false
set_option maxRecDepth 100000
set_option maxHeartbeats 4000000
namespace Z
open PySem L2 PyProof.Rows ZX GX TL
/-! mends written -/
theorem joinL_app (S : List Nat) : ∀ {us ws : List (List Nat)}, us ≠ [] → ws ≠ [] → joinL S (us ++ ws) = joinL S us ++ (S ++ joinL S ws)
  | [], _, h, _ => (h rfl).elim
  | [u], [], _, h => (h rfl).elim
  | [u], w :: ws, _, _ => rfl
  | u :: v :: r, ws, _, h => by
    have := joinL_app S (us := v :: r) (ws := ws) (by simp) h
    show u ++ (S ++ joinL S ((v :: r) ++ ws)) = (u ++ (S ++ joinL S (v :: r))) ++ (S ++ joinL S ws)
    rw [this]
    simp only [List.append_assoc]
theorem lineT_app {us ws : List Str} (h : us ≠ []) (h2 : ws ≠ []) : tl (lineT (us ++ ws)) = tl (lineT us) ++ (tl (" " : Str) ++ tl (lineT ws)) := by
  unfold lineT
  rw [tl_tjoin, tl_tjoin, tl_tjoin, List.map_append]
  exact joinL_app _ (by simpa using h) (by simpa using h2)
structure MendSm (m : MendR) : Prop where
  lb : m.label.length ≤ 12
  nd : ∀ x ∈ m.nodes, x.length ≤ 12
  rows : ∀ r ∈ m.rows, 1 ≤ r.length ∧ r.length ≤ 6 ∧ PlOk (plOf r)
  two : ∀ o c r, m.two = some (o, c, r) → c ≤ 40
def LinksV (H : Hp) (u : V) (rows : List (List Item)) : Prop := ∃ a vs, u = .ref a ∧ H a = some (.tup vs) ∧ All2 (PlT H) vs (rows.map plOf)
def spLinksOf (CM : Addr) (T : List Addr) : Sp := fun vs H Q _ => ∃ (v : V) (m : MendR), vs = [v] ∧ MendO CM H v m ∧ MendSm m ∧ Tabs T H ∧ ∀ (u : V) (H' : Hp), Gr T H H' → LinksV H' u m.rows → Q u H'
def spWMend (CM : Addr) (T : List Addr) : Sp := fun vs H Q _ => ∃ (v : V) (m : MendR), vs = [v] ∧ MendO CM H v m ∧ MendSm m ∧ Tabs T H ∧ ∀ (H' : Hp), Gr T H H' → Q (.str (lineT (mendL "" m))) H'
theorem nil_app (a : Str) : Str.empty ++ a = a := ext_tl (by rw [tl_append]; rfl)
theorem tl_tail {u : List Nat} {a : Str} (h : tl a = u) : tl a = u := h
/-- what comes behind from -/
def sentT (m : MendR) : Str := Txt.join " and " (m.rows.map fun r => lineT (r.map (itemW "")))
theorem rows_sent {m : MendR} (ok : MendSm m) : ((m.rows.map fun r => lineT (r.map (itemW ""))).map (·.length)).sum + (m.rows.map fun r => lineT (r.map (itemW ""))).length * (" and " : Str).length ≤ 5000 ∧ (sentT m).length ≤ 5000 := by
  have a := tjoin_len " and " (m.rows.map fun r => lineT (r.map (itemW "")))
  have b := sum_le (fun w : Str => w.length) 1000 (m.rows.map fun r => lineT (r.map (itemW ""))) (fun w hw => by
    obtain ⟨r, hr, rfl⟩ := List.mem_map.mp hw
    have := (items_len (ok.rows r hr).2.2).2
    rw [placeW_pl] at this
    exact this)
  have c : (" and " : Str).length = 5 := by decide +kernel
  have l : m.rows.length ≤ 2 := by
    unfold MendR.rows
    split
    · exact (by decide : 1 ≤ 2)
    · exact Nat.le_refl 2
  rw [List.length_map] at a b ⊢
  rw [c] at a ⊢
  unfold sentT
  omega
theorem mend_one {label node : Str} {row : List Item} (h : 1 ≤ row.length) : ("mend " : Str) ++ label ++ " " ++ node ++ " from " ++ sentT ⟨label, node, row, none⟩ = lineT (mendL "" ⟨label, node, row, none⟩) := by
  refine ext_tl ?_
  have ne : row.map (itemW "") ≠ [] := fun z => by
    have := congrArg List.length z
    rw [List.length_map] at this
    rw [List.length_nil] at this
    omega
  show _ = tl (lineT (([("mend" : Str), label, node, "from"] : List Str) ++ row.map (itemW "")))
  rw [lineT_app (by simp) ne]
  have e : sentT ⟨label, node, row, none⟩ = lineT (row.map (itemW "")) := by
    refine ext_tl ?_
    unfold sentT
    rw [tl_tjoin]
    rfl
  rw [e, tl_append, tl_append, tl_append, tl_append, tl_append]
  have e1 : tl ("mend " : Str) = tl ("mend" : Str) ++ tl (" " : Str) := by decide +kernel
  have e2 : tl (" from " : Str) = tl (" " : Str) ++ (tl ("from" : Str) ++ tl (" " : Str)) := by decide +kernel
  have e3 : tl (lineT [("mend" : Str), label, node, "from"]) = tl ("mend" : Str) ++ (tl (" " : Str) ++ (tl label ++ (tl (" " : Str) ++ (tl node ++ (tl (" " : Str) ++ tl ("from" : Str)))))) := by
    unfold lineT
    rw [tl_tjoin]
    rfl
  rw [e1, e2, e3]
  simp only [List.append_assoc]
theorem mend_two {label node o : Str} {c : Nat} {row r : List Item} (h : 1 ≤ row.length) (h2 : 1 ≤ r.length) (hc : c ≤ 40) :
    ("pair " : Str) ++ label ++ " " ++ node ++ " " ++ o ++ " swap " ++ numS c ++ " from " ++ sentT ⟨label, node, row, some (o, c, r)⟩ = lineT (mendL "" ⟨label, node, row, some (o, c, r)⟩) := by
  refine ext_tl ?_
  have ne : ∀ {q : List Item}, 1 ≤ q.length → q.map (itemW "") ≠ [] := fun {q} h z => by
    have := congrArg List.length z
    rw [List.length_map] at this
    rw [List.length_nil] at this
    omega
  show _ = tl (lineT (([("pair" : Str), label, node, o, "swap", zf "" c, "from"] : List Str) ++ row.map (itemW "") ++ ([("and" : Str)] : List Str) ++ r.map (itemW "")))
  rw [lineT_app (by simp) (ne h2), lineT_app (by simp) (by simp), lineT_app (by simp) (ne h)]
  have e : tl (sentT ⟨label, node, row, some (o, c, r)⟩) = tl (lineT (row.map (itemW ""))) ++ (tl (" and " : Str) ++ tl (lineT (r.map (itemW "")))) := by
    unfold sentT
    rw [tl_tjoin]
    rfl
  rw [tl_append, tl_append, tl_append, tl_append, tl_append, tl_append, tl_append, tl_append, tl_append, e]
  have e1 : tl ("pair " : Str) = tl ("pair" : Str) ++ tl (" " : Str) := by decide +kernel
  have e2 : tl (" from " : Str) = tl (" " : Str) ++ (tl ("from" : Str) ++ tl (" " : Str)) := by decide +kernel
  have e4 : tl (" swap " : Str) = tl (" " : Str) ++ (tl ("swap" : Str) ++ tl (" " : Str)) := by decide +kernel
  have e5 : tl (" and " : Str) = tl (" " : Str) ++ (tl ("and" : Str) ++ tl (" " : Str)) := by decide +kernel
  have e6 : tl (lineT [("and" : Str)]) = tl ("and" : Str) := by
    unfold lineT
    rw [tl_tjoin]
    rfl
  have e3 : tl (lineT [("pair" : Str), label, node, o, "swap", zf "" c, "from"]) = tl ("pair" : Str) ++ (tl (" " : Str) ++ (tl label ++ (tl (" " : Str) ++ (tl node ++ (tl (" " : Str) ++ (tl o ++ (tl (" " : Str) ++ (tl ("swap" : Str) ++ (tl (" " : Str) ++ (tl (numS c) ++ (tl (" " : Str) ++ tl ("from" : Str)))))))))))) := by
    unfold lineT
    rw [tl_tjoin, zf_nil hc]
    rfl
  rw [e1, e2, e3, e4, e5, e6]
  simp only [List.append_assoc]
section
variable {P : Program} {w : World} {K : PySem.W.Frag} {mg : Str → Option Value} {base : Heap} {T : List Addr} {CS CD CM CL : Addr}
theorem ok_w_mend {f : Addr} {fd : FuncData} (F : Fun K "written_mend" "written_mend" s_w_mend f fd) (M : MendC K CM) (LO : Fx P w K mg base "links_of" 4 ["mend"] (spLinksOf CM T)) (WI : Fx P w K mg base "written_items" 1 ["row"] (spWItems T)) : FnOk P w K mg base CX0 5 f fd ["mend"] (spWMend CM T) := by
  refine F.ok sc_w_mend (fun vs H Q E h => ?_) (fun cdv A outer s H vs Q E hr h => ?_)
  · obtain ⟨v, m, rfl, _⟩ := h
    rfl
  · obtain ⟨v, m, rfl, hM, ok, tb, k⟩ := h
    have hr1 : Room 1 _ := hr.mono (by decide)
    refine ⟨_, (pss_cons (ps_set (i := 1) sc_w_mend.nd rfl (Or.inl rfl) (pe_joinK K pe_str (pe_lc (own := [("row", 2)]) (g := gName 2) (tt := tYes) rfl sc_w_mend.nd (pi_sqK K (pe_fx LO hr (pa_cons (pv 0) pa_nil))) (blkOk_by (own := [("row", 2)]) (N := N_w_mend) (sc := defScope s_w_mend) (by decide +kernel))
        (fun _ _ _ _ _ => pg_name (i := 2) sc_w_mend.nd rfl (Or.inl rfl)) (fun _ _ _ _ _ => pts_nil) (fun _ _ _ _ _ => pe_fx WI hr1 (pa_cons (pv 2) pa_nil)))))
      (pss_cons (ps_if (pt_cmpR op_eq (pe_fld (pv 0) rfl) pe_str (nomark _))
        (pss_one (ps_ret (pe_joined (.cons pe_str (.cons (pe_fmt (pe_fld (pv 0) rfl)) (.cons pe_str (.cons (pe_fmt (pe_ix ixH (pe_fld (pv 0) rfl) pe_int (fun _ _ => rfl))) (.cons pe_str (.cons (pe_fmt (pv 1)) .nil))))))))) pss_nil)
      (pss_one (ps_ret (pe_joined (.cons pe_str (.cons (pe_fmt (pe_fld (pv 0) rfl)) (.cons pe_str (.cons (pe_fmt (pe_ix ixH (pe_fld (pv 0) rfl) pe_int (fun _ _ => rfl))) (.cons pe_str (.cons (pe_fmt (pe_ix ixH (pe_fld (pv 0) rfl) pe_int (fun _ _ => rfl))) (.cons pe_str (.cons (pe_fmt (pe_fld (pv 0) rfl)) (.cons pe_str (.cons (pe_fmt (pv 1)) .nil))))))))))))))), ?_⟩
    have L := rows_sent ok
    refine ⟨⟨_, rfl⟩, _, rfl, v, m, rfl, hM, ok, tb, fun u H1 g1 hLV => ?_⟩
    obtain ⟨a, vs, rfl, ea, hA⟩ := hLV
    have lvs := hA.length
    have lr : m.rows.length ≤ 2 := by
      unfold MendR.rows
      split
      · exact (by decide : 1 ≤ 2)
      · exact Nat.le_refl 2
    rw [List.length_map] at lvs
    refine ⟨a, vs, true, rfl, sqT ea, fun D hD => lc_map (T := T) (m.rows.map fun r => lineT (r.map (itemW ""))) StrV walk_sq (by rw [List.length_map, lvs]) (lsz (by omega)) hD (sqT ea) Ext.sqof (fun _ _ _ _ _ h => h) ?_ ?_⟩
    · rintro j y b H4 H5 Qc Nx hj ⟨rfl, hy⟩ hF g4 hacc kc
      obtain ⟨pl, hpl, hPl⟩ := hA.get hy
      rw [List.getElem?_map] at hpl hF
      obtain ⟨r, hr', rfl⟩ := Option.map_eq_some_iff.mp hpl
      rw [hr'] at hF
      have hF : lineT (r.map (itemW "")) = b := Option.some.inj hF
      subst hF
      have hrm := List.mem_of_getElem? hr'
      refine ⟨rfl, ?_⟩
      dsimp only [tYes]
      refine iteT ?_
      refine ⟨_, rfl, y, plOf r, rfl, hPl.kt (CM := CM) g4.ext.kt, (ok.rows r hrm).2.2, fun H6 g6 => ?_⟩
      rw [placeW_pl]
      exact kc _ _ g6 rfl
    · intro H4 ys hD4 hA4 g4
      rw [all_str hA4] at hD4
      refine ⟨" and ", D, _, rfl, rfl, .inl (SqL.of hD4), Nat.le_trans L.1 (by decide), ?_⟩
      have gg := g1.trans g4
      have hM4 := hM.kt gg.ext.kt
      show _
      have es : Txt.join " and " (m.rows.map fun r => lineT (r.map (itemW ""))) = sentT m := rfl
      rw [es]
      obtain ⟨ma, mdx, nt, ht, av, rfl, eM, ⟨nta, rfl, eN⟩, _, _⟩ := hM4
      obtain ⟨label, node, row, two⟩ := m
      have sl : sizeLine = 16777216 := sizeLine_eq
      have lb : label.length ≤ 12 := ok.lb
      have ln : node.length ≤ 12 := ok.nd node (by cases two <;> exact List.mem_cons_self ..)
      have z0 : (Str.empty : Str).length = 0 := rfl
      have z1 : (" " : Str).length = 1 := by decide +kernel
      have z2 : (" from " : Str).length = 6 := by decide +kernel
      have z3 : ("mend " : Str).length = 5 := by decide +kernel
      have z4 : ("pair " : Str).length = 5 := by decide +kernel
      have z5 : (" swap " : Str).length = 6 := by decide +kernel
      have Ls := L.2
      cases two with
      | none =>
        refine ⟨_, rfl, ma, CM, mdx, _, .str "one", rfl, eM, M.cl, M.k, (by kernel_rfl), rfl, _, rfl, if_t (decide_eq_true rfl) ?_⟩
        refine ⟨"mend ", rfl, by rw [nil_app]; omega, ?_⟩
        rw [nil_app]
        refine ⟨_, rfl, ma, CM, mdx, _, .str label, rfl, eM, M.cl, M.l, (by kernel_rfl), .inl ⟨label, rfl, by omega, label, rfl, by simp only [app_len]; omega, " ", rfl, by simp only [app_len]; omega, ?_⟩⟩
        refine ⟨_, rfl, ma, CM, mdx, _, .ref nta, rfl, eM, M.cl, M.n, (by kernel_rfl), true, nta, _, 0, .str node, rfl, rfl, eN, rfl, .inl ⟨node, rfl, by omega, node, rfl, by simp only [app_len]; omega, " from ", rfl, by simp only [app_len]; omega, ?_⟩⟩
        refine ⟨_, rfl, .inl ⟨_, rfl, by omega, _, rfl, by simp only [app_len]; omega, ?_⟩⟩
        rw [mend_one (ok.rows row (List.mem_cons_self ..)).1]
        exact k H4 gg
      | some t =>
        obtain ⟨o, c, r⟩ := t
        have lo : o.length ≤ 12 := ok.nd o (List.mem_cons_of_mem _ (List.mem_cons_self ..))
        have hc := ok.two o c r rfl
        have lc := numS_le hc
        refine ⟨_, rfl, ma, CM, mdx, _, .str "pair", rfl, eM, M.cl, M.k, (by kernel_rfl), rfl, _, rfl, if_f (decide_eq_false (by decide)) ?_⟩
        refine ⟨"pair ", rfl, by rw [nil_app]; omega, ?_⟩
        rw [nil_app]
        refine ⟨_, rfl, ma, CM, mdx, _, .str label, rfl, eM, M.cl, M.l, (by kernel_rfl), .inl ⟨label, rfl, by omega, label, rfl, by simp only [app_len]; omega, " ", rfl, by simp only [app_len]; omega, ?_⟩⟩
        refine ⟨_, rfl, ma, CM, mdx, _, .ref nta, rfl, eM, M.cl, M.n, (by kernel_rfl), true, nta, _, 0, .str node, rfl, rfl, eN, rfl, .inl ⟨node, rfl, by omega, node, rfl, by simp only [app_len]; omega, " ", rfl, by simp only [app_len]; omega, ?_⟩⟩
        refine ⟨_, rfl, ma, CM, mdx, _, .ref nta, rfl, eM, M.cl, M.n, (by kernel_rfl), true, nta, _, 1, .str o, rfl, rfl, eN, rfl, .inl ⟨o, rfl, by omega, o, rfl, by simp only [app_len]; omega, " swap ", rfl, by simp only [app_len]; omega, ?_⟩⟩
        refine ⟨_, rfl, ma, CM, mdx, _, .int (c : Int), rfl, eM, M.cl, M.s, (by kernel_rfl), .inr ⟨(c : Int), rfl, log_small (by omega), numS c, rfl, by simp only [app_len]; omega, " from ", rfl, by simp only [app_len]; omega, ?_⟩⟩
        refine ⟨_, rfl, .inl ⟨_, rfl, by omega, _, rfl, by simp only [app_len]; omega, ?_⟩⟩
        rw [mend_two (ok.rows row (List.mem_cons_self ..)).1 (ok.rows r (List.mem_cons_of_mem _ (List.mem_cons_self ..))).1 hc]
        exact k H4 gg
end
end Z
set_option Elab.async false
set_option linter.all false
set_option maxRecDepth 100000
set_option maxHeartbeats 4000000
namespace Z
open PySem L2 PyProof.Rows ZX GX TL ZT
abbrev s_links : Stmt := topS 22
theorem sc_links : FnScope ["mend"] ["mend"] (defScope s_links) := ⟨rfl, rfl, rfl, by decide +kernel, rfl, by decide +kernel, by decide +kernel⟩
theorem laid_row {T : List Addr} : ∀ {row : List Item} {H H' : Hp} {ps : List Addr}, Laid H (row.map fun it => (V.str it.1, V.int (it.2 : Int))) ps H' → Gr T H H' ∧ All2 (PlaceV H') (ps.map V.ref) (plOf row)
  | [], H, H', ps, h => by
    cases h
    exact ⟨.refl T H, .nil⟩
  | it :: row, H, H', ps, h => by
    rw [List.map_cons] at h
    cases h with
    | cons hp h =>
      have r := laid_row (T := T) h
      exact ⟨(Gr.new hp).trans r.1, .cons ⟨_, rfl, r.1.ext _ _ upd_same (fun _ z => by cases z)⟩ r.2⟩
theorem zip_row (row : List Item) : ((row.map (·.1)).map V.str).zip ((row.map (·.2)).map fun n : Nat => V.int (n : Int)) = row.map fun it => (V.str it.1, V.int (it.2 : Int)) := by
  rw [List.map_map, List.map_map, List.zip_map']
  rfl
theorem pi_zxK {X : Cx} {e e2 : Expr} {ta : TA} {p pos tpos : Pos} {elts : List Expr} {kk : Nat} (K : PySem.W.Frag) (hg : Gl X "zip") (hm : X.mg "zip" = none) (ha : PA X [e, e2] ta) (hK : X.K = K := by rfl)
    (hs : starEach [e, e2] X.env = (false, eval e X.env) :: starEach [e2] X.env := by rfl) (hpl : (backTo pos (starEach [e2] X.env)).any (·.1) = false := by rfl) :
    PI X (.Tuple elts kk tpos) (.Call (.Name "zip" p) [e, e2] [] pos) (iZx K ta) := by
  subst hK
  exact pi_zx hg hm ha hs hpl
section
variable {P : Program} {w : World} {K : PySem.W.Frag} {mg : Str → Option Value} {base : Heap} {T : List Addr} {CS CD CM CL : Addr}
theorem ok_links_of {f c PT : Addr} {fd : FuncData} (F : Fun K "links_of" "links_of" s_links f fd) (hc : fd.code = .ref c) (TB : GxR.TabB base mg c PT) (hPT : PT ∈ T) (M : MendC K CM) (bt : mg "tuple" = none) (bz : mg "zip" = none) : FnOk P w K mg base CX0 4 f fd ["mend"] (spLinksOf CM T) := by
  refine okT F hc sc_links (fun vs H Q E h => ?_) (fun A outer s H vs Q E hr h => ?_)
  · obtain ⟨v, m, rfl, _⟩ := h
    rfl
  · obtain ⟨v, m, rfl, hM, ok, tb, k⟩ := h
    have hr1 : Room 1 _ := hr.mono (by decide)
    refine ⟨_, (pss_cons (ps_if (pt_cmpR op_eq (pe_fld (pv 0) rfl) pe_str (nomark _))
        (pss_one (ps_ret (pe_tup (pa_cons (pe_zipTup hr1 (by rfl) bt (by rfl) bz (pa_cons (pe_fld (pv 0) rfl) (pa_cons (pe_fld (pv 0) rfl) pa_nil))) pa_nil)))) pss_nil)
      (pss_one (ps_ret (pe_tupG (k := 1) (g := gTup K 2 (gCons (gName 0) (gCons (gName 1) gNil))) (Ng := ["names", "amounts"]) (src := [none, none]) (vs := [0, 1]) (tt := tYes) hr (by rfl) bt TB rfl (gscp_by (sc := defScope s_links) (N := ["mend"]) (by decide +kernel)) (pi_zxK K (by rfl) bz (pa_cons (pe_fld (pv 0) rfl) (pa_cons (pe_fld (pv 0) rfl) pa_nil)))
        (fun _ _ _ _ _ _ _ _ => pg_tup rfl (pgs_cons (pg_name (i := 0) (show List.Nodup (["names", "amounts"] : List Str) from by decide +kernel) rfl (Or.inl rfl)) (pgs_cons (pg_name (i := 1) (show List.Nodup (["names", "amounts"] : List Str) from by decide +kernel) rfl (Or.inl rfl)) pgs_nil))) (fun _ _ _ _ _ _ _ _ => pts_nil) (fun _ _ _ _ _ _ _ hr2 => pe_zipTup hr2 (by rfl) bt (by rfl) bz (pa_cons (pv 0) (pa_cons (pv 1) pa_nil))) (fun _ => rfl))))), ?_⟩
    obtain ⟨ma, mdx, nt, ht, av, rfl, eM, _, hH, hAm⟩ := hM
    obtain ⟨label, node, row, two⟩ := m
    cases two with
    | none =>
      obtain ⟨ha, rfl, eh⟩ : StrT H ht (row.map fun q : Item => q.1) := hH
      obtain ⟨na, rfl, en⟩ : NumT H av (row.map fun q : Item => q.2) := hAm
      have rk := ok.rows row (List.mem_cons_self ..)
      refine ⟨_, rfl, ma, CM, mdx, _, .str "one", rfl, eM, M.cl, M.k, (by kernel_rfl), rfl, _, rfl, if_t (decide_eq_true rfl) ?_⟩
      refine ⟨_, rfl, ma, CM, mdx, _, .ref ha, rfl, eM, M.cl, M.h, (by kernel_rfl), _, rfl, ma, CM, mdx, _, .ref na, rfl, eM, M.cl, M.a, (by kernel_rfl), ha, na, _, _, rfl, eh, en, by simp, by rw [List.length_map, List.length_map]; exact rk.1, fun ps H2 L q hq => ?_⟩
      rw [zip_row] at L
      have R := laid_row (T := T) L
      refine ⟨(by show 1 ≤ sizeLine; exact Nat.le_of_lt (lsz (by decide))), fun t ht => ?_⟩
      have g : Gr T H2 (upd (upd H2 q (.tup (ps.map V.ref))) t (.tup [.ref q])) := (Gr.new hq).trans (Gr.new ht)
      refine k _ _ (R.1.trans g) ⟨t, _, rfl, upd_same, .cons ⟨q, ps.map V.ref, rfl, ?_, ?_⟩ .nil⟩
      · exact (Gr.new (T := T) ht).ext _ _ upd_same (fun _ z => by cases z)
      · exact R.2.mono fun _ _ h => h.ext g.ext
    | some t =>
      obtain ⟨o, cc, r⟩ := t
      obtain ⟨ha, hx, hy, rfl, eh, ⟨h1, rfl, eh1⟩, ⟨h2, rfl, eh2⟩⟩ : ∃ a x y, ht = .ref a ∧ H a = some (.tup [x, y]) ∧ StrT H x (row.map fun q : Item => q.1) ∧ StrT H y (r.map fun q : Item => q.1) := hH
      obtain ⟨na, nx, ny, rfl, en, ⟨n1, rfl, en1⟩, ⟨n2, rfl, en2⟩⟩ : ∃ a x y, av = .ref a ∧ H a = some (.tup [x, y]) ∧ NumT H x (row.map fun q : Item => q.2) ∧ NumT H y (r.map fun q : Item => q.2) := hAm
      have rk := ok.rows row (List.mem_cons_self ..)
      have rk2 := ok.rows r (List.mem_cons_of_mem _ (List.mem_cons_self ..))
      refine ⟨_, rfl, ma, CM, mdx, _, .str "pair", rfl, eM, M.cl, M.k, (by kernel_rfl), rfl, _, rfl, if_f (decide_eq_false (by decide)) ?_⟩
      refine ⟨_, rfl, ma, CM, mdx, _, .ref ha, rfl, eM, M.cl, M.h, (by kernel_rfl), _, rfl, ma, CM, mdx, _, .ref na, rfl, eM, M.cl, M.a, (by kernel_rfl), ha, na, _, _, true, true, rfl, sqT eh, sqT en, tb PT hPT, fun H2 tb2 => ?_⟩
      refine turns_it (walk_zx (xs := [V.ref h1, .ref h2]) (ys := [V.ref n1, .ref n2]) rfl) (fun i ys H3 => Gr T H H3 ∧ All2 (PlT H3) ys (([row, r].take i).map plOf)) ⟨Gr.tabbed hPT (tb PT hPT) tb2, .nil⟩ (fun i ys H3 _ h => ⟨sqT (h.1.ext _ _ eh (fun _ z => by cases z)), sqT (h.1.ext _ _ en (fun _ z => by cases z))⟩) ?_ (fun ys H3 h p hp => ?_)
      · rintro i x ys H3 H4 hi ⟨g, hA⟩ ⟨t, x1, y1, rfl, ht, rfl, hx1, hy1⟩
        have gt : Gr T H3 (upd H3 t (.tup [x1, y1])) := Gr.new ht
        have gg := g.trans gt
        have hA' := hA.mono fun _ _ h => h.kt (CM := CM) gt.ext.kt
        have et : (upd H3 t (.tup [x1, y1])) t = some (.tup [x1, y1]) := upd_same
        generalize upd H3 t (.tup [x1, y1]) = H4 at gg hA' et
        have key : ∃ (rr : List Item) (a1 b1 : Addr), x1 = .ref a1 ∧ y1 = .ref b1 ∧ H a1 = some (.tup ((rr.map fun q : Item => q.1).map V.str)) ∧ H b1 = some (.tup ((rr.map fun q : Item => q.2).map fun n : Nat => V.int (n : Int))) ∧ 1 ≤ rr.length ∧ [row, r][i]? = some rr := by
          have hi : i < 2 := hi
          rcases Nat.lt_or_ge i 1 with z | z
          · have z : i = 0 := by omega
            subst z
            exact ⟨row, h1, n1, (Option.some.inj hx1).symm, (Option.some.inj hy1).symm, eh1, en1, rk.1, rfl⟩
          · have z : i = 1 := by omega
            subst z
            exact ⟨r, h2, n2, (Option.some.inj hx1).symm, (Option.some.inj hy1).symm, eh2, en2, rk2.1, rfl⟩
        obtain ⟨rr, a1, b1, rfl, rfl, e1, e2, l1, hrr⟩ := key
        refine ⟨t, _, rfl, SqT.of et, rfl, _, _, rfl, _, _, rfl, rfl, rfl, ?_⟩
        dsimp only [tYes]
        refine iteT ?_
        refine ⟨_, rfl, _, rfl, a1, b1, _, _, rfl, gg.ext _ _ e1 (fun _ z => by cases z), gg.ext _ _ e2 (fun _ z => by cases z), by rw [List.length_map, List.length_map, List.length_map, List.length_map], by rw [List.length_map, List.length_map]; exact l1, fun ps H5 L q hq => ?_⟩
        rw [zip_row] at L
        have R := laid_row (T := T) L
        have g5 := R.1.trans (Gr.new (T := T) (o := .tup (ps.map V.ref)) hq)
        refine ⟨?_, gg.trans g5, ?_⟩
        · have := hA.length
          rw [List.length_map, List.length_take] at this
          rw [this]
          exact lsz (by have : ([row, r] : List (List Item)).length = 2 := rfl; omega)
        · rw [take_map hrr]
          refine (hA'.mono fun _ _ h => h.kt (CM := CM) g5.ext.kt).snoc ⟨q, _, rfl, upd_same, ?_⟩
          exact R.2.mono fun _ _ h => h.ext (Gr.new (T := T) hq).ext
      · exact k _ _ (h.1.trans (Gr.new hp)) ⟨p, _, rfl, upd_same, h.2.mono fun _ _ h => h.kt (CM := CM) (Gr.new (T := T) hp).ext.kt⟩
end
end Z
set_option Elab.async false
set_option linter.all false
set_option maxRecDepth 100000
set_option maxHeartbeats 4000000
namespace Z
open PySem L2 PyProof.Rows ZX GX TL ZT
abbrev s_written : Stmt := topS 23
abbrev N_written : List Str := ["store", "lines", "name", "room", "word", "mend", "reader", "line"]
theorem sc_written : FnScope N_written ["store"] (defScope s_written) := ⟨rfl, rfl, rfl, by decide +kernel, rfl, by decide +kernel, by decide +kernel⟩
theorem file_line {k : Nat} (h : k ≤ 40) : ("file " : Str) ++ numS k = lineT [("file" : Str), zf "" k] := by
  refine ext_tl ?_
  unfold lineT
  rw [tl_append, tl_tjoin, zf_nil h]
  have e1 : tl ("file " : Str) = tl ("file" : Str) ++ tl (" " : Str) := by decide +kernel
  rw [e1, List.append_assoc]
  rfl
theorem node_line (x : NodeR) (h : x.room ≤ 40) : (if x.isNew = true then ("new" : Str) else "node") ++ " " ++ x.name ++ " " ++ numS x.room = lineT (nodeL "" x) := by
  refine ext_tl ?_
  unfold lineT nodeL
  rw [tl_append, tl_append, tl_append, tl_append, tl_tjoin, zf_nil h]
  simp only [List.append_assoc]
  rfl
theorem reader_line {r : List Place} (h : 1 ≤ r.length) : ("reader " : Str) ++ lineT (r.map (placeW "")) = lineT (readerL "" r) := by
  refine ext_tl ?_
  have ne : r.map (placeW "") ≠ [] := fun z => by
    have := congrArg List.length z
    rw [List.length_map] at this
    rw [List.length_nil] at this
    omega
  show _ = tl (lineT (([("reader" : Str)] : List Str) ++ r.map (placeW "")))
  rw [lineT_app (by simp) ne, tl_append]
  have e1 : tl ("reader " : Str) = tl (lineT [("reader" : Str)]) ++ tl (" " : Str) := by decide +kernel
  rw [e1, List.append_assoc]
theorem mendSm {s : StoreR} (ok : StoreOk s) {m : MendR} (h : m ∈ s.mends) : MendSm m := by
  have mk := ok.mok m h
  have nn : ∀ x ∈ m.nodes, x ∈ s.names := fun x hx => by
    unfold MendR.nodes at hx
    split at hx
    · rw [List.mem_singleton.mp hx]
      exact mk.node
    · rename_i o c r e
      rcases List.mem_cons.mp hx with z | z
      · rw [z]
        exact mk.node
      · rw [List.mem_singleton.mp z]
        exact (mk.two o c r e).1
  refine ⟨Nat.le_succ_of_le (ok.mname m h).len.2, fun x hx => Nat.le_succ_of_le (ok.name x (nn x hx)).len.2, fun r hr => ?_, fun o c r e => (mk.two o c r e).2.2⟩
  have rk := mk.rows r hr
  refine ⟨rk.pos, rk.few, ?_, fun it hit => ?_, fun it hit k hk => ?_⟩
  · unfold plOf
    rw [List.length_map]
    have := rk.few
    omega
  · obtain ⟨q, hq, rfl⟩ := List.mem_map.mp hit
    exact Nat.le_succ_of_le (ok.name q.1 (rk.sub q hq).1).len.2
  · obtain ⟨q, hq, rfl⟩ := List.mem_map.mp hit
    cases hk
    exact (rk.amt q hq).2
theorem plOk {s : StoreR} (ok : StoreOk s) {r : List Place} (h : r ∈ s.readers) : PlOk r := by
  have rk := ok.rok r h
  have lnm : s.names.length = s.nodes.length := by unfold StoreR.names namesOf; rw [List.length_map]
  have := ok.few
  have f := rk.few
  exact ⟨by omega, fun it hit => Nat.le_succ_of_le (ok.name it.1 (rk.sub it hit)).len.2, fun it hit k hk => rk.lim it hit k hk⟩
def spWritten (CS CM : Addr) (T : List Addr) : Sp := fun vs H Q _ => ∃ (B : SA) (s : StoreR) (text : Str), vs = [.ref B.a] ∧ StoreAt CS CM H B s text ∧ StoreOk s ∧ Tabs T H ∧ ∀ (H' : Hp), Gr T H H' → Q (.str (textT (rowsOf "" s) "\n")) H'
section
variable {P : Program} {w : World} {K : PySem.W.Frag} {mg : Str → Option Value} {base : Heap} {T : List Addr} {CS CD CM CL : Addr}
theorem ok_written {f : Addr} {fd : FuncData} (F : Fun K "written" "written" s_written f fd) (SC : StoreC K CS) (bz : mg "zip" = none) (NW : Mx P w K mg base CS "is_new" 1 ["self", "name"] (spIsNew CS CM)) (WM : Fx P w K mg base "written_mend" 5 ["mend"] (spWMend CM T)) (WI : Fx P w K mg base "written_items" 1 ["row"] (spWItems T)) : FnOk P w K mg base CX0 6 f fd ["store"] (spWritten CS CM T) := by
  refine F.ok sc_written (fun vs H Q E h => ?_) (fun cdv A outer sh H vs Q E hr h => ?_)
  · obtain ⟨B, s, text, rfl, _⟩ := h
    rfl
  · obtain ⟨B, s, text, rfl, hS, ok, tb, k⟩ := h
    have hr1 : Room 1 _ := hr.mono (by decide)
    refine ⟨_, (pss_cons (ps_set (i := 1) sc_written.nd rfl (Or.inl rfl) (pe_lst (pa_cons (pe_joined (.cons pe_str (.cons (pe_fmt (pe_fld (pv 0) rfl)) .nil))) pa_nil)))
      (pss_cons (ps_for PassesOwn.never rfl (pi_zxK K (by rfl) bz (pa_cons (pe_fld (pv 0) rfl) (pa_cons (pe_fld (pv 0) rfl) pa_nil))) (pg_tup rfl (pgs_cons (pg_name (i := 2) sc_written.nd rfl (Or.inl rfl)) (pgs_cons (pg_name (i := 3) sc_written.nd rfl (Or.inl rfl)) pgs_nil)))
        (pss_cons (ps_set (i := 4) sc_written.nd rfl (Or.inl rfl) (pe_ifExp (pt_val (pe_mx (pv 0) SC.cl NW hr1 (pa_cons (pv 2) pa_nil))) pe_str pe_str))
        (pss_one (ps_expr (pe_bm PySem.F.plainAttrs_list PySem.F.slot_list_append PySem.F.type_list_append mt_append (pv 1) (pa_cons (pe_joined (.cons (pe_fmt (pv 4)) (.cons pe_str (.cons (pe_fmt (pv 2)) (.cons pe_str (.cons (pe_fmt (pv 3)) .nil)))))) pa_nil))))))
      (pss_cons (ps_for PassesOwn.never rfl (pi_sqK K (pe_fld (pv 0) rfl)) (pg_name (i := 5) sc_written.nd rfl (Or.inl rfl))
        (pss_one (ps_expr (pe_bm PySem.F.plainAttrs_list PySem.F.slot_list_append PySem.F.type_list_append mt_append (pv 1) (pa_cons (pe_fx WM hr (pa_cons (pv 5) pa_nil)) pa_nil)))))
      (pss_cons (ps_for PassesOwn.never rfl (pi_sqK K (pe_fld (pv 0) rfl)) (pg_name (i := 6) sc_written.nd rfl (Or.inl rfl))
        (pss_one (ps_expr (pe_bm PySem.F.plainAttrs_list PySem.F.slot_list_append PySem.F.type_list_append mt_append (pv 1) (pa_cons (pe_op op_add_str pe_str (pe_fx WI hr1 (pa_cons (pv 6) pa_nil))) pa_nil)))))
      (pss_one (ps_ret (pe_joinK K pe_str (pe_lc (own := [("line", 7)]) (g := gName 7) (tt := tYes) rfl sc_written.nd (pi_sqK K (pv 1)) (blkOk_by (own := [("line", 7)]) (N := N_written) (sc := defScope s_written) (by decide +kernel))
        (fun _ _ _ _ _ => pg_name (i := 7) sc_written.nd rfl (Or.inl rfl)) (fun _ _ _ _ _ => pts_nil) (fun _ _ _ _ _ => pe_op op_add_str (pv 7) pe_str))))))))), ?_⟩
    have big : ∀ {m : Nat}, m ≤ 10000 → m ≤ sizeLine := fun h => by rw [show sizeLine = 16777216 from sizeLine_eq]; omega
    have C := rows_clean nil_zeros ok
    have sl : sizeLine = 16777216 := sizeLine_eq
    have z1 : (" " : Str).length = 1 := by decide +kernel
    have z2 : ("file " : Str).length = 5 := by decide +kernel
    have z3 : ("reader " : Str).length = 7 := by decide +kernel
    have z4 : ("new" : Str).length = 3 := by decide +kernel
    have z5 : ("node" : Str).length = 4 := by decide +kernel
    have fl := ok.file.2
    have lf := numS_le fl
    have rl := rows_len (z := "") ok
    have mfew := ok.mfew
    have rfew := ok.rfew
    have nfew := ok.few
    -- the file
    refine ⟨"file ", rfl, by rw [nil_app]; omega, ?_⟩
    rw [nil_app]
    refine ⟨_, rfl, B.a, CS, B.dx, _, .int (s.file : Int), rfl, hS.ob, SC.cl, SC.f, (by kernel_rfl), .inr ⟨_, rfl, log_small (by omega), numS s.file, rfl, by simp only [app_len]; omega, ?_⟩⟩
    refine ⟨(by show 1 ≤ sizeLine; exact big (by decide)), fun la hla => ?_⟩
    rw [file_line fl]
    have g0 : Gr T H (upd H la (.lst [.str (lineT [("file" : Str), zf "" s.file])])) := Gr.new hla
    have L0 : (upd H la (.lst [.str (lineT [("file" : Str), zf "" s.file])])) la = some (.lst (([lineT [("file" : Str), zf "" s.file]] : List Str).map V.str)) := upd_same
    generalize upd H la (.lst [.str (lineT [("file" : Str), zf "" s.file])]) = H0 at g0 L0 ⊢
    have grow : ∀ {H' H2 : Hp} {R : List (List Str)} {ws : List Str}, Gr T H H' → H' la = some (.lst ((linesT R).map V.str)) → Gr T H' H2 → H2 la = some (.lst ((linesT R).map V.str)) ∧ Gr T H (upd H2 la (.lst ((linesT R).map V.str ++ [V.str (lineT ws)]))) ∧ (upd H2 la (.lst ((linesT R).map V.str ++ [V.str (lineT ws)]))) la = some (.lst ((linesT (R ++ [ws])).map V.str)) := fun {H' H2 R ws} g e g2 => by
      refine ⟨g2.ext _ _ e (fun _ z => by cases z), (g.trans g2).upd hla, ?_⟩
      rw [upd_same]
      unfold linesT
      rw [List.map_append, List.map_append]
      rfl
    have few : ∀ {R : List (List Str)}, R.length ≤ 30 → ((linesT R).map V.str).length < sizeLine := fun h => by
      unfold linesT
      rw [List.length_map, List.length_map]
      exact lsz (by omega)
    have lnm : s.names.length = s.nodes.length := by unfold StoreR.names namesOf; rw [List.length_map]
    have one : ([[("file" : Str), zf "" s.file]] : List (List Str)).length = 1 := rfl
    -- the nodes
    have hS0 := hS.ext g0.ext
    refine ⟨_, rfl, B.a, CS, B.dx, _, .ref B.nt, rfl, hS0.ob, SC.cl, SC.n, (by kernel_rfl), _, rfl, B.a, CS, B.dx, _, .ref B.rt, rfl, hS0.ob, SC.cl, SC.r, (by kernel_rfl), B.nt, B.rt, _, _, true, true, rfl, sqT hS0.nm, sqT hS0.rm, for_it (walk_zx (xs := s.names.map V.str) (ys := s.nodes.map fun x => V.int (x.room : Int)) (by rw [List.length_map, List.length_map, lnm])) (fun i σ' H' => ∃ (v2 v3 v4 : Option V), σ' = [some (.ref B.a), some (.ref la), v2, v3, v4, none, none, none] ∧ Gr T H H' ∧ H' la = some (.lst ((linesT (([[("file" : Str), zf "" s.file]] : List (List Str)) ++ (s.nodes.take i).map (nodeL ""))).map V.str)))
      ⟨none, none, none, rfl, g0, L0⟩ (fun i σ' H' _ ⟨_, _, _, _, g, _⟩ => ⟨sqT (g.ext _ _ hS.nm (fun _ z => by cases z)), sqT (g.ext _ _ hS.rm (fun _ z => by cases z))⟩) ?_ ?_⟩
    · rintro i x σ' H1 H2 hi ⟨v2, v3, v4, rfl, g1, L1⟩ ⟨t, x1, y1, rfl, ht, rfl, hx1, hy1⟩
      rw [List.length_map, lnm] at hi
      have hnd := List.getElem?_eq_getElem hi
      have hm := List.getElem_mem hi
      generalize s.nodes[i] = nd at hnd hm
      have e1 : x1 = .str nd.name := by
        have hx1 : (s.names.map V.str)[i]? = some x1 := hx1
        unfold StoreR.names namesOf at hx1
        rw [List.getElem?_map, List.getElem?_map, hnd] at hx1
        exact (Option.some.inj hx1).symm
      have e2 : y1 = .int (nd.room : Int) := by
        have hy1 : (s.nodes.map fun x => V.int (x.room : Int))[i]? = some y1 := hy1
        rw [List.getElem?_map, hnd] at hy1
        exact (Option.some.inj hy1).symm
      subst e1 e2
      have gt : Gr T H1 (upd H1 t (.tup [.str nd.name, .int (nd.room : Int)])) := Gr.new ht
      have et : (upd H1 t (.tup [.str nd.name, .int (nd.room : Int)])) t = some (.tup [.str nd.name, .int (nd.room : Int)]) := upd_same
      have G := grow (ws := nodeL "" nd) g1 L1 gt
      have hS1 := hS.ext (g1.trans gt).ext
      generalize upd H1 t (.tup [.str nd.name, .int (nd.room : Int)]) = H2 at gt et G hS1 ⊢
      have hin : nd.name ∈ s.names := List.mem_map.mpr ⟨nd, hm, rfl⟩
      have ln := (ok.name _ hin).len.2
      have hroom := ok.room nd hm
      have lrm := numS_le hroom
      refine ⟨t, _, rfl, SqT.of et, rfl, _, _, rfl, _, _, rfl, rfl, ?_⟩
      refine ⟨_, rfl, B.a, B.dx, _, rfl, hS1.ob, (by kernel_rfl), _, rfl, B, s, text, nd.name, rfl, hS1, hin, _, rfl, ?_⟩
      have dn : decide (nd.name ∈ newsOf s.nodes) = nd.isNew := by
        have := in_news hm ok.nd
        cases hb : nd.isNew with
        | true => exact decide_eq_true (this.mpr hb)
        | false => exact decide_eq_false fun z => by rw [this.mp z] at hb; cases hb
      rw [dn]
      have lw : (if nd.isNew = true then ("new" : Str) else "node").length ≤ 4 := by
        split
        · exact (by decide +kernel)
        · exact (by decide +kernel)
      have hnl := node_line nd hroom
      obtain ⟨q1, q2, q3⟩ := G
      rw [← hnl] at q2 q3
      have lwd : ∀ wd : Str, wd = (if nd.isNew = true then ("new" : Str) else "node") → wd.length ≤ 4 := fun wd h => by rw [h]; exact lw
      have ft : ((linesT (([[("file" : Str), zf "" s.file]] : List (List Str)) ++ (s.nodes.take i).map (nodeL ""))).map V.str).length < sizeLine := few (by rw [List.length_append, List.length_map, List.length_take, one]; omega)
      have tk := take_map (f := nodeL "") hnd
      have fin : ∀ wd : Str, wd = (if nd.isNew = true then ("new" : Str) else "node") → ∃ (v2 v3 v4 : Option V), [some (V.ref B.a), some (.ref la), some (.str nd.name), some (.int (nd.room : Int)), some (.str wd), none, none, none] = [some (V.ref B.a), some (.ref la), v2, v3, v4, none, none, none] ∧ Gr T H (upd H2 la (.lst ((linesT (([[("file" : Str), zf "" s.file]] : List (List Str)) ++ (s.nodes.take i).map (nodeL ""))).map V.str ++ [V.str (wd ++ " " ++ nd.name ++ " " ++ numS nd.room)]))) ∧
          (upd H2 la (.lst ((linesT (([[("file" : Str), zf "" s.file]] : List (List Str)) ++ (s.nodes.take i).map (nodeL ""))).map V.str ++ [V.str (wd ++ " " ++ nd.name ++ " " ++ numS nd.room)]))) la = some (.lst ((linesT (([[("file" : Str), zf "" s.file]] : List (List Str)) ++ (s.nodes.take (i + 1)).map (nodeL ""))).map V.str)) := fun wd h => by
        subst h
        rw [tk, ← List.append_assoc]
        exact ⟨_, _, _, rfl, q2, q3⟩
      cases hb : nd.isNew with
      | true =>
        rw [hb] at lwd fin
        refine iteT ?_
        have lwd := lwd "new" rfl
        refine ⟨_, rfl, .inl ⟨rfl, _, SqL.of q1⟩, _, rfl, .inl ⟨"new", rfl, by omega, "new", rfl, by rw [nil_app]; omega, ?_⟩⟩
        rw [nil_app]
        refine ⟨" ", rfl, by simp only [app_len]; omega, _, rfl, .inl ⟨nd.name, rfl, by omega, nd.name, rfl, by simp only [app_len]; omega, " ", rfl, by simp only [app_len]; omega, _, rfl, .inr ⟨_, rfl, log_small (by omega), numS nd.room, rfl, by simp only [app_len]; omega, ?_⟩⟩⟩
        exact ⟨la, _, _, rfl, rfl, q1, ft, fin _ rfl⟩
      | false =>
        rw [hb] at lwd fin
        refine iteF ?_
        have lwd := lwd "node" rfl
        refine ⟨_, rfl, .inl ⟨rfl, _, SqL.of q1⟩, _, rfl, .inl ⟨"node", rfl, by omega, "node", rfl, by rw [nil_app]; omega, ?_⟩⟩
        rw [nil_app]
        refine ⟨" ", rfl, by simp only [app_len]; omega, _, rfl, .inl ⟨nd.name, rfl, by omega, nd.name, rfl, by simp only [app_len]; omega, " ", rfl, by simp only [app_len]; omega, _, rfl, .inr ⟨_, rfl, log_small (by omega), numS nd.room, rfl, by simp only [app_len]; omega, ?_⟩⟩⟩
        exact ⟨la, _, _, rfl, rfl, q1, ft, fin _ rfl⟩
    · rintro σ' H1 ⟨v2, v3, v4, rfl, g1, L1⟩
      rw [List.length_map, lnm, List.take_length] at L1
      -- the mends
      have hS1 := hS.ext g1.ext
      obtain ⟨mvs, m1, m2⟩ := hS.md
      have lmv := m2.length
      refine ⟨_, rfl, B.a, CS, B.dx, _, .ref B.mt, rfl, hS1.ob, SC.cl, SC.m, (by kernel_rfl), B.mt, mvs, true, rfl, sqT (g1.ext _ _ m1 (fun _ z => by cases z)), for_it walk_sq (fun i σ' H' => ∃ (v5 : Option V), σ' = [some (.ref B.a), some (.ref la), v2, v3, v4, v5, none, none] ∧ Gr T H H' ∧ H' la = some (.lst ((linesT (([[("file" : Str), zf "" s.file]] : List (List Str)) ++ s.nodes.map (nodeL "") ++ (s.mends.take i).map (mendL ""))).map V.str)))
        ⟨none, rfl, g1, by rw [List.take_zero, List.map_nil, List.append_nil]; exact L1⟩ (fun i σ' H' _ ⟨_, _, g, _⟩ => sqT (g.ext _ _ m1 (fun _ z => by cases z))) ?_ ?_⟩
      · rintro i x σ' H2' H2 hi ⟨v5, rfl, g2, L2⟩ ⟨rfl, hx⟩
        obtain ⟨m, hm, hMO⟩ := m2.get hx
        have tk := take_map (f := mendL "") hm
        have ft : ((linesT (([[("file" : Str), zf "" s.file]] : List (List Str)) ++ s.nodes.map (nodeL "") ++ (s.mends.take i).map (mendL ""))).map V.str).length < sizeLine := few (by rw [List.length_append, List.length_append, List.length_map, List.length_map, List.length_take, one]; omega)
        refine ⟨_, rfl, .inl ⟨rfl, _, SqL.of L2⟩, _, rfl, x, m, rfl, hMO.kt g2.ext.kt, mendSm ok (List.mem_of_getElem? hm), g2.tabs tb, fun H3 g3 => ?_⟩
        obtain ⟨q1, q2, q3⟩ := grow (ws := mendL "" m) g2 L2 g3
        refine ⟨la, _, _, rfl, rfl, q1, ft, _, rfl, q2, ?_⟩
        rw [tk, ← List.append_assoc]
        exact q3
      · rintro σ' H2 ⟨v5, rfl, g2, L2⟩
        rw [lmv, List.take_length] at L2
        -- the readers
        have hS2 := hS.ext g2.ext
        obtain ⟨qvs, r1, r2⟩ := hS.rd
        have lqv := r2.length
        refine ⟨_, rfl, B.a, CS, B.dx, _, .ref B.qt, rfl, hS2.ob, SC.cl, SC.q, (by kernel_rfl), B.qt, qvs, true, rfl, sqT (g2.ext _ _ r1 (fun _ z => by cases z)), for_it walk_sq (fun i σ' H' => ∃ (v6 : Option V), σ' = [some (.ref B.a), some (.ref la), v2, v3, v4, v5, v6, none] ∧ Gr T H H' ∧ H' la = some (.lst ((linesT (([[("file" : Str), zf "" s.file]] : List (List Str)) ++ s.nodes.map (nodeL "") ++ s.mends.map (mendL "") ++ (s.readers.take i).map (readerL ""))).map V.str)))
          ⟨none, rfl, g2, by rw [List.take_zero, List.map_nil, List.append_nil]; exact L2⟩ (fun i σ' H' _ ⟨_, _, g, _⟩ => sqT (g.ext _ _ r1 (fun _ z => by cases z))) ?_ ?_⟩
        · rintro i x σ' H3' H3 hi ⟨v6, rfl, g3, L3⟩ ⟨rfl, hx⟩
          obtain ⟨r, hr', hPl⟩ := r2.get hx
          have hrm := List.mem_of_getElem? hr'
          have pok := plOk ok hrm
          have tk := take_map (f := readerL "") hr'
          have ll := (items_len pok).2
          have ft : ((linesT (([[("file" : Str), zf "" s.file]] : List (List Str)) ++ s.nodes.map (nodeL "") ++ s.mends.map (mendL "") ++ (s.readers.take i).map (readerL ""))).map V.str).length < sizeLine := few (by rw [List.length_append, List.length_append, List.length_append, List.length_map, List.length_map, List.length_map, List.length_take, one]; omega)
          refine ⟨_, rfl, .inl ⟨rfl, _, SqL.of L3⟩, _, rfl, x, r, rfl, hPl.kt (CM := CM) g3.ext.kt, pok, fun H4 g4 => ?_⟩
          obtain ⟨q1, q2, q3⟩ := grow (ws := readerL "" r) g3 L3 g4
          refine ⟨_, _, rfl, rfl, by show ("reader " : Str).length + (lineT (r.map (placeW ""))).length ≤ sizeLine; omega, ?_⟩
          rw [reader_line (ok.rok r hrm).pos]
          refine ⟨la, _, _, rfl, rfl, q1, ft, _, rfl, q2, ?_⟩
          rw [tk, ← List.append_assoc]
          exact q3
        · rintro σ' H3 ⟨v6, rfl, g3, L3⟩
          rw [lqv, List.take_length] at L3
          have L3 : H3 la = some (.lst ((linesT (rowsOf "" s)).map V.str)) := L3
          generalize hR : rowsOf "" s = R at L3 k C rl
          have lR : (linesT R).length ≤ 29 := by unfold linesT; rw [List.length_map]; exact rl
          refine ⟨⟨_, rfl⟩, _, rfl, la, _, false, rfl, sqL L3, fun D hD => lc_map (T := T) ((linesT R).map (· ++ ("\n" : Str))) StrV walk_sq (by rw [List.length_map, List.length_map]) (lsz (by rw [List.length_map]; omega)) hD (sqL L3) Ext.sqof (fun _ _ _ _ _ h => h) ?_ ?_⟩
          · rintro j y b H4 H5 Qc Nx hj ⟨rfl, hy⟩ hF g4 hacc kc
            rw [List.getElem?_map] at hy hF
            obtain ⟨ln, hln, rfl⟩ := Option.map_eq_some_iff.mp hy
            rw [hln] at hF
            have hF : ln ++ ("\n" : Str) = b := Option.some.inj hF
            subst hF
            obtain ⟨ws, hws, rfl⟩ := List.mem_map.mp (List.mem_of_getElem? hln)
            have L := lineT_len (C.2.wide ws hws) (C.2.long ws hws)
            refine ⟨rfl, ?_⟩
            dsimp only [tYes]
            refine iteT ?_
            have c : ("\n" : Str).length = 1 := by decide +kernel
            refine ⟨_, rfl, _, _, rfl, rfl, by show (lineT ws).length + ("\n" : Str).length ≤ sizeLine; omega, kc _ _ (.refl T _) rfl⟩
          · intro H4 ys hD4 hA4 g4
            rw [all_str hA4] at hD4
            have L := textT_len C.2
            refine ⟨"", D, _, rfl, rfl, .inl (SqL.of hD4), ?_, ?_⟩
            · rw [List.map_map, show ("" : Str).length = 0 from rfl, Nat.mul_zero, Nat.add_zero]
              exact Nat.le_trans L.2.1 (by decide)
            · rw [plain_text C.1.ne]
              exact k H4 (g3.trans g4)
end
end Z
set_option Elab.async false
set_option linter.all false
set_option maxRecDepth 100000
set_option maxHeartbeats 4000000
namespace Z
open PySem L2 PyProof.Rows ZX GX TL ZT
/-! fields of mends -/
abbrev s_l_tf : Stmt := topS 40
theorem sc_l_tf : FnScope ["_law_mend"] ["_law_mend"] (defScope s_l_tf) := ⟨rfl, rfl, rfl, by decide +kernel, rfl, by decide +kernel, by decide +kernel⟩
def FieldV (H : Hp) (u : V) (m : MendR) : Prop := ∃ t nt ht av, u = .ref t ∧ H t = some (.tup [.str m.label, .str m.kind, nt, ht, av, m.swap]) ∧ StrT H nt m.nodes ∧ HelpV H ht m ∧ AmtV H av m
theorem FieldV.kt {CM : Addr} {H H' : Hp} {u : V} {m : MendR} (x : Kt CM H H') (h : FieldV H u m) : FieldV H' u m := by
  obtain ⟨t, nt, ht, av, e, e1, e2, e3, e4⟩ := h
  exact ⟨t, nt, ht, av, e, x _ _ e1 True.intro, e2.kt x, e3.kt x, e4.kt x⟩
theorem FieldV.ext {H H' : Hp} {u : V} {m : MendR} (x : Ext H H') (h : FieldV H u m) : FieldV H' u m := h.kt (CM := 0) x.kt
def spToldF (CM : Addr) (T : List Addr) : Sp := fun vs H Q _ => ∃ (v : V) (m : MendR), vs = [v] ∧ MendO CM H v m ∧ ∀ (u : V) (H' : Hp), Gr T H H' → FieldV H' u m → Q u H'
theorem all_of {β : Type} {f : β → V} : ∀ {ys : List V} {zs : List β}, All2 (fun v b => v = f b) ys zs → ys = zs.map f
  | _, _, .nil => rfl
  | _, _, .cons h r => by rw [h, all_of r]; rfl
def rowSc : Scope := { kind := .function, names := [(".0", .local), ("_law_row", .local), ("tuple", .globalImplicit)], isGenerator := false, isCoroutine := false }
section
variable {P : Program} {w : World} {K : PySem.W.Frag} {mg : Str → Option Value} {base : Heap} {T : List Addr} {CS CD CM CL : Addr}
theorem ok_l_tf {f : Addr} {fd : FuncData} (F : Fun K "_law_told_fields" "_law_told_fields" s_l_tf f fd) (M : MendC K CM) : FnOk P w K mg base CX0 1 f fd ["_law_mend"] (spToldF CM T) := by
  refine F.ok sc_l_tf (fun vs H Q E h => ?_) (fun cdv A outer s H vs Q E hr h => ?_)
  · obtain ⟨v, m, rfl, _⟩ := h
    rfl
  · obtain ⟨v, m, rfl, ⟨a, dx, nt, ht, av, rfl, e1, e2, e3, e4⟩, k⟩ := h
    refine ⟨_, (pss_one (ps_ret (pe_tup (pa_cons (pe_fld (pv 0) rfl) (pa_cons (pe_fld (pv 0) rfl) (pa_cons (pe_fld (pv 0) rfl) (pa_cons (pe_fld (pv 0) rfl) (pa_cons (pe_fld (pv 0) rfl) (pa_cons (pe_fld (pv 0) rfl) pa_nil))))))))), ?_⟩
    refine ⟨_, rfl, a, CM, dx, _, .str m.label, rfl, e1, M.cl, M.l, (by kernel_rfl), _, rfl, a, CM, dx, _, .str m.kind, rfl, e1, M.cl, M.k, (by kernel_rfl), _, rfl, a, CM, dx, _, nt, rfl, e1, M.cl, M.n, (by kernel_rfl), _, rfl, a, CM, dx, _, ht, rfl, e1, M.cl, M.h, (by kernel_rfl), _, rfl, a, CM, dx, _, av, rfl, e1, M.cl, M.a, (by kernel_rfl), _, rfl, a, CM, dx, _, m.swap, rfl, e1, M.cl, M.s, (by kernel_rfl), (by show 6 ≤ sizeLine; exact Nat.le_of_lt (lsz (by decide))), fun t ht' => ?_⟩
    have g : Gr T H (upd H t (.tup [.str m.label, .str m.kind, nt, ht, av, m.swap])) := Gr.new ht'
    have x := g.ext.kt (CM := CM)
    exact k _ _ g ⟨t, nt, ht, av, rfl, upd_same, e2.kt x, e3.kt x, e4.kt x⟩
end
end Z
set_option Elab.async false
set_option linter.all false
set_option maxRecDepth 100000
set_option maxHeartbeats 4000000
namespace Z
open PySem L2 PyProof.Rows ZX GX TL ZT
/-! a store against what was drawn -/
/-! plain signs -/
def Asc (w : Str) : Prop := ∀ c ∈ tl w, c < 128
theorem asc_app {a b : Str} (h : Asc a) (k : Asc b) : Asc (a ++ b) := fun c hc => by
  rw [tl_append] at hc
  rcases List.mem_append.mp hc with z | z
  · exact h c z
  · exact k c z
theorem asc_lit {s : Str} (h : ((tl s).all fun c => decide (c < 128)) = true) : Asc s := fun c hc => of_decide_eq_true (List.all_eq_true.mp h c hc)
theorem NameW.asc {m : Nat} {s : Str} (h : NameW m s) : Asc s := fun x hx => by
  obtain ⟨c, r, e, h1, h2, _⟩ := h.ex
  rw [e] at hx
  rcases List.mem_cons.mp hx with z | z
  · have := h1.2
    omega
  · rcases h2 x z with q | q
    · have := q.2
      omega
    · have := q.2
      omega
theorem NumW.asc {w : Str} {n : Nat} (h : NumW w n) : Asc w := fun c hc => by
  have := (h.dig c hc).2
  omega
theorem itemA {z : Str} {it : Item} (hz : z ∈ zeros) (h1 : NameW 11 it.1) (h2 : it.2 ≤ 40) : Asc (itemW z it) := asc_app (asc_app h1.asc (asc_lit (by decide +kernel))) (zf_W hz h2).asc
theorem placeA {z : Str} {it : Place} (hz : z ∈ zeros) (h1 : NameW 11 it.1) (h2 : ∀ k, it.2 = some k → k ≤ 40) : Asc (placeW z it) := by
  obtain ⟨n, li⟩ := it
  cases li with
  | none => exact h1.asc
  | some k => exact itemA (it := (n, k)) hz h1 (h2 k rfl)
theorem rowsA {z : Str} {s : StoreR} (hz : z ∈ zeros) (ok : StoreOk s) : ∀ r ∈ rowsOf z s, ∀ x ∈ r, Asc x := by
  have lit : ∀ {s : Str}, ((tl s).all fun c => decide (c < 128)) = true → Asc s := fun h => asc_lit h
  refine all_app' (all_app' (all_app' (all_cons' ?_ all_nil') (all_map' fun x hx => ?_)) (all_map' fun m hm => ?_)) (all_map' fun r hr => ?_)
  · exact all_cons' (lit (by decide +kernel)) (all_cons' (zf_W hz ok.file.2).asc all_nil')
  · have hn := ok.name x.name (List.mem_map.mpr ⟨x, hx, rfl⟩)
    refine all_cons' ?_ (all_cons' hn.asc (all_cons' (zf_W hz (ok.room x hx)).asc all_nil'))
    split <;> exact lit (by decide +kernel)
  · have mok := ok.mok m hm
    have ml := ok.mname m hm
    have rw' : ∀ r ∈ m.rows, ∀ y ∈ r.map (itemW z), Asc y := fun r hr => by
      have h := mok.rows r hr
      exact all_map' fun it hit => itemA hz (ok.name _ (h.sub it hit).1) (h.amt it hit).2
    have mn := ok.name _ mok.node
    obtain ⟨label, node, row, two⟩ := m
    cases two with
    | none => exact all_app' (all_cons' (lit (by decide +kernel)) (all_cons' ml.asc (all_cons' mn.asc (all_cons' (lit (by decide +kernel)) all_nil')))) (rw' row (List.mem_cons_self ..))
    | some t =>
      obtain ⟨o, c, r⟩ := t
      have tw := mok.two _ _ _ rfl
      refine all_app' (all_app' (all_app' ?_ (rw' row (List.mem_cons_self ..))) (all_cons' (lit (by decide +kernel)) all_nil')) (rw' r (List.mem_cons_of_mem _ (List.mem_cons_self ..)))
      exact all_cons' (lit (by decide +kernel)) (all_cons' ml.asc (all_cons' mn.asc (all_cons' (ok.name _ tw.1).asc (all_cons' (lit (by decide +kernel)) (all_cons' (zf_W hz tw.2.2).asc (all_cons' (lit (by decide +kernel)) all_nil'))))))
  · have h := ok.rok r hr
    exact all_cons' (lit (by decide +kernel)) (all_map' fun it hit => placeA hz (ok.name _ (h.sub it hit)) (h.lim it hit))
theorem textA {z nl : Str} {s : StoreR} (hz : z ∈ zeros) (hn : nl = "" ∨ nl = "\n") (ok : StoreOk s) : Asc (textT (rowsOf z s) nl) := by
  have h := rowsA hz ok
  refine asc_app (fun c hc => ?_) ?_
  · rw [tl_tjoin] at hc
    rcases mem_joinL hc with q | ⟨p, hp, q⟩
    · exact (asc_lit (s := "\n") (by decide +kernel)) c q
    · obtain ⟨l, hl, rfl⟩ := List.mem_map.mp hp
      obtain ⟨ws, hws, rfl⟩ := List.mem_map.mp hl
      have q : c ∈ tl (Txt.join " " ws) := q
      rw [tl_tjoin] at q
      rcases mem_joinL q with q | ⟨p, hp, q⟩
      · exact (asc_lit (s := " ") (by decide +kernel)) c q
      · obtain ⟨w, hw, rfl⟩ := List.mem_map.mp hp
        exact h ws hws w hw c q
  · rcases hn with rfl | rfl <;> exact asc_lit (by decide +kernel)
theorem Asc.ok {x : Str} (h : Asc x) : PyData.strOk x = true := by
  unfold PyData.strOk
  rw [← Array.all_toList]
  refine List.all_eq_true.mpr fun c hc => decide_eq_true ?_
  have := h c hc
  omega
def Lay (d : PyData) (n : Nat) : Prop := d.canLay0 = true ∧ d.depth ≤ n
theorem lay_all {n : Nat} : ∀ {ds : List PyData}, (∀ d ∈ ds, Lay d n) → PyData.canLayAll0 ds = true ∧ PyData.depthAll ds ≤ n
  | [], _ => by simp [PyData.canLayAll0, PyData.depthAll]
  | d :: ds, h => by
    have h1 := h d (List.mem_cons_self ..)
    have h2 := lay_all fun e he => h e (List.mem_cons_of_mem _ he)
    simp only [PyData.canLayAll0, PyData.depthAll, h1.1, h2.1, Bool.and_self, true_and]
    have := h1.2
    have := h2.2
    omega
theorem lay_tup {n : Nat} {ds : List PyData} (h : ∀ d ∈ ds, Lay d n) : Lay (.tuple ds) (n + 1) := by
  have := lay_all h
  refine ⟨by simp only [PyData.canLay0]; exact this.1, ?_⟩
  simp only [PyData.depth]
  omega
theorem lay_lst {n : Nat} {ds : List PyData} (h : ∀ d ∈ ds, Lay d n) : Lay (.list ds) (n + 1) := by
  have := lay_all h
  refine ⟨by simp only [PyData.canLay0]; exact this.1, ?_⟩
  simp only [PyData.depth]
  omega
theorem Lay.up {d : PyData} {n m : Nat} (h : Lay d n) (l : n ≤ m) : Lay d m := ⟨h.1, Nat.le_trans h.2 l⟩
theorem lay_str {x : Str} (h : Asc x) : Lay (.str x) 1 := by constructor <;> simp [PyData.canLay0, PyData.depth, h.ok]
theorem lay_int (x : Int) : Lay (.int x) 1 := by constructor <;> simp [PyData.canLay0, PyData.depth]
theorem lay_bool (x : Bool) : Lay (.bool x) 1 := by constructor <;> simp [PyData.canLay0, PyData.depth]
theorem lay_non : Lay .none 1 := by constructor <;> simp [PyData.canLay0, PyData.depth]
theorem same {d : PyData} (h : Lay d 20) : SeqAt.shaped d = true ∧ PyData.eqv d d = true := by
  have s : SeqAt.shaped d = true := Bool.and_eq_true_iff.mpr ⟨h.1, decide_eq_true (by have := h.2; omega)⟩
  exact ⟨s, SeqAt.eqv_refl _ (SeqAt.canLay_of_shaped s)⟩
theorem lay_map {α : Type} {f : α → PyData} {n : Nat} {xs : List α} (h : ∀ a ∈ xs, Lay (f a) n) : ∀ d ∈ xs.map f, Lay d n := fun d hd => by
  obtain ⟨a, ha, rfl⟩ := List.mem_map.mp hd
  exact h a ha
theorem lay_cons {n : Nat} {d : PyData} {ds : List PyData} (h : Lay d n) (r : ∀ e ∈ ds, Lay e n) : ∀ e ∈ d :: ds, Lay e n := fun e he => by
  rcases List.mem_cons.mp he with z | z
  · rw [z]
    exact h
  · exact r e z
theorem lay_nil {n : Nat} : ∀ e ∈ ([] : List PyData), Lay e n := fun e he => by cases he
def strsD (ws : List Str) : PyData := .tuple (ws.map PyData.str)
def numsD (ns : List Nat) : PyData := .tuple (ns.map fun n : Nat => PyData.int (n : Int))
def helpD (m : MendR) : PyData := match m.two with
  | none => strsD (m.row.map (·.1))
  | some t => .tuple [strsD (m.row.map (·.1)), strsD (t.2.2.map (·.1))]
def amtD (m : MendR) : PyData := match m.two with
  | none => numsD (m.row.map (·.2))
  | some t => .tuple [numsD (m.row.map (·.2)), numsD (t.2.2.map (·.2))]
def swapD (m : MendR) : PyData := match m.two with
  | none => .none
  | some t => .int (t.2.1 : Int)
def fieldD (m : MendR) : PyData := .tuple [.str m.label, .str m.kind, strsD m.nodes, helpD m, amtD m, swapD m]
def placeD (it : Place) : PyData := .tuple [.str it.1, match it.2 with | none => .none | some k => .int (k : Int)]
def plD (r : List Place) : PyData := .tuple (r.map placeD)
theorem lay_strsD {ws : List Str} (h : ∀ w ∈ ws, Asc w) : Lay (strsD ws) 2 := lay_tup (lay_map fun w hw => lay_str (h w hw))
theorem lay_numsD (ws : List Nat) : Lay (numsD ws) 2 := lay_tup (lay_map fun n _ => lay_int (n : Int))
/-- a mend's words are plain -/
structure MendA (m : MendR) : Prop where
  lb : Asc m.label
  nd : ∀ x ∈ m.nodes, Asc x
  rw' : ∀ r ∈ m.rows, ∀ it ∈ r, Asc it.1
theorem mendA {s : StoreR} (ok : StoreOk s) {m : MendR} (h : m ∈ s.mends) : MendA m := by
  have mk := ok.mok m h
  refine ⟨(ok.mname m h).asc, fun x hx => (ok.name x ?_).asc, fun r hr it hit => (ok.name _ ((mk.rows r hr).sub it hit).1).asc⟩
  unfold MendR.nodes at hx
  split at hx
  · rw [List.mem_singleton.mp hx]
    exact mk.node
  · rename_i o c r e
    rcases List.mem_cons.mp hx with z | z
    · rw [z]
      exact mk.node
    · rw [List.mem_singleton.mp z]
      exact (mk.two o c r e).1
theorem lay_fieldD {m : MendR} (h : MendA m) : Lay (fieldD m) 5 := by
  have names : ∀ r ∈ m.rows, Lay (strsD (r.map (·.1))) 2 := fun r hr => lay_strsD fun w hw => by
    obtain ⟨it, hit, rfl⟩ := List.mem_map.mp hw
    exact h.rw' r hr it hit
  have kd : Asc m.kind := by
    unfold MendR.kind
    split <;> exact asc_lit (by decide +kernel)
  refine lay_tup (lay_cons ((lay_str h.lb).up (by decide)) (lay_cons ((lay_str kd).up (by decide)) (lay_cons ((lay_strsD h.nd).up (by decide)) (lay_cons ?_ (lay_cons ?_ (lay_cons ?_ lay_nil))))))
  · obtain ⟨label, node, row, two⟩ := m
    cases two with
    | none => exact (names row (List.mem_cons_self ..)).up (by decide)
    | some t => exact (lay_tup (n := 2) (lay_cons (names row (List.mem_cons_self ..)) (lay_cons (names t.2.2 (List.mem_cons_of_mem _ (List.mem_cons_self ..))) lay_nil))).up (by decide)
  · unfold amtD
    split
    · exact (lay_numsD _).up (by decide)
    · exact (lay_tup (n := 2) (lay_cons (lay_numsD _) (lay_cons (lay_numsD _) lay_nil))).up (by decide)
  · unfold swapD
    split
    · exact lay_non.up (by decide)
    · exact (lay_int _).up (by decide)
theorem lay_placeD {it : Place} (h : Asc it.1) : Lay (placeD it) 2 := by
  refine lay_tup (lay_cons (lay_str h) (lay_cons ?_ lay_nil))
  split
  · exact lay_non
  · exact lay_int _
theorem lay_plD {r : List Place} (h : ∀ it ∈ r, Asc it.1) : Lay (plD r) 3 := lay_tup (lay_map fun it hit => lay_placeD (h it hit))
section
variable {K : PySem.W.Frag} {H : Hp}
theorem dpa_map {α : Type} {f : α → V} {g : α → PyData} (h : ∀ a, Dp K H (f a) (g a)) : ∀ xs : List α, DpAll K H (xs.map f) (xs.map g)
  | [] => .nil
  | x :: xs => .cons (h x) (dpa_map h xs)
theorem dpa_all {β : Type} {g : β → PyData} {P : V → β → Prop} (h : ∀ v b, P v b → Dp K H v (g b)) : ∀ {vs : List V} {bs : List β}, All2 P vs bs → DpAll K H vs (bs.map g)
  | _, _, .nil => .nil
  | _, _, .cons p r => .cons (h _ _ p) (dpa_all h r)
theorem dp_strT {v : V} {ws : List Str} (h : StrT H v ws) : Dp K H v (strsD ws) := by
  obtain ⟨a, rfl, e⟩ := h
  exact .tup (SqT.of e) (dpa_map (fun x => .str x) ws)
theorem dp_numT {v : V} {ws : List Nat} (h : NumT H v ws) : Dp K H v (numsD ws) := by
  obtain ⟨a, rfl, e⟩ := h
  exact .tup (SqT.of e) (dpa_map (fun n : Nat => .int (n : Int)) ws)
theorem dp_field {v : V} {m : MendR} (h : FieldV H v m) : Dp K H v (fieldD m) := by
  obtain ⟨t, nt, ht, av, rfl, e, e1, e2, e3⟩ := h
  refine .tup (SqT.of e) (.cons (.str _) (.cons (.str _) (.cons (dp_strT e1) (.cons ?_ (.cons ?_ (.cons ?_ .nil))))))
  · obtain ⟨l, n, r, two⟩ := m
    cases two with
    | none =>
      have e2 : StrT H ht (r.map fun q : Item => q.1) := e2
      show Dp K H ht (strsD (r.map fun q : Item => q.1))
      exact dp_strT e2
    | some t =>
      obtain ⟨a, x, y, ea, e, s1, s2⟩ : ∃ a x y, ht = .ref a ∧ H a = some (.tup [x, y]) ∧ StrT H x (r.map fun q : Item => q.1) ∧ StrT H y (t.2.2.map fun q : Item => q.1) := e2
      show Dp K H ht (.tuple [strsD (r.map fun q : Item => q.1), strsD (t.2.2.map fun q : Item => q.1)])
      rw [ea]
      exact .tup (SqT.of e) (.cons (dp_strT s1) (.cons (dp_strT s2) .nil))
  · obtain ⟨l, n, r, two⟩ := m
    cases two with
    | none =>
      have e3 : NumT H av (r.map fun q : Item => q.2) := e3
      show Dp K H av (numsD (r.map fun q : Item => q.2))
      exact dp_numT e3
    | some t =>
      obtain ⟨a, x, y, ea, e, s1, s2⟩ : ∃ a x y, av = .ref a ∧ H a = some (.tup [x, y]) ∧ NumT H x (r.map fun q : Item => q.2) ∧ NumT H y (t.2.2.map fun q : Item => q.2) := e3
      show Dp K H av (.tuple [numsD (r.map fun q : Item => q.2), numsD (t.2.2.map fun q : Item => q.2)])
      rw [ea]
      exact .tup (SqT.of e) (.cons (dp_numT s1) (.cons (dp_numT s2) .nil))
  · unfold MendR.swap swapD
    obtain ⟨l, n, r, two⟩ := m
    cases two with
    | none => exact .non
    | some t => exact .int _
theorem dp_place {v : V} {it : Place} (h : PlaceV H v it) : Dp K H v (placeD it) := by
  obtain ⟨a, rfl, e⟩ := h
  obtain ⟨n, li⟩ := it
  refine .tup (SqT.of e) (.cons (.str _) (.cons ?_ .nil))
  cases li with
  | none => exact .non
  | some k => exact .int _
theorem dp_pl {v : V} {r : List Place} (h : PlT H v r) : Dp K H v (plD r) := by
  obtain ⟨a, xs, rfl, e, h⟩ := h
  exact .tup (SqT.of e) (dpa_all (g := placeD) (fun _ _ => dp_place) h)
end
theorem op_in_seqK {X : Cx} (K : PySem.W.Frag) (hK : X.K = K := by rfl) : OpR X (compareOp .In) (rIn K false) := by
  subst hK
  exact op_in_seq
theorem kt_mask {CM : Addr} {H : Hp} {D : Addr} {acc : List V} (e : H D = some (.lst acc)) : Kt CM H (mask D H) := fun b o h so => by
  rw [mask_ne]
  · exact h
  · intro z
    rw [z, e] at h
    cases h
    exact so.elim
end Z
set_option Elab.async false
set_option linter.all false
set_option maxRecDepth 100000
set_option maxHeartbeats 4000000
namespace Z
open PySem L2 PyProof.Rows
/-! try with several clauses, each of which names what it catches -/
abbrev Cl : Type := Value × Nat × (Addr → Value → Option Addr → TS)
def wClause (i : Nat) (u : Addr → Value → Option Addr → TS) (D : Ends) (cls : Value) (d : Option Addr) (σ : L2.St) (H : Hp) : Prop :=
  ∀ a, H a = none → u a cls d { nx := fun σ1 H1 => D.nx (σ1.set i none) H1, rt := D.rt, bk := fun σ1 H1 => D.bk (σ1.set i none) H1, ct := fun σ1 H1 => D.ct (σ1.set i none) H1 } (σ.set i (some (.ref a))) H
def wClauses (K : PySem.W.Frag) (Wout : WX) (D : Ends) : List Cl → WX
  | [] => Wout
  | (c, i, u) :: r => fun cls d σ H => ∃ b, PySem.W.exmOne K cls c = some b ∧ (b = true → wClause i u D cls d σ H) ∧ (b = false → wClauses K Wout D r cls d σ H)
inductive ClsOk (X : Cx) : List ExceptHandler → List Cl → Prop
  | nil : ClsOk X [] []
  | cons {x n : Str} {c : Value} {i : Nat} {u : Addr → Value → Option Addr → TS} {b0 : Stmt} {suite : List Stmt} {np q : Pos} {hds : List ExceptHandler} {l : List Cl} (at_ : X.N[i]? = some n) (loc : X.env.kindOf n = some .local) (nm : L2.Names X x c)
      (su : ∀ (a : Addr) (ob : Obj) (cls : Value) (d : Option Addr) (pn : List (Addr × Obj)), Zc cls d ob → (∃ vs, ob.data = .fields vs) → PSs (X.suite a ((a, ob) :: pn)) (b0 :: suite) (u a cls d)) (r : ClsOk X hds l) :
      ClsOk X (.ExceptHandler (some (.Name x np)) (some n) (b0 :: suite) q :: hds) ((c, i, u) :: l)
section
variable {X : Cx} {body : List Stmt} {h0 : ExceptHandler} {hds : List ExceptHandler} {l : List Cl} {pos : Pos} {tb : WX → TS} {Wout : WX}
def tTryC (K : PySem.W.Frag) (Wout : WX) (l : List Cl) (tb : WX → TS) : TS := fun D σ H => tb (wClauses K Wout D l) D σ H
theorem ps_tryC (stk : X.stack = X.env :: X.outer) (frm : X.env.frame = some X.env.locals) (nd : X.N.Nodup) (tk : Takes X Wout)
    (bd : ∀ (W : WX) (pn : List (Addr × Obj)) (xe : Value → Shared → Prop), Takes (X.tr pn xe) W → PassesOwn (model X.prog X.w) X.A X.env xe → PSs (X.tr pn xe) body (tb W))
    (hh : ClsOk X (h0 :: hds) l) : PS X (.Try body (h0 :: hds) [] [] pos) (tTryC X.K Wout l tb) := by
  constructor
  intro pz s σ H D I w0
  have ok := I.ok
  have fr : X.A.frames = some (X.env :: X.outer) := ok.frames.trans (congrArg some stk)
  refine wpAny_Try_except ?_
  let XE1 : Value → Shared → Prop := fun v z1 => wpAny (model X.prog X.w) X.A (noteFrame v X.env) (fun _ z2 => wpAny (model X.prog X.w) X.A (setFlight v none) (fun _ z3 =>
    wpAny (model X.prog X.w) X.A (handleBy v X.env (h0 :: hds)) (SP X pz D) X.xe z3) X.xe z2) X.xe z1
  have run := (bd (wClauses X.K Wout D l) (X.pn ++ pz) XE1 (fun u z caught => ?_) PassesOwn.looking).run [] s σ H D (I.toTry _) w0
  · refine wpAny_mono run (fun fl z1 w1 => ?_) (fun _ _ w1 => w1)
    cases fl with
    | ret u =>
      obtain ⟨v, σ1, H1, I1, rv, w2⟩ := w1
      exact ⟨v, σ1, H1, I1.ofTry ok, rv, w2⟩
    | brk =>
      obtain ⟨σ1, H1, I1, w2⟩ := w1
      exact ⟨σ1, H1, I1.ofTry ok, w2⟩
    | cont =>
      obtain ⟨σ1, H1, I1, w2⟩ := w1
      exact ⟨σ1, H1, I1.ofTry ok, w2⟩
    | next =>
      obtain ⟨σ1, H1, I1, w2⟩ := w1
      exact wpAny_execs_nil ⟨σ1, H1, I1.ofTry ok, w2⟩
  · obtain ⟨a, B, zI, pq, σ1, H1, cls, d, rfl, I0, keep, up, sky, fa, os, bare, w⟩ := caught
    have I1 : Inv X pz σ1 H1 zI := I0.ofTry ok
    have sky1 : Sky B (X.env :: X.outer) a (Zc cls d) X.env.locals z.heap := stk ▸ sky
    show wpAny (model X.prog X.w) X.A (noteFrame (.ref a) X.env) _ _ _
    refine Sky.land Zc.steady fr frm sky1 fun g fl upg => ?_
    have I3 : Inv X pz σ1 H1 { z with heap := g } := I1.landed keep fl.1 (up.trans upg) os bare
    obtain ⟨ob, vs, obAt, zc, flds⟩ := fl.there
    have offFr : a ∉ frs (X.env :: X.outer) := fun m => by
      obtain ⟨_, ob1, at1, no1⟩ := fl.2.2.1.mem m
      rw [obAt] at at1
      cases at1
      exact no1 _ flds
    have offL : a ≠ X.env.locals := fun e => offFr (List.mem_filterMap.mpr ⟨X.env, List.mem_cons_self, frm.trans (congrArg some e.symm)⟩)
    have offF : a ∉ X.fs := fun m => by
      obtain ⟨e, me, qe⟩ := List.mem_filterMap.mp m
      exact offFr (List.mem_filterMap.mpr ⟨e, List.mem_cons_of_mem _ me, qe⟩)
    have Su := I3.suite obAt flds fa offL offF
    suffices go : ∀ {hs : List ExceptHandler} {ls : List Cl}, ClsOk X hs ls → wClauses X.K Wout D ls cls d σ1 H1 → wpAny (model X.prog X.w) X.A (handleBy (.ref a) X.env hs) (SP X pz D) X.xe { z with heap := g } from go hh w
    intro hs ls hk
    induction hk with
    | nil =>
      intro w
      refine wpAny_handleBy_nil ?_
      obtain ⟨_, _, _, ob2, vs2, T, oT, ts2, at2, zc2, dt2, fd2, _⟩ := id fl
      have again : wpAny (model X.prog X.w) X.A (setFlight (.ref a) X.env.frame) (fun _ z4 => wpAny (model X.prog X.w) X.A (throw (.ref a) : Sem Flow) (SP X pz D) X.xe z4) X.xe { z with heap := g } := by
        rw [frm]
        refine HandSPX.setFlight_upZ fl fun g4 hold up4 => wpAny_throw (tk _ _ ?_)
        exact ⟨a, B, zI, pz, σ1, H1, cls, d, rfl, I1, keep, (up.trans upg).trans up4, .inr (.inr (stk.symm ▸ hold)), fa, os, bare, w⟩
      unfold PySem.passOn
      refine wpAny_bind (wpAny_field at2 dt2 fd2 ?_)
      rw [if_neg (by simp : ¬ ((Value.ref T == Value.none) = true))]
      first
        | exact wpAny_bind again
        | exact wpAny_bind (wpAny_pure (wpAny_bind again))
    | @cons x n c i u b0 suite np q hds2 l2 at_ loc nm su r ih =>
      intro w
      obtain ⟨b, isb, yes, no⟩ := w
      refine wpAny_handleBy_cons (codeAny_handlers_test ?_) (fun e => nomatch e)
      have ty : PySem.W.Looks (model X.prog X.w) g (typeOf (.ref a)) cls := fun _ _ _ _ k w => wpAny_typeOf_ref (k _ _ obAt) (by rw [zc.1]; exact w)
      have asked : ∀ {Q1 E1 : Value → Shared → Prop}, Q1 c { z with heap := g } → wpAny (model X.prog X.w) (X.A.mark (some (.ref a))) (eval (.Name x np) X.env) Q1 E1 { z with heap := g } := fun {Q1 E1} w1 => by
        obtain ⟨gx, nodbg, own | ⟨notOwn, isBuilt, nn⟩⟩ := nm
        · exact ld_glob (X := X.suite a ((a, ob) :: (X.pn ++ pz))) Su gx own w1 nodbg
        · exact ld_blt (X := X.suite a ((a, ob) :: (X.pn ++ pz))) Su gx notOwn isBuilt w1 nn nodbg
      refine asked ((PySem.W.exm_one (M := model X.prog X.w) I3.kIn ty isb).here ?_)
      cases b with
      | false =>
        show wpAny _ X.A (handleBy (.ref a) X.env hds2) _ _ _
        exact ih (no rfl)
      | true =>
        refine codeAny_handlers_suite_as ?_
        refine HandSPX.lands_againZ fl fun g4 fl4 up4 => ?_
        have I4 : Inv X pz σ1 H1 { z with heap := g4 } := I1.landed keep fl4.1 ((up.trans upg).trans up4) os bare
        obtain ⟨ob4, vs4, obAt4, zc4, flds4⟩ := fl4.there
        have Su4 := I4.suite obAt4 flds4 fa offL offF
        refine store_ok (X := X.suite a ((a, ob4) :: (X.pn ++ pz))) (v := .ref a) Su4 nd at_ (.inl loc) rfl (fun z5 Su5 => ?_) (.inr loc)
        refine wpAny_mono ((su a ob4 cls d (X.pn ++ pz) zc4 ⟨_, flds4⟩).run [] z5 _ H1 _ Su5 (yes rfl a fa)) (fun f z6 w6 => ?_) (fun _ _ e => e.elim)
        have fin : ∀ {σ6 : L2.St} {H6 : Hp} {Q6 : Shared → Prop}, Inv (X.suite a ((a, ob4) :: (X.pn ++ pz))) [] σ6 H6 z6 → (∀ z7, Inv X pz (σ6.set i none) H6 z7 → Q6 z7) →
            wpAny (model X.prog X.w) X.A (do bindName X.env n .none; unbindBehindTheSuite X.env n q) (fun _ z7 => Q6 z7) X.xe z6 := fun {_ _ _} S6 w7 => gone_ok (S6.unsuite ok) nd at_ loc w7
        cases f with
        | ret u =>
          obtain ⟨v6, σ6, H6, S6, r6, w7⟩ := w6
          exact fin S6 fun _ I7 => ⟨_, _, _, I7, r6, w7⟩
        | brk =>
          obtain ⟨σ6, H6, S6, w7⟩ := w6
          exact fin S6 fun _ I7 => ⟨_, _, I7, w7⟩
        | cont =>
          obtain ⟨σ6, H6, S6, w7⟩ := w6
          exact fin S6 fun _ I7 => ⟨_, _, I7, w7⟩
        | next =>
          obtain ⟨σ6, H6, S6, w7⟩ := w6
          exact fin S6 fun _ I7 => ⟨_, _, I7, w7⟩
end
end Z
set_option Elab.async false
set_option linter.all false
set_option maxRecDepth 100000
set_option maxHeartbeats 2000000
namespace Z
open PySem L2 PyProof.Rows
/-! exceptions of the text's own classes, as values -/
structure XC (K : PySem.W.Frag) (C : Addr) : Prop where
  oe : OexC K C
  ga : PySem.W.findIn K (.ref C) "__getattribute__" = some (some (.builtin "BaseException.__getattribute__"))
  gg : PySem.W.findIn K (.ref C) "__getattr__" = some none
  hd : PySem.W.hasDictIn K C = true
  ha : PySem.W.findIn K (.ref C) "__class__" = some (some (.builtin "object.__class__"))
  hn : PySem.W.specialIn K (.builtin "object.__class__") "__get__" = some (some (.builtin "getset_descriptor.__get__"))
  ht : PySem.W.takesIn K (.builtin "object.__class__") = some true
  hm : PySem.W.mroIn K C (.type "object") = some true
theorem XC.cl {K : PySem.W.Frag} {C : Addr} (T : XC K C) : (PySem.W.clsIn K C).isSome = true := by
  obtain ⟨nm, q, N, bs, bm, sn, sub, ab, col, dd, k0, k1, k2, k3, k5, hC, _⟩ := T.oe.cls
  unfold PySem.W.clsIn
  rw [hC]
  rfl
/-- an __init__ that stores its arguments -/
def spI (K : PySem.W.Frag) (fs : List Str) : Sp := fun vs H Q _ => ∃ (a C : Addr) (xs : List V), vs = .ref a :: xs ∧ xs.length = fs.length ∧ OexC K C ∧ (∀ f ∈ fs, PySem.W.findIn K (.ref C) f = some none) ∧ H a = some (exo a C none) ∧
  ∀ (dx : Addr) (H' : Hp), H dx = none → dx ≠ a → H' a = some (exo a C (some dx)) → H' dx = some (exd dx (fs.zip xs).reverse) → (∀ b o, b ≠ a → H b = some o → H' b = some o) → Q .non H'
structure MkE (P : Program) (w : World) (K : PySem.W.Frag) (mg : Str → Option Value) (base : Heap) (x : Str) (C : Addr) (ps fs : List Str) : Prop where
  xc : XC K C
  no : ∀ f ∈ fs, PySem.W.findIn K (.ref C) f = some none
  g : mg x = some (.ref C)
  ini : ∃ fI fd, PySem.W.findIn K (.ref C) "__init__" = some (some (.ref fI)) ∧ PySem.W.typeIn K (.ref fI) = some (.type "function") ∧ FnOk P w K mg base CX0 1 fI fd ps (spI K fs) ∧ Binds K fd ps []
/-- what is wished of a raised error of the class at C whose fields are told -/
def Rz (H : Hp) (E : XK) (C : Addr) (fs : List (Str × V)) : Prop := ∀ (d : Addr) (H' : Hp), H d = none → Same H H' → H' d = some (.xd fs) → E (.ref C) (some d) H'
theorem rz_in {P : Program} {w : World} {K : PySem.W.Frag} {mg : Str → Option Value} {base : Heap} {x : Str} {C : Addr} {ps fs : List Str} (M : MkE P w K mg base x C ps fs) {H1 : Hp} {xs : List V} {Q : XK} (hl : xs.length = fs.length)
    (k : Rz H1 Q C (fs.zip xs).reverse) : ∀ a, H1 a = none → spI K fs (.ref a :: (xs ++ [])) (upd H1 a (exo a C none))
      (fun v H2 => v = .non ∧ ∃ (d : Addr) (gs : List (Str × V)), H2 a = some (exo a C (some d)) ∧ H2 d = some (exd d gs) ∧ H1 d = none ∧ Q (.ref C) (some d) (upd (del H2 a) d (.xd gs))) (fun _ _ _ => False) := by
  intro a ha
  refine ⟨a, C, xs, by rw [List.append_nil], hl, M.xc.oe, M.no, upd_same, fun dx H2 hdx ne hA hD hk => ⟨rfl, dx, _, hA, hD, ?_, ?_⟩⟩
  · rw [upd_ne ne] at hdx
    exact hdx
  · have h1 : H1 dx = none := by
      rw [upd_ne ne] at hdx
      exact hdx
    refine k dx _ h1 (fun b o e => ?_) upd_same
    have nba : b ≠ a := ne_of_none e ha
    rw [upd_ne (ne_of_none e h1), del_ne nba]
    exact hk b o nba (by rw [upd_ne nba]; exact e)
theorem pmk_E {X : Cx} {x : Str} {C : Addr} {ps fs : List Str} {e : Expr} {es : List Expr} {ta : TA} {p pos : Pos} (M : MkE X.prog X.w X.K X.mg X.base x C ps fs) (room : Room 2 X.A) (ha : PA X (e :: es) ta) (hg : Gl X x := by rfl)
    (hdb : (x == ("__debug__" : Str)) = false := by decide) (he : starEach (e :: es) X.env = (false, eval e X.env) :: starEach es X.env := by rfl) (hpl : (backTo pos (starEach es X.env)).any (·.1) = false := by rfl) :
    PMk X (.Call (.Name x p) (e :: es) [] pos) (tMkO C (spI X.K fs) [] ta) := by
  obtain ⟨fI, fd, h1, h2, h3, h4⟩ := M.ini
  exact pmk_oex M.xc.oe h1 h2 h3 room h4 .nil (pass0 (X := X)) hg M.g ha hdb he hpl
/-- what the top says of a class of errors -/
structure Bad (K : PySem.W.Frag) (mg : Str → Option Value) (x : Str) (C : Addr) : Prop where
  xc : XC K C
  g : mg x = some (.ref C)
  te : PySem.W.exmOne K (.ref C) (.ref C) = some true
theorem Bad.xf {K : PySem.W.Frag} {mg : Str → Option Value} {x : Str} {C : Addr} (T : Bad K mg x C) : XfC K C := ⟨T.xc.ga, T.xc.gg, T.xc.oe.exC, T.xc.hd⟩
/-- an error with one field -/
theorem ok_err1 {P : Program} {w : World} {K : PySem.W.Frag} {mg : Str → Option Value} {base : Heap} {f : Addr} {fd : FuncData} {qual n : Str} {st : Stmt} {p0 p1 p2 p3 p4 : Pos} (F : Fun K "__init__" qual st f fd) (S : FnScope ["self", n] ["self", n] (defScope st))
    (hb : defBody st = [.Assign [.Attribute (.Name "self" p0) n p1] (.Name n p2) p3]) (v0 : Vis (defScope st) "self") (v1 : Vis (defScope st) n) (d1 : (n == ("__debug__" : Str)) = false) (d2 : (n == ("__classdict__" : Str)) = false) : FnOk P w K mg base CX0 1 f fd ["self", n] (spI K [n]) := by
  refine F.ok S (fun vs H Q E h => ?_) (fun cdv A outer s H vs Q E hr h => ?_)
  · obtain ⟨a, C, xs, rfl, hl, _⟩ := h
    show xs.length + 1 = _
    rw [hl]
    rfl
  · obtain ⟨a, C, xs, rfl, hl, T, no, ha, k⟩ := h
    obtain ⟨x, rfl⟩ : ∃ x, xs = [x] := by
      match xs, hl with
      | [x], _ => exact ⟨x, rfl⟩
    rw [hb]
    refine ⟨_, (pss_one (ps_ost (pe_var (i := 0) rfl v0) (pe_var (i := 1) rfl v1 d1 d2))), ?_⟩
    refine ⟨_, rfl, _, rfl, a, C, rfl, T, no n (List.mem_singleton.mpr rfl), .inl ⟨ha, fun dx hd ne => ?_⟩⟩
    refine k dx _ hd ne (by rw [upd_same]) (by rw [upd_ne ne, upd_same]; rfl) fun b o h1 h2 => ?_
    rw [upd_ne h1, upd_ne (ne_of_none h2 hd)]
    exact h2
end Z
set_option Elab.async false
set_option linter.all false
set_option maxRecDepth 100000
set_option maxHeartbeats 2000000
namespace Z
open PySem L2 PyProof.Rows
/-! a def that is called where no repr runs -/
structure FnG (P : Program) (w : World) (K : PySem.W.Frag) (mg : Str → Option Value) (base : Heap) (CX : CXT) (k : Nat) (f : Addr) (fd : FuncData) (ps : List Str) (sp : Sp) : Prop where
  len : ∀ vs H Q E, sp vs H Q E → vs.length = ps.length
  go : ∀ (A : Around), A.guards = some [] → ∀ (outer : List Env) (s : Shared) (H : Hp) (args : Args) (us : List Value) (vs : List V) (Q : VK) (E : XK), Room k A → Env0 P w K mg base A outer s H →
    BindsTo s fd args (ps.zip us) → Vals vs us → sp vs H Q E → codeAny (model P w) A (.call (.ref f) args) (CR CX outer P w H s Q E) s
section
variable {P : Program} {w : World} {K : PySem.W.Frag} {mg : Str → Option Value} {base : Heap}
theorem fnG_of {x qual : Str} {st : Stmt} {f : Addr} {fd : FuncData} {N ps : List Str} {k : Nat} {sp : Sp} (F : Fun K x qual st f fd) (S : FnScope N ps (defScope st)) (len : ∀ vs H Q E, sp vs H Q E → vs.length = ps.length)
    (hb : ∀ (cdv : Value) (A : Around), A.guards = some [] → ∀ (outer : List Env) (s : Shared) (H : Hp) (vs : List V) (Q : VK) (E : XK), Room k (A.deeper (envOfC qual (defScope st) s.heap.objs.size f cdv)) → sp vs H Q E →
      ∃ t, PSs (cxOf CX0 P w K mg base N qual (defScope st) f cdv A outer s H E).nox (defBody st) t ∧ t { nx := fun _ H' => Q .non H', rt := Q } (start N vs) H) : FnG P w K mg base CX0 (k + 1) f fd ps sp := by
  obtain ⟨oc, od, kV, doc, pm, an, cdv, ct, osl, rfl, lk, hcd⟩ := F.ex
  constructor
  · exact len
  · intro A hgd outer s H args us vs Q E room e0 bd rv hsp
    have n1 := len _ _ _ _ hsp
    have inH : K.In s.heap := e0.mod.kin.keeps fun b o z => (e0.bs b o z).1
    have nl : s.heap.NoLimit := e0.mod.nolimit.keeps fun b o z => (e0.bs b o z).1
    have kinds : ∀ y ∈ ps.zip us, (defScope st).names.lookup y.1 = some .local ∨ ((defScope st).names.lookup y.1 = some .cell ∧ ((cellsFrom (s.heap.objs.size + 1) (defScope st).names []).lookup y.1).isSome = true) := by
      rintro ⟨n, v⟩ hy
      cases S.par n (List.of_mem_zip hy).1 with
      | inl q => exact .inl q
      | inr q => exact .inr ⟨q, PySem.W.cellsFrom_some _ _ _ (.inl q)⟩
    refine codeAny_call_function room.depth (inH _ _ lk) rfl S.co S.gen rfl (PySem.W.codeRec_of inH hcd) (bd _ _ _ _ ?_)
    refine wpAny_newFunctionEnv_cells S.kind kinds fun env he s1 x => ?_
    cases he
    refine ⟨nl.keeps x.toInCall.keep, codeAny_func ?_⟩
    obtain ⟨t, ht, hq⟩ := hb cdv A hgd outer s H vs Q E (room.deeper _) hsp
    have I0 := inv_start (CX := CX0) (P := P) (w := w) (K := K) (mg := mg) (base := base) (E := E) S room.hd e0 n1 rv x
    refine wpAny_mono (ht.nox.run [] s1 (start N vs) H _ I0 hq) (fun fl s' hs => ?_) (fun e s' hs => hs)
    cases fl with
    | ret u =>
      obtain ⟨v, σ', H', J, rv, q⟩ := hs
      exact ⟨v, H', J.os, J.bare, J.base, J.hok, rv, q⟩
    | next =>
      obtain ⟨σ', H', J, q⟩ := hs
      exact ⟨V.non, H', J.os, J.bare, J.base, J.hok, rfl, q⟩
    | brk => exact hs.elim fun _ z => z.elim fun _ z => z.2.elim
    | cont => exact hs.elim fun _ z => z.elim fun _ z => z.2.elim
end
/-- the same, of a def that bears a table -/
theorem fnG_ofT {P : Program} {w : World} {K : PySem.W.Frag} {mg : Str → Option Value} {base : Heap} {x qual : Str} {st : Stmt} {f c : Addr} {fd : FuncData} {N ps : List Str} {k : Nat} {sp : Sp} (F : Fun K x qual st f fd) (hc : fd.code = .ref c) (S : FnScope N ps (defScope st)) (len : ∀ vs H Q E, sp vs H Q E → vs.length = ps.length)
    (hb : ∀ (A : Around), A.guards = some [] → ∀ (outer : List Env) (s : Shared) (H : Hp) (vs : List V) (Q : VK) (E : XK), Room k (A.deeper (envOfC qual (defScope st) s.heap.objs.size f (.ref c))) → sp vs H Q E →
      ∃ t, PSs (cxOf CX0 P w K mg base N qual (defScope st) f (.ref c) A outer s H E).nox (defBody st) t ∧ t { nx := fun _ H' => Q .non H', rt := Q } (start N vs) H) : FnG P w K mg base CX0 (k + 1) f fd ps sp := by
  obtain ⟨oc, od, kV, doc, pm, an, cdv, ct, osl, rfl, lk, hcd⟩ := F.ex
  have e : cdv = .ref c := hc
  subst e
  constructor
  · exact len
  · intro A hgd outer s H args us vs Q E room e0 bd rv hsp
    have n1 := len _ _ _ _ hsp
    have inH : K.In s.heap := e0.mod.kin.keeps fun b o z => (e0.bs b o z).1
    have nl : s.heap.NoLimit := e0.mod.nolimit.keeps fun b o z => (e0.bs b o z).1
    have kinds : ∀ y ∈ ps.zip us, (defScope st).names.lookup y.1 = some .local ∨ ((defScope st).names.lookup y.1 = some .cell ∧ ((cellsFrom (s.heap.objs.size + 1) (defScope st).names []).lookup y.1).isSome = true) := by
      rintro ⟨n, v⟩ hy
      cases S.par n (List.of_mem_zip hy).1 with
      | inl q => exact .inl q
      | inr q => exact .inr ⟨q, PySem.W.cellsFrom_some _ _ _ (.inl q)⟩
    refine codeAny_call_function room.depth (inH _ _ lk) rfl S.co S.gen rfl (PySem.W.codeRec_of inH hcd) (bd _ _ _ _ ?_)
    refine wpAny_newFunctionEnv_cells S.kind kinds fun env he s1 x => ?_
    cases he
    refine ⟨nl.keeps x.toInCall.keep, codeAny_func ?_⟩
    obtain ⟨t, ht, hq⟩ := hb A hgd outer s H vs Q E (room.deeper _) hsp
    have I0 := inv_start (CX := CX0) (P := P) (w := w) (K := K) (mg := mg) (base := base) (E := E) S room.hd e0 n1 rv x
    refine wpAny_mono (ht.nox.run [] s1 (start N vs) H _ I0 hq) (fun fl s' hs => ?_) (fun e s' hs => hs)
    cases fl with
    | ret u =>
      obtain ⟨v, σ', H', J, rv, q⟩ := hs
      exact ⟨v, H', J.os, J.bare, J.base, J.hok, rv, q⟩
    | next =>
      obtain ⟨σ', H', J, q⟩ := hs
      exact ⟨V.non, H', J.os, J.bare, J.base, J.hok, rfl, q⟩
    | brk => exact hs.elim fun _ z => z.elim fun _ z => z.2.elim
    | cont => exact hs.elim fun _ z => z.elim fun _ z => z.2.elim
/-! the head's end, for such a law; ts: code objects and their tables -/
theorem lawGT {P : Program} {w : World} {K : PySem.W.Frag} {mg mb : Str → Option Value} {k : Nat} {fa a : Addr} {ts : List (Addr × Addr)} {fd : FuncData} {x : Str} {sp : Sp} {z0 : Shared} {vs : List Value} {ns : List Int}
    (inH : K.In z0.heap) (gl : z0.heap.Ns mainGlobals mg) (bl : z0.heap.Ns builtinsNs mb) (bb : ∀ x : Str, x ≠ "__name__" → mb x = bootBuiltins x) (nl : z0.heap.NoLimit) (gn : z0.gens = #[])
    (tA : ∀ p ∈ ts, z0.heap.get? p.2 = some { cls := .none, data := .fields #[] }) (tK : ∀ p ∈ ts, K.lookup p.2 = none) (tC : ∀ p ∈ ts, PySem.W.CodeHd z0.heap p.1 p.2)
    (md : ∃ (bm : Addr) (ob : Obj), mg "__builtins__" = some (.ref bm) ∧ bm ≠ builtinsNs ∧ z0.heap.get? bm = some ob ∧ ob.cls = .type "module" ∧ ob.dict = some builtinsNs ∧ ob.data = .plain)
    (at_ : z0.heap.get? a = some { cls := .type "list", data := .seq vs.toArray }) (hi : IntsAre vs ns) (hl : ns.length ≤ sizeLine) (room : Room k callerA)
    (F : ∀ base : Heap, K.In base → base.Ns mainGlobals mg → (∀ p ∈ ts, LamX.TabB base mg p.1 p.2) → FnG P w K mg base CX0 k fa fd [x] sp) (bind : ∀ (s : Shared) (u : Value), BindsTo s fd ⟨[u], []⟩ [(x, u)])
    (hsp : ∀ H : Hp, (∀ p ∈ ts, H p.2 = some (.tbl #[])) → SqL K H a (ns.map V.int) → sp [.ref a] H (fun v _ => v = .bl true) fun _ _ _ => False) :
    codeAny (model P w) callerA (.call (.ref fa) ⟨[.ref a], []⟩) (fun r z => r = .ok (.ret (.bool true)) ∧ OldK z0.heap z.heap ∧ z.os = z0.os ∧ AllBare z.gens) z0 := by
  have rv := vals_ints hi
  have ln := hi.length
  let TS : List Addr := ts.map Prod.snd
  have inTS : ∀ p ∈ ts, p.2 ∈ TS := fun p hp => List.mem_map.mpr ⟨p, hp, rfl⟩
  have ofTS : ∀ {b : Addr}, b ∈ TS → ∃ p ∈ ts, p.2 = b := fun {b} hb => (List.mem_map.mp hb).elim fun p h => ⟨p, h.1, h.2⟩
  have objT : ∀ {b : Addr}, b ∈ TS → z0.heap.get? b = some { cls := .none, data := .fields #[] } := fun {b} hb => by
    obtain ⟨p, hp, rfl⟩ := ofTS hb
    exact tA p hp
  have scr : a ∉ TS := fun hb => by
    have e := at_.symm.trans (objT hb)
    cases (show Data.seq vs.toArray _ = Data.fields #[] from congrArg Obj.data (Option.some.inj e))
  have main : ∀ H : Hp, (∀ p ∈ ts, H p.2 = some (.tbl #[])) → (∀ b, H b ≠ none → b ∈ TS ∨ (b = a ∧ K.lookup b = none ∧ ∃ o xs, H b = some (.frz o (.lst xs)))) → SqL K H a (ns.map V.int) → HOk P w H z0.heap →
      codeAny (model P w) callerA (.call (.ref fa) ⟨[.ref a], []⟩) (fun r z => r = .ok (.ret (.bool true)) ∧ OldK z0.heap z.heap ∧ z.os = z0.os ∧ AllBare z.gens) z0 := by
    intro H hT only hS hok
    have free : ∀ {b : Addr} {o : Obj}, z0.heap.get? b = some o → (∀ us n, o.data ≠ .seq us n) → o.data ≠ .fields #[] → H b = none := by
      intro b o e h1 h2
      refine Classical.byContradiction fun n => ?_
      rcases only b n with hb | ⟨rfl, _⟩
      · rw [objT hb] at e
        cases e
        exact h2 rfl
      · rw [at_] at e
        cases e
        exact h1 _ _ rfl
    have seen : ∀ {b : Addr} {o : Obj}, z0.heap.get? b = some o → H b = none → (hidT z0.heap H).get? b = some o := fun e n => hidT_get e n
    have nsH : ∀ {b : Addr} {m : Str → Option Value}, z0.heap.Ns b m → (hidT z0.heap H).Ns b m := by
      rintro b m ⟨o, es, ep, e, dt, r⟩
      refine ⟨o, es, ep, seen e (free e (fun us n y => ?_) fun y => ?_), dt, r⟩ <;> cases dt.symm.trans y
    have kin : K.In (hidT z0.heap H) := by
      intro b o e
      refine seen (inH b o e) (Classical.byContradiction fun n => ?_)
      rcases only b n with hb | ⟨_, h2, _⟩
      · obtain ⟨p, hp, rfl⟩ := ofTS hb
        cases e.symm.trans (tK p hp)
      · cases e.symm.trans h2
    have TB : ∀ p ∈ ts, LamX.TabB (hidT z0.heap H) mg p.1 p.2 := by
      intro p hp
      have pT := tA p hp
      constructor
      · obtain ⟨q0, q1, q2, q3, q4, q5, q6, q7, q8, h0, h1, h2, h3, h4, h5, h6, h7, h8, h9⟩ := tC p hp
        refine ⟨q0, q1, q2, q3, q4, q5, q6, q7, q8, seen h0 (free h0 (fun us n y => ?_) fun y => ?_), h1, h2, h3, h4, h5, h6, h7, h8, h9⟩
        · cases h2.symm.trans y
        · cases h2.symm.trans y
          simp at h3
      · obtain ⟨bm, ob, m1, m2, m3, m4, m5, m6⟩ := md
        refine ⟨bm, ob, m1, m2, fun y => ?_, fun y => ?_, seen m3 (free m3 (fun us n y => ?_) fun y => ?_), m4, m5, m6⟩
        · obtain ⟨o, es, ep, e, dt, _⟩ := gl
          rw [← y, m3] at e
          cases e
          cases m6.symm.trans dt
        · rw [y, pT] at m3
          cases m3
          cases m6
        · cases m6.symm.trans y
        · cases m6.symm.trans y
      · intro y
        obtain ⟨o, es, ep, e, dt, _⟩ := gl
        rw [y, pT] at e
        cases e
        cases dt
    have mod : Mod K mg (hidT z0.heap H) := ⟨kin, nsH gl, ⟨mb, nsH bl, bb⟩, nl.elim fun mc y => ⟨mc, nsH y.1, y.2⟩⟩
    have e0 : Env0 P w K mg (hidT z0.heap H) callerA [] z0 H :=
      ⟨rfl, mod, fun b o e => of_hidT e, Nat.le_of_eq (hidT_size _ _), trivial, fun b e => (List.not_mem_nil (show b ∈ [] from e)).elim, hok, .of_eq gn⟩
    have run := (F _ kin (nsH gl) TB).go callerA rfl [] z0 H ⟨[.ref a], []⟩ [.ref a] [.ref a] _ _ room e0 (bind z0 (.ref a)) (.cons rfl .nil) (hsp H hT hS)
    refine codeAny_mono run fun r z h => ?_
    cases r with
    | error e => exact False.elim h
    | ok fl =>
      cases fl with
      | next => exact False.elim h
      | brk => exact False.elim h
      | cont => exact False.elim h
      | ret u =>
        obtain ⟨v, H2, os, bare, un, hok2, r2, q⟩ := h
        cases (show v = .bl true from q)
        cases (show u = Value.bool true from r2)
        have stays : ∀ {b : Addr} {o : Obj}, b ∉ TS → z0.heap.get? b = some o → z.heap.get? b = some o := by
          intro b o hb e
          by_cases n : H b = none
          · exact un.keep b o e n (fun m => (List.not_mem_nil (show b ∈ [] from m)).elim) (by simp)
          · rcases only b n with y | ⟨_, _, ob, xs, y⟩
            · exact (hb y).elim
            · obtain ⟨e1, _⟩ := hok b _ y
              obtain ⟨e2, _⟩ := hok2 b _ (un.frzs b ob _ y)
              cases e.symm.trans e1
              exact e2
        have grew : ∀ p ∈ ts, ∃ more : Array Value, z.heap.get? p.2 = some { cls := .none, data := .fields more } := fun p hp =>
          (un.tbls p.2 #[] (hT p hp)).elim fun more y => ⟨_, hok2 p.2 _ y⟩
        refine ⟨rfl, ⟨fun b o e => ?_, fun b o e => ?_⟩, os, bare⟩
        · by_cases hb : b ∈ TS
          · obtain ⟨p, hp, rfl⟩ := ofTS hb
            obtain ⟨more, hm⟩ := grew p hp
            cases e.symm.trans (tA p hp)
            exact .inr (.inl ⟨((tC p hp).tab (tA p hp)).isCodeTable, rfl, #[], more, rfl, by rw [Array.empty_append]; exact hm⟩)
          · exact .inl (stays hb e)
        · by_cases hb : b ∈ TS
          · obtain ⟨p, hp, rfl⟩ := ofTS hb
            exact (grew p hp).elim fun more hm => ⟨_, hm⟩
          · exact ⟨o, stays hb e⟩
  let base0 : Hp := fun b => if b ∈ TS then some (.tbl #[]) else none
  have b0 : ∀ {b}, b ∈ TS → base0 b = some (.tbl #[]) := fun hb => if_pos hb
  have b1 : ∀ {b}, b ∉ TS → base0 b = none := fun hb => if_neg hb
  cases hk : K.lookup a with
  | some o =>
    cases at_.symm.trans (inH a o hk)
    refine main base0 (fun p hp => b0 (inTS p hp)) (fun b n => ?_) (.inr ⟨_, vs.toArray, _, hk, rfl, rfl, rfl, by rw [List.size_toArray, ln]; exact hl, by simpa using rv⟩) (fun b u e => ?_)
    · by_cases hb : b ∈ TS
      · exact .inl hb
      · exact (n (b1 hb)).elim
    · by_cases hb : b ∈ TS
      · cases (b0 hb).symm.trans e
        exact objT hb
      · cases (b1 hb).symm.trans e
  | none =>
    have on : (upd base0 a (HO.frz { cls := .type "list", data := .seq vs.toArray } (.lst (ns.map V.int)))) a = some (HO.frz { cls := .type "list", data := .seq vs.toArray } (.lst (ns.map V.int))) := upd_same
    refine main (upd base0 a (HO.frz { cls := .type "list", data := .seq vs.toArray } (.lst (ns.map V.int)))) (fun p hp => ?_) (fun b n => ?_) (.inl (.inr ⟨_, on⟩)) (fun b u e => ?_)
    · rw [upd_ne (fun y : p.2 = a => scr (by rw [← y]; exact inTS p hp))]
      exact b0 (inTS p hp)
    · by_cases y : b = a
      · exact .inr ⟨y, by rw [y]; exact hk, _, _, by rw [y]; exact on⟩
      · rw [upd_ne y] at n
        by_cases hb : b ∈ TS
        · exact .inl hb
        · exact (n (b1 hb)).elim
    · by_cases y : b = a
      · subst y
        cases on.symm.trans e
        exact ⟨at_, by rw [List.length_map]; exact hl, vs, _, rv, at_⟩
      · rw [upd_ne y] at e
        by_cases hb : b ∈ TS
        · cases (b0 hb).symm.trans e
          exact objT hb
        · cases (b1 hb).symm.trans e
/-! repr of data -/
def rRepD (K : PySem.W.Frag) : List V → Hp → VK → Prop := fun xs H Q => ∃ x d, xs = [x] ∧ Dp K H x d ∧ PyData.showable d = true ∧ PyData.hasDict d = false ∧ d.depth ≤ 40 ∧ d.shown.length ≤ sizeLine ∧ Q (.str d.shown) H
theorem call_reprD {X : Cx} (hg : X.A.guards = some []) (hu : X.A.units + 64 < cLine) : CallR X (.builtin "repr") (rRepD X.K) := by
  intro pins s σ H xs us Q I r h
  obtain ⟨x, d, rfl, hd, h1, h2, h3, h4, q⟩ := h
  obtain ⟨u, rfl, ru⟩ := vals1 r
  obtain ⟨as, rd⟩ := Dp.reads I d x u hd ru
  cases hd with
  | non =>
    cases ru
    exact PySem.P.repr_of_none ⟨.str _, H, I.tok _, ⟨_, rfl⟩, (show PyData.shown .none = "None" by simp only [PyData.shown]) ▸ q⟩
  | bl b =>
    cases ru
    have e : PyData.shown (.bool b) = (if b = true then Str.ofString "True" else Str.ofString "False") := by simp only [PyData.shown]
    rw [e] at q
    exact PySem.P.repr_of_bool ⟨.str _, H, I.tok _, ⟨_, rfl⟩, q⟩
  | int i =>
    obtain ⟨t, rfl⟩ := ru
    have hs : i.natAbs.log2 < 1920 := by simpa [PyData.showable] using h1
    exact PySem.P.repr_of_int hs ⟨.str _, H, I.tok _, ⟨_, rfl⟩, (show PyData.shown (.int i) = toString i by simp only [PyData.shown]) ▸ q⟩
  | str z =>
    obtain ⟨t, rfl⟩ := ru
    have e : PyData.shown (.str z) = reprText z := by simp only [PyData.shown]
    rw [e] at q h4
    exact PySem.P.repr_of_str ⟨.str _, H, I.tok _, ⟨_, rfl⟩, q⟩ h4
  | lst a b =>
    cases ru
    exact repr_of_reads' rd h1 (PyData.noDict_hsm h2) hg (by omega) (fun _ _ z => z) (fun h' t tk hk => ⟨.str _, H, I.kept (t' := tk) hk, ⟨t, rfl⟩, q⟩) h4
  | tup a b =>
    cases ru
    exact repr_of_reads' rd h1 (PyData.noDict_hsm h2) hg (by omega) (fun _ _ z => z) (fun h' t tk hk => ⟨.str _, H, I.kept (t' := tk) hk, ⟨t, rfl⟩, q⟩) h4
end Z
set_option Elab.async false
set_option linter.all false
set_option maxRecDepth 100000
set_option maxHeartbeats 2000000
namespace Z
open PySem L2 PyProof.Rows
/-! a lambda that is handed over, and what its making changes: the maker's own table alone -/
structure LamG (P : Addr) (q : Str) (H H1 : Hp) : Prop where
  ext : ∀ b o, b ≠ P → H b = some o → H1 b = some o
  tab : LamX.TabS H1 P q
  stay : ∀ b, H1 b = none → H b = none
theorem LamG.gr {T : List Addr} {P : Addr} {q : Str} {H H1 : Hp} (g : LamG P q H H1) (t : LamX.TabS H P q) : Gr (P :: T) H H1 := by
  obtain ⟨ps, e, _⟩ := t
  refine ⟨fun b o eb n => g.ext b o (fun z => ?_) eb, fun P' t' => ?_, g.stay, fun P' n qs e' => g.ext P' _ (fun z => n (by rw [z]; exact List.mem_cons_self ..)) e'⟩
  · rw [z, e] at eb
    exact n ps (Option.some.inj eb).symm
  · by_cases z : P' = P
    · obtain ⟨qs, e1, t1, _⟩ := g.tab
      rw [z]
      exact ⟨qs, e1, t1⟩
    · obtain ⟨qs, e1, t1⟩ := t'
      exact ⟨qs, g.ext P' _ z e1, t1⟩
theorem Gr.tabS {T : List Addr} {P : Addr} {q : Str} {H H1 : Hp} (g : Gr T H H1) (n : P ∉ T) (t : LamX.TabS H P q) : LamX.TabS H1 P q := by
  obtain ⟨ps, e, t1, t2⟩ := t
  refine ⟨ps, g.keep P n ps e, t1, fun pos cv h => ?_⟩
  obtain ⟨c, e1, e2⟩ := t2 pos cv h
  exact ⟨c, e1, g.ext _ _ e2 (fun qs => LamX.codeO_ne qs)⟩
theorem Gr.more {T : List Addr} {P : Addr} {H H1 : Hp} (g : Gr T H H1) : Gr (P :: T) H H1 := ⟨g.ext, g.tab, g.stay, fun P' n ps e => g.keep P' (fun z => n (List.mem_cons_of_mem _ z)) ps e⟩
section
variable {X : Cx} {pins : List (Addr × Obj)} {σ : L2.St} {H : Hp} {s : Shared}
theorem lam_make {c P : Addr} {ps : Arguments} {bd : Expr} {sc : Scope} {pos : Pos} {E Q : Value → Shared → Prop} (I : Inv X pins σ H s) (TB : LamX.TabB X.base X.mg c P) (hc : X.env.code = .ref c)
    (hT : LamX.TabS H P (X.env.qual ++ "<lambda>")) (nodef : defaultsOf ps X.env = ([], [])) (has : ∀ y ∈ sc.names, y.2 = .free → ∃ c, X.env.cells.lookup y.1 = some c)
    (k : ∀ (f c' : Addr) (pm ctv : Value) (H1 : Hp) (z : Shared), Inv X pins σ H1 z → LamG P (X.env.qual ++ "<lambda>") H H1 →
      z.heap.get? f = some (PySem.W.kla_obj "<lambda>" (X.env.qual ++ "<lambda>") ps bd sc (cloFrom X.env.cells sc.names []) pm c' ctv) → H1 f = none → f ∉ frs X.stack → H1 c' = some (LamX.CodeO c' (X.env.qual ++ "<lambda>")) → Q (.ref f) z) :
    wpAny (model X.prog X.w) X.A (eval (.Lambda ps bd sc pos) X.env) Q E s := by
  obtain ⟨tb, eP, tri, among⟩ := hT
  have eP2 : s.heap.get? P = some { cls := .none, data := .fields tb } := I.hok P _ eP
  have bi := TB.bm.keeps I.bk
  have off : ∀ f, s.heap.objs.size ≤ f → f ∉ frs X.stack := by
    intro f hf m
    rcases List.mem_cons.mp (I.stkSub _ m) with e | e
    · have lt := I.lt
      rw [← e] at lt
      exact Nat.lt_irrefl _ (Nat.lt_of_lt_of_le lt hf)
    · exact I.nofs hf e
  refine PySem.W.kla_eval nodef ?_
  cases hit : codeAmong pos tb.toList with
  | some cv =>
    obtain ⟨c', rfl, co⟩ := among pos cv hit
    refine PySem.W.kla_makeFunctionHit (mg := X.mg) (c := c) (P := P) (ps := tb) (closure_ok has) I.ok.glob (I.mod.glob.keeps I.bk) hc (TB.code.keeps I.bk) eP2 tri hit bi fun ctv h1 tk hx hsz => ?_
    refine k h1.objs.size c' ((X.mg "__name__").getD .none) ctv H _ (I.kept fun b o e => Heap.get?_push_of_some _ (hx b o e)) ⟨fun _ _ _ e => e, ⟨tb, eP, tri, among⟩, fun _ e => e⟩ (Heap.get?_push_size _ rfl) (I.hok.fresh hsz) (off _ hsz) co
  | none =>
    refine PySem.W.kla_makeFunction (mg := X.mg) (c := c) (P := P) (ps := tb) (closure_ok has) I.ok.glob (I.mod.glob.keeps I.bk) hc (TB.code.keeps I.bk) eP2 tri hit TB.gP bi fun c' ctv h1 tk hx hge hlt rec_ there => ?_
    obtain ⟨c2, oc, us, t, e2, oc2, dt, vt⟩ := rec_
    cases e2
    have hsz : s.heap.objs.size ≤ h1.objs.size := Nat.le_of_lt (Nat.lt_of_le_of_lt hge hlt)
    have fc : H c' = none := I.hok.fresh hge
    have nPc : P ≠ c' := ne_of_none eP fc
    have I2 := LamX.inv_table (t' := tk) (more := #[rawInt pos.line, rawInt pos.col, .ref c']) (h' := h1.push (PySem.W.kla_obj "<lambda>" (X.env.qual ++ "<lambda>") ps bd sc (cloFrom X.env.cells sc.names []) ((X.mg "__name__").getD .none) c' ctv)) I eP
      (fun b o n e => Heap.get?_push_of_some _ (hx b o n e)) (Heap.get?_push_of_some _ there) hge ⟨oc, us, t, Heap.get?_push_of_some _ oc2, dt, vt⟩
    have ex : ∀ b o, b ≠ P → H b = some o → (upd (upd H P (.tbl (tb ++ #[rawInt pos.line, rawInt pos.col, .ref c']))) c' (LamX.CodeO c' (X.env.qual ++ "<lambda>"))) b = some o := fun b o n e => by
      rw [upd_ne (ne_of_none e fc), upd_ne n]
      exact e
    have eL : (tb ++ #[rawInt pos.line, rawInt pos.col, .ref c']).toList = tb.toList ++ [rawInt pos.line, rawInt pos.col, .ref c'] := by simp
    refine k h1.objs.size c' ((X.mg "__name__").getD .none) ctv _ _ I2 ⟨ex, ⟨_, by rw [upd_ne nPc, upd_same], by rw [eL]; exact PySem.TriplesOk_snoc _ _ _ _ tri, fun p2 cv hcv => ?_⟩, fun b e => ?_⟩ (Heap.get?_push_size _ rfl) ?_ (off _ hsz) upd_same
    · rw [eL] at hcv
      rcases LamX.among_app _ tri hcv with y | y
      · obtain ⟨c0, e1, e2⟩ := among p2 cv y
        refine ⟨c0, e1, ex _ _ (fun z => ?_) e2⟩
        rw [z, eP] at e2
        exact LamX.codeO_ne tb (Option.some.inj e2).symm
      · exact ⟨c', y, upd_same⟩
    · by_cases y : b = c'
      · rw [y]
        exact fc
      · rw [upd_ne y] at e
        by_cases y2 : b = P
        · rw [y2, upd_same] at e
          cases e
        · rw [upd_ne y2] at e
          exact e
    · rw [upd_ne (Nat.ne_of_gt hlt), upd_ne (Nat.ne_of_gt (Nat.lt_of_lt_of_le (Heap.lt_size eP2) hsz))]
      exact I.hok.fresh hsz
def tLamG (P : Addr) (q : Str) (TT : (XK → Hp → VK → Prop) → Hp → VK → Prop) (t : XK → TE) : TE := fun σ H Q => LamX.TabS H P q ∧ ∀ H1, LamG P q H H1 → TT (fun E H' Q' => t E σ H' Q') H1 Q
/-- x(lambda: body) -/
theorem pe_lamG {TT : (XK → Hp → VK → Prop) → Hp → VK → Prop} {x a : Str} {g c P : Addr} {k : Nat} {pg : Arguments} {bg : List Stmt} {sg : Scope} {dV kV doc pm cdv ct oc : Value} {an od : Option Addr} {osl : Array (Option Value)} {Ng : List Str}
    {params : Arguments} {body : Expr} {scope : Scope} {t : XK → TE} {p lpos pos : Pos} (gx : Gl X x) (own : X.mg x = some (.ref g)) (kg : PySem.W.keepIn X.K (.ref g) = true)
    (lk : X.K.lookup g = some ⟨oc, od, .func (PySem.W.fnOf x x pg bg sg dV kV doc pm an cdv ct), osl⟩) (cg : PySem.W.codeIn X.K cdv x = true) (bi : L2.Binds X.K (PySem.W.fnOf x x pg bg sg dV kV doc pm an cdv ct) [a] []) (Sg : FnScope Ng [a] sg) (n0 : Ng[0]? = some a) (va : Vis sg a)
    (gv : LamX.GivesTo X Ng x sg g cdv bg a (X.env.qual ++ "<lambda>") TT) (TB : LamX.TabB X.base X.mg c P) (hc : X.env.code = .ref c) (room : Room (k + 2) X.A) (L : LamX.LamS X.env.scope scope) (nodef : defaultsOf params X.env = ([], []))
    (lb : ∀ (q : Str) (cl : List (Str × Addr)) (pm cv ctv : Value), bindArgs (PySem.W.kla_fn "<lambda>" q params body scope cl pm cv ctv) ⟨[], []⟩ = pure [])
    (bd : ∀ (A : Around) (outer : List Env) (s : Shared) (H : Hp) (E : XK) (f c' : Addr), Room k (A.deeper (LamX.lamEnv X scope s.heap.objs.size f c')) → PE (LamX.lamCx X A outer s H E scope f c') body (t E))
    (d0 : (x == ("__debug__" : Str)) = false := by decide) (d1 : (a == ("__debug__" : Str)) = false := by decide) (d2 : (a == ("__classdict__" : Str)) = false := by decide) :
    PE X (.Call (.Name x p) [.Lambda params body scope lpos] [] pos) (tLamG P (X.env.qual ++ "<lambda>") TT t) := by
  constructor
  rintro pz z σ H Q I ⟨hT, w⟩
  refine wpAny_Call_Name_kw (ld_glob I gx own ?_ d0)
  refine PySem.W.callWith_K (h₀ := X.base) I.ok.mod.kin kg ?_ (by rfl) (by rfl)
  show wpAny _ _ (spliced ((false, eval (.Lambda params body scope lpos) X.env) :: backTo pos (starEach [] X.env))) _ _ z
  refine Calls.spliced_cons (lam_make I TB hc hT nodef (L.has I.ok) fun f c' pm2 ctv H1 z1 I1 lg hf ff fr co => ?_)
  refine Calls.spliced_nil ⟨I1.kIn, ?_⟩
  have run : codeAny (model X.prog X.w) X.A (.call (.ref g) ⟨[.ref f], []⟩) (CR C8.CX0 X.stack X.prog X.w H1 z1 Q C8.E0) z1 := by
    refine LamX.run_ofS (N := Ng) (ps := [a]) (us := [.ref f]) (vs := [.ref f]) lk cg Sg room I1.env0 (bi z1 [.ref f] I1.kIn rfl) (.cons rfl .nil) rfl fun room1 => ?_
    obtain ⟨t1, ht1, w1⟩ := gv f c' z1 H1 Q (fun E H' Q' => t E σ H' Q') (fun W pn xe E p1 p2 tk hW => LamX.pe_act (i := 0) I1 L hf ff fr (lb _ _ _ _ _) tk hW room1 (fun A outer s H r2 => bd A outer s H E f c' r2) n0 va d1 d2) co (w H1 lg)
    exact ⟨t1, ht1.nox, w1⟩
  refine wpAny_call (codeAny_mono run fun r z2 h => ?_)
  cases r with
  | error e => exact (show False from h).elim
  | ok fl =>
    cases fl with
    | ret u => exact I1.after h
    | next => exact False.elim h
    | brk => exact False.elim h
    | cont => exact False.elim h
end
end Z
set_option Elab.async false
set_option linter.all false
set_option maxRecDepth 100000
set_option maxHeartbeats 4000000
namespace Z
open PySem L2 PyProof.Rows ZX GX TL
/-! names and labels that are none -/
/-- a value that is no string -/
def OddV (K : PySem.W.Frag) (H : Hp) (v : V) : Prop := ∃ T : String, TyX K H v (.type T) ∧ kitB T "str" = some false
def NoOne (K : PySem.W.Frag) (CB CN : Addr) (H : Hp) (E : XK) (v : V) (L : List Str) : Prop := (OddV K H v ∧ Rz H E CB [("name", v)]) ∨ ∃ x : Str, v = .str x ∧ x ∉ L ∧ Rz H E CN [("name", v)]
def spIsNewX (K : PySem.W.Frag) (CS CM CB CN : Addr) : Sp := fun vs H Q E => ∃ (B : SA) (s : StoreR) (text : Str) (v : V), vs = [.ref B.a, v] ∧ StoreAt CS CM H B s text ∧ NoOne K CB CN H E v s.names
def spMendOfX (K : PySem.W.Frag) (CS CM CB CN : Addr) : Sp := fun vs H Q E => ∃ (B : SA) (s : StoreR) (text : Str) (v : V), vs = [.ref B.a, v] ∧ StoreAt CS CM H B s text ∧ NoOne K CB CN H E v (s.mends.map (·.label))
section
variable {P : Program} {w : World} {K : PySem.W.Frag} {mg : Str → Option Value} {base : Heap} {T : List Addr} {CS CM CB CN : Addr}
theorem ok_is_newX {f : Addr} {fd : FuncData} (F : Fun K "is_new" "Store.is_new" (s_Store 1) f fd) (SC : StoreC K CS) (bI : mg "isinstance" = none) (bs : mg "str" = none) (MB : MkE P w K mg base "BadName" CB ["self", "name"] ["name"]) (MN : MkE P w K mg base "NoName" CN ["self", "name"] ["name"]) :
    FnOk P w K mg base (L2.CX P w) 3 f fd ["self", "name"] (spIsNewX K CS CM CB CN) := by
  refine F.okX sc_S1 (fun vs H Q E h => ?_) (fun cdv Ar outer sh H vs Q E hr h => ?_)
  · obtain ⟨B, s, text, x, rfl, _⟩ := h
    rfl
  · obtain ⟨B, s, text, v, rfl, hS, hv⟩ := h
    refine ⟨_, (pss_cons (ps_if (pt_not (pt_val (pe_callB call_isi (by rfl) bI (by decide +kernel) (pa_cons (pv 1) (pa_cons (pe_bltn (v := .ty "str") (by rfl) bs (by decide +kernel) rfl) pa_nil))))) (pss_one (ps_raise rfl (takes_of rfl rfl rfl rfl) (pmk_E MB hr (pa_cons (pv 1) pa_nil)))) pss_nil)
      (pss_cons (ps_if (pt_cmpR op_notIn_seq (pv 1) (pe_fld (pv 0) rfl) rfl) (pss_one (ps_raise rfl (takes_of rfl rfl rfl rfl) (pmk_E MN hr (pa_cons (pv 1) pa_nil)))) pss_nil)
      (pss_one (ps_ret (pe_cmpR op_in_seq (pv 1) (pe_fld (pv 0) rfl) rfl))))), ?_⟩
    rcases hv with ⟨⟨T, ty, kt⟩, rz⟩ | ⟨x, rfl, hx, rz⟩
    · refine ⟨_, rfl, _, .ty "str", _, _, false, rfl, .ty _, ty, kit_ty kt, false, rfl, iteT ?_⟩
      exact ⟨_, rfl, (by show 1 ≤ 1000; decide), rz_in MB rfl rz⟩
    · refine ⟨_, rfl, _, .ty "str", _, _, true, rfl, .ty _, .base (.str _), kit_ty (show kitB "str" "str" = some true by decide +kernel), true, rfl, iteF ?_⟩
      refine ⟨_, rfl, _, rfl, B.a, CS, B.dx, _, .ref B.nt, rfl, hS.ob, SC.cl, SC.n, (by kernel_rfl), B.nt, _, rfl, .inr (SqT.of hS.nm), rfl, flat_strs _, _, rfl, ?_⟩
      rw [inV_str]
      refine if_t (by simp [hx]) ?_
      exact ⟨_, rfl, (by show 1 ≤ 1000; decide), rz_in MN rfl rz⟩
theorem ok_mend_ofX {f : Addr} {fd : FuncData} (F : Fun K "mend_of" "Store.mend_of" (s_Store 2) f fd) (SC : StoreC K CS) (M : MendC K CM) (bI : mg "isinstance" = none) (bs : mg "str" = none) (MB : MkE P w K mg base "BadName" CB ["self", "name"] ["name"]) (MN : MkE P w K mg base "NoName" CN ["self", "name"] ["name"]) :
    FnOk P w K mg base (L2.CX P w) 3 f fd ["self", "label"] (spMendOfX K CS CM CB CN) := by
  refine F.okX sc_S2 (fun vs H Q E h => ?_) (fun cdv Ar outer sh H vs Q E hr h => ?_)
  · obtain ⟨B, s, text, m, rfl, _⟩ := h
    rfl
  · obtain ⟨B, s, text, v, rfl, hS, hv⟩ := h
    refine ⟨_, (pss_cons (ps_if (pt_not (pt_val (pe_callB call_isi (by rfl) bI (by decide +kernel) (pa_cons (pv 1) (pa_cons (pe_bltn (v := .ty "str") (by rfl) bs (by decide +kernel) rfl) pa_nil))))) (pss_one (ps_raise rfl (takes_of rfl rfl rfl rfl) (pmk_E MB hr (pa_cons (pv 1) pa_nil)))) pss_nil)
      (pss_cons (ps_for (passes_of rfl) rfl (pi_sqK K (pe_fld (pv 0) rfl)) (pg_name (i := 2) sc_S2.nd rfl (Or.inl rfl))
        (pss_one (ps_if (pt_cmpR op_eq (pe_fld (pv 2) rfl) (pv 1) (nomark _)) (pss_one (ps_ret (pv 2))) pss_nil)))
      (pss_one (ps_raise rfl (takes_of rfl rfl rfl rfl) (pmk_E MN hr (pa_cons (pv 1) pa_nil)))))), ?_⟩
    rcases hv with ⟨⟨T, ty, kt⟩, rz⟩ | ⟨x, rfl, hx, rz⟩
    · refine ⟨_, rfl, _, .ty "str", _, _, false, rfl, .ty _, ty, kit_ty kt, false, rfl, iteT ?_⟩
      exact ⟨_, rfl, (by show 1 ≤ 1000; decide), rz_in MB rfl rz⟩
    · obtain ⟨mvs, m1, m2⟩ := hS.md
      refine ⟨_, rfl, _, .ty "str", _, _, true, rfl, .ty _, .base (.str _), kit_ty (show kitB "str" "str" = some true by decide +kernel), true, rfl, iteF ?_⟩
      refine ⟨_, rfl, B.a, CS, B.dx, _, .ref B.mt, rfl, hS.ob, SC.cl, SC.m, (by kernel_rfl), B.mt, mvs, true, rfl, sqT m1, for_it walk_sq (fun i σ' H' => H' = H ∧ (∃ v2 : Option V, σ' = [some (.ref B.a), some (.str x), v2])) ⟨rfl, none, rfl⟩ (fun i σ' H' _ h => by rw [h.1]; exact sqT m1) ?_ ?_⟩
      · rintro i y σ' H2 H3 hi ⟨rfl, ⟨v2, rfl⟩⟩ ⟨rfl, hy⟩
        obtain ⟨m', hm', hMO⟩ := m2.get hy
        obtain ⟨a, dx, nt, ht, av, rfl, e1, e2⟩ := id hMO
        refine ⟨_, rfl, a, CM, dx, _, .str m'.label, rfl, e1, M.cl, M.l, (by kernel_rfl), _, rfl, rfl, _, rfl, ?_⟩
        refine ite2 (fun h => ?_) (fun h => ?_)
        · have h : m'.label = x := by
            have := of_decide_eq_true h
            injection this with this
          exact (hx (List.mem_map.mpr ⟨m', List.mem_of_getElem? hm', h⟩)).elim
        · exact ⟨rfl, _, rfl⟩
      · rintro σ' H2 ⟨rfl, ⟨v2, rfl⟩⟩
        exact ⟨_, rfl, (by show 1 ≤ 1000; decide), rz_in MN rfl rz⟩
end
end Z
set_option Elab.async false
set_option linter.all false
set_option maxRecDepth 100000
set_option maxHeartbeats 4000000
namespace Z
open PySem L2 PyProof.Rows ZX GX TL
/-! what a call of a name raises -/
abbrev s_l_ne : Stmt := topS 41
theorem sc_l_ne : FnScope ["_law_call", "_law_found", "e"] ["_law_call"] (defScope s_l_ne) := ⟨rfl, rfl, rfl, by decide +kernel, rfl, by decide +kernel, by decide +kernel⟩
theorem takes_len {X : Cx} {W : WX} (tk : Takes X W) : Takes X (fun cls d σ H => σ.length = X.N.length → W cls d σ H) := fun u z ⟨a, B, zI, pz, σ, H, cls, d, e, I, nb, up, sky, na, os, ag, w⟩ =>
  tk u z ⟨a, B, zI, pz, σ, H, cls, d, e, I, nb, up, sky, na, os, ag, w I.len⟩
/-- data that repr tells -/
structure Shown (K : PySem.W.Frag) (H : Hp) (v : V) (d : PyData) : Prop where
  dp : Dp K H v d
  ok : PyData.showable d = true ∧ PyData.hasDict d = false ∧ d.depth ≤ 40 ∧ d.shown.length ≤ 1000
def TTN (K : PySem.W.Frag) (CB CN : Addr) : (XK → Hp → VK → Prop) → Hp → VK → Prop := fun tl H Q => ∀ t0, H t0 = none → tl (fun cls d H2 => ∃ (C : Addr) (tag : Str), ((C = CB ∧ tag = "badname") ∨ (C = CN ∧ tag = "noname")) ∧ cls = .ref C ∧ ∃ (dd : Addr) (fs : List (Str × V)) (v : V) (dt : PyData),
  d = some dd ∧ H2 dd = some (.xd fs) ∧ List.lookup ("name" : Str) fs = some v ∧ Shown K H2 v dt ∧ ∀ p, H2 p = none → Q (.ref p) (upd H2 p (.tup [.str tag, .str dt.shown]))) (upd H t0 (.tup [.str "none"])) (fun _ H2 => ∃ v, (some (some (V.ref t0)) : Option (Option V)) = some (some v) ∧ Q v H2)
theorem call_reprS {X : Cx} {a : Addr} {pn : List (Addr × Obj)} (hg : X.A.guards = some []) (hu : X.A.units + 64 < cLine) : CallR (X.suite a pn) (.builtin "repr") (rRepD X.K) := call_reprD (X := X.suite a pn) hg hu
structure NE (K : PySem.W.Frag) (mg : Str → Option Value) (CB CN : Addr) : Prop where
  bb : Bad K mg "BadName" CB
  bn : Bad K mg "NoName" CN
  nb : PySem.W.findIn K (.ref CB) "name" = some none
  nn : PySem.W.findIn K (.ref CN) "name" = some none
  x : PySem.W.exmOne K (.ref CN) (.ref CB) = some false
  r : mg "repr" = none
theorem name_error_gives {X : Cx} {g CB CN : Addr} {cdg : Value} {q : Str} (M : NE X.K X.mg CB CN) (hgd : X.A.guards = some []) (hr : Room 2 X.A) :
    LamX.GivesTo X ["_law_call", "_law_found", "e"] "_law_name_error" (defScope s_l_ne) g cdg (defBody s_l_ne) "_law_call" q (TTN X.K CB CN) := by
  intro f c' s H Q tl act hc h
  refine ⟨_, (pss_cons (ps_set (i := 1) sc_l_ne.nd rfl (Or.inl rfl) (pe_tup (pa_cons pe_str pa_nil)))
    (pss_cons (ps_tryC (l := [(.ref CB, 2, _), (.ref CN, 2, _)]) (Wout := fun _ _ _ _ => False) (tb := fun W D σ H => ∃ Ech : XK, (∀ cls d σ' H', σ'.length = 3 → Ech cls d H' → W cls d σ' H') ∧ σ[0]? = some (some (.ref f)) ∧ H c' = some (LamX.CodeO c' q) ∧ tl Ech H fun _ H2 => D.nx σ H2) rfl rfl sc_l_ne.nd takes0
      (fun W pn xe tk _ => ?_)
      (.cons rfl rfl ⟨rfl, by decide, Or.inl M.bb.g⟩ (fun a oe cls d pn hz hf => pss_one (ps_set (i := 1) sc_l_ne.nd rfl (Or.inl rfl) (pe_tup (pa_cons pe_str (pa_cons (pe_callB (call_reprS hgd (hr.deeper _).units) (by rfl) M.r (by decide +kernel) (pa_cons (pe_xf M.bb.xf M.nb hz hf (pv 2)) pa_nil)) pa_nil)))))
      (.cons rfl rfl ⟨rfl, by decide, Or.inl M.bn.g⟩ (fun a oe cls d pn hz hf => pss_one (ps_set (i := 1) sc_l_ne.nd rfl (Or.inl rfl) (pe_tup (pa_cons pe_str (pa_cons (pe_callB (call_reprS hgd (hr.deeper _).units) (by rfl) M.r (by decide +kernel) (pa_cons (pe_xf M.bn.xf M.nn hz hf (pv 2)) pa_nil)) pa_nil))))) .nil)))
    (pss_one (ps_ret (pv 1))))), ?_⟩
  · refine ⟨fun pins s' σ H' D I h' => ?_⟩
    obtain ⟨Ech, hW, h1, h2, h3⟩ := h'
    exact (pss_one (ps_expr (act _ pn xe Ech _ _ (takes_len tk) (fun cls d σ' H' he hl => hW cls d σ' H' hl he)))).run pins s' σ H' D I ⟨h1, h2, h3⟩
  · have two : 2 ≤ sizeLine := by rw [sizeLine_eq]; decide
    refine ⟨(by show 1 ≤ sizeLine; omega), fun t0 ht0 => ?_⟩
    have hc' : (upd H t0 (.tup [.str "none"])) c' = some (LamX.CodeO c' q) := by rw [upd_ne (ne_of_none hc ht0)]; exact hc
    let Ech : XK := fun cls d H2 => ∃ (C : Addr) (tag : Str), ((C = CB ∧ tag = "badname") ∨ (C = CN ∧ tag = "noname")) ∧ cls = .ref C ∧ ∃ (dd : Addr) (fs : List (Str × V)) (v : V) (dt : PyData),
      d = some dd ∧ H2 dd = some (.xd fs) ∧ List.lookup ("name" : Str) fs = some v ∧ Shown X.K H2 v dt ∧ ∀ p, H2 p = none → Q (.ref p) (upd H2 p (.tup [.str tag, .str dt.shown]))
    refine ⟨Ech, fun cls d σ' H' hl he => ?_, rfl, hc', ?_⟩
    · obtain ⟨x0, x1, x2, rfl⟩ : ∃ x0 x1 x2, σ' = [x0, x1, x2] := by
        match σ', hl with
        | [x0, x1, x2], _ => exact ⟨x0, x1, x2, rfl⟩
      obtain ⟨C, tag, hC, rfl, dd, fs, v, dt, rfl, e1, e2, sh, k⟩ := he
      have ss : dt.shown.length ≤ sizeLine := by have := sh.ok.2.2.2; rw [sizeLine_eq]; omega
      rcases hC with ⟨rfl, rfl⟩ | ⟨rfl, rfl⟩
      · refine ⟨true, M.bb.te, fun _ a na => ?_, fun z => Bool.noConfusion z⟩
        exact ⟨_, rfl, rfl, rfl, dd, fs, v, rfl, e1, e2, v, dt, rfl, sh.dp, sh.ok.1, sh.ok.2.1, sh.ok.2.2.1, ss, two, fun p hp => ⟨_, rfl, k p hp⟩⟩
      · refine ⟨false, M.x, fun z => Bool.noConfusion z, fun _ => ⟨true, M.bn.te, fun _ a na => ?_, fun z => Bool.noConfusion z⟩⟩
        exact ⟨_, rfl, rfl, rfl, dd, fs, v, rfl, e1, e2, v, dt, rfl, sh.dp, sh.ok.1, sh.ok.2.1, sh.ok.2.2.1, ss, two, fun p hp => ⟨_, rfl, k p hp⟩⟩
    · exact h t0 ht0
end Z
set_option Elab.async false
set_option linter.all false
set_option maxRecDepth 100000
set_option maxHeartbeats 4000000
namespace Z
open PySem L2 PyProof.Rows ZX GX TL
/-! the same store with one thing otherwise -/
def roomF (nm : Str) (r : Nat) (x : NodeR) : NodeR := if x.name = nm then { x with room := r } else x
inductive Other (s : StoreR) : StoreR → Prop
  | mends (h : s.mends ≠ []) : Other s { s with mends := s.mends.dropLast }
  | more : Other s { s with readers := s.readers ++ s.readers.take 1 }
  | turned {r : List Place} {rs : List (List Place)} (e : s.readers = r :: rs) (h : 1 < r.length) : Other s { s with readers := r.reverse :: rs }
  | room {nm : Str} {r : Nat} (h : nm ∈ s.names) (hr : r ≤ 40) (ne : ∀ x ∈ s.nodes, x.name = nm → x.room ≠ r) : Other s { s with nodes := s.nodes.map (roomF nm r) }
  | file : Other s { s with file := s.file % 40 + 1 }
theorem roomF_name (nm : Str) (r : Nat) (x : NodeR) : (roomF nm r x).name = x.name := by unfold roomF; split <;> rfl
theorem roomF_new (nm : Str) (r : Nat) (x : NodeR) : (roomF nm r x).isNew = x.isNew := by unfold roomF; split <;> rfl
theorem names_roomF (nm : Str) (r : Nat) (xs : List NodeR) : namesOf (xs.map (roomF nm r)) = namesOf xs := by
  unfold namesOf
  rw [List.map_map]
  exact List.map_congr_left fun x _ => roomF_name nm r x
theorem news_roomF (nm : Str) (r : Nat) (xs : List NodeR) : newsOf (xs.map (roomF nm r)) = newsOf xs := by
  unfold newsOf
  rw [List.filter_map, List.map_map]
  have e : ((fun x : NodeR => x.isNew) ∘ roomF nm r) = fun x : NodeR => x.isNew := funext fun x => roomF_new nm r x
  rw [e]
  exact List.map_congr_left fun x _ => roomF_name nm r x
theorem other_ok {s s' : StoreR} (ok : StoreOk s) (h8 : s.readers.length ≤ 8) (h : Other s s') : StoreOk s' := by
  obtain ⟨h1, h2, h3, h4, h5, h6, h7, m1, m2, m3, m4, r1, r2, r3⟩ := ok
  cases h with
  | mends h =>
    refine ⟨h1, h2, h3, h4, h5, h6, h7, ?_, ?_, fun m hm => m3 m (List.dropLast_subset _ hm), fun m hm => m4 m (List.dropLast_subset _ hm), r1, r2, r3⟩
    · show s.mends.dropLast.length ≤ 12
      rw [List.length_dropLast]
      omega
    · show (s.mends.dropLast.map (·.label)).Nodup
      rw [List.map_dropLast]
      exact m2.sublist (List.dropLast_sublist _)
  | more =>
    refine ⟨h1, h2, h3, h4, h5, h6, h7, m1, m2, m3, m4, ?_, ?_, fun r hr => ?_⟩
    · show 1 ≤ (s.readers ++ s.readers.take 1).length
      rw [List.length_append]
      omega
    · show (s.readers ++ s.readers.take 1).length ≤ 9
      rw [List.length_append, List.length_take]
      omega
    · rcases List.mem_append.mp hr with z | z
      · exact r3 r z
      · exact r3 r (List.mem_of_mem_take z)
  | @turned r rs e h =>
    have e1 : r ∈ s.readers := by rw [e]; exact List.mem_cons_self ..
    refine ⟨h1, h2, h3, h4, h5, h6, h7, m1, m2, m3, m4, by show 1 ≤ (r.reverse :: rs).length; rw [List.length_cons]; omega, by show (r.reverse :: rs).length ≤ 9; rw [e] at r2; exact r2, fun q hq => ?_⟩
    rcases List.mem_cons.mp hq with z | z
    · subst z
      obtain ⟨a, b, c, d, f⟩ := r3 r e1
      refine ⟨by rw [List.length_reverse]; exact a, by rw [List.length_reverse]; exact b, ?_, fun it hit => d it (List.mem_reverse.mp hit), fun it hit => f it (List.mem_reverse.mp hit)⟩
      rw [List.map_reverse]
      exact List.pairwise_reverse.mpr (c.imp fun h => h.symm)
    · exact r3 q (by rw [e]; exact List.mem_cons_of_mem _ z)
  | @room nm r h hr ne =>
    have en : StoreR.names { s with nodes := s.nodes.map (roomF nm r) } = s.names := names_roomF nm r s.nodes
    refine ⟨h1, ?_, ?_, by rw [en]; exact h4, by rw [en]; exact h5, fun x hx => ?_, ?_, m1, m2, m3, by rw [en]; exact m4, r1, r2, by rw [en]; exact r3⟩
    · show 1 ≤ (s.nodes.map (roomF nm r)).length
      rw [List.length_map]
      exact h2
    · show (s.nodes.map (roomF nm r)).length ≤ 7
      rw [List.length_map]
      exact h3
    · obtain ⟨y, hy, rfl⟩ := List.mem_map.mp hx
      unfold roomF
      split
      · exact hr
      · exact h6 y hy
    · obtain ⟨x, hx, e⟩ := h7
      exact ⟨roomF nm r x, List.mem_map.mpr ⟨x, hx, rfl⟩, by rw [roomF_new]; exact e⟩
  | file =>
    refine ⟨⟨by show 1 ≤ s.file % 40 + 1; omega, by show s.file % 40 + 1 ≤ 40; omega⟩, h2, h3, h4, h5, h6, h7, m1, m2, m3, m4, r1, r2, r3⟩
theorem lines_inj : ∀ {R R' : List (List Str)}, (∀ r ∈ R, r ≠ [] ∧ ∀ x ∈ r, WordF x) → (∀ r ∈ R', r ≠ [] ∧ ∀ x ∈ r, WordF x) → linesT R = linesT R' → R = R'
  | [], [], _, _, _ => rfl
  | [], _ :: _, _, _, h => by cases h
  | _ :: _, [], _, _, h => by cases h
  | r :: R, r' :: R', h1, h2, h => by
    have h : lineT r :: linesT R = lineT r' :: linesT R' := h
    have e1 := (List.cons.inj h).1
    have e2 := lines_inj (fun x hx => h1 x (List.mem_cons_of_mem _ hx)) (fun x hx => h2 x (List.mem_cons_of_mem _ hx)) (List.cons.inj h).2
    have a := h1 r (List.mem_cons_self ..)
    have b := h2 r' (List.mem_cons_self ..)
    rw [e2, ← split_line a.1 a.2, ← split_line b.1 b.2, e1]
theorem text_inj {R R' : List (List Str)} (h1 : Clean R) (h2 : Clean R') (h : textT R "\n" = textT R' "\n") : R = R' := by
  have e := (split_text_nl h1).symm.trans ((congrArg (fun t => Txt.split t "\n") h).trans (split_text_nl h2))
  refine lines_inj (fun r hr => ?_) (fun r hr => ?_) (List.append_cancel_right e)
  · obtain ⟨w, ws, e, _, h⟩ := h1.row r hr
    exact ⟨by rw [e]; simp, h⟩
  · obtain ⟨w, ws, e, _, h⟩ := h2.row r hr
    exact ⟨by rw [e]; simp, h⟩
theorem zf_inj {z : Str} {n m : Nat} (hz : z ∈ zeros) (hn : n ≤ 40) (hm : m ≤ 40) (h : zf z n = zf z m) : n = m := by
  rw [← (zf_W hz hn).val, ← (zf_W hz hm).val, h]
/-- the name ahead of a colon -/
def headN (w : Str) : List Nat := (tl w).takeWhile fun c => decide (c ≠ 58)
theorem head_place {z : Str} {it : Place} (h : NameW 11 it.1) : headN (placeW z it) = tl it.1 := by
  have all : ∀ c ∈ tl it.1, decide (c ≠ 58) = true := fun c hc => decide_eq_true (free_sign (h.sign c hc)).2.2
  obtain ⟨n, li⟩ := it
  cases li with
  | none =>
    show (tl n).takeWhile _ = tl n
    have := List.takeWhile_append_of_pos (l₂ := []) all
    simpa using this
  | some k =>
    show (tl (n ++ ":" ++ zf z k)).takeWhile _ = tl n
    rw [tl_append, tl_append, show tl ":" = [58] by decide +kernel, List.append_assoc, List.takeWhile_append_of_pos all]
    show tl n ++ (58 :: tl (zf z k)).takeWhile _ = tl n
    rw [List.takeWhile_cons_of_neg (by simp), List.append_nil]
theorem rev_ne {α : Type} {L : List α} (nd : L.Nodup) (h : 1 < L.length) (e : L = L.reverse) : False := by
  have h0 : 0 < L.length := by omega
  have a : L[0] = L[L.length - 1] := by
    have : L[0] = L.reverse[0]'(by rw [List.length_reverse]; exact h0) := by congr 1
    rw [this, List.getElem_reverse]
    congr 1
  have := (List.getElem_inj (h₀ := h0) (h₁ := by omega) nd).mp a
  omega
theorem other_ne {s s' : StoreR} (ok : StoreOk s) (ok' : StoreOk s') (h : Other s s') : textT (rowsOf "" s') "\n" ≠ textT (rowsOf "" s) "\n" := by
  intro e
  have nz : ("" : Str) ∈ zeros := List.mem_cons_self ..
  have e := text_inj (rows_clean nz ok').1 (rows_clean nz ok).1 e
  unfold rowsOf at e
  cases h with
  | mends h =>
    have := congrArg List.length e
    have p := List.length_pos_iff.mpr h
    simp only [List.length_append, List.length_map, List.length_dropLast] at this
    omega
  | more =>
    have := congrArg List.length e
    have p := ok.rpos
    simp only [List.length_append, List.length_map, List.length_take] at this
    omega
  | @turned r rs e1 h =>
    have e := List.append_cancel_left e
    dsimp only at e
    rw [e1, List.map_cons, List.map_cons] at e
    have e := (List.cons.inj (List.cons.inj e).1).2
    have rk := ok.rok r (by rw [e1]; exact List.mem_cons_self ..)
    have e := congrArg (List.map headN) e
    rw [List.map_map, List.map_map] at e
    have hd : ∀ it ∈ r, (headN ∘ placeW "") it = tl it.1 := fun it hit => head_place (ok.name it.1 (rk.sub it hit))
    rw [List.map_congr_left (fun it hit => hd it (List.mem_reverse.mp hit)), List.map_congr_left hd] at e
    have e : (r.map fun it => tl it.1) = (r.map fun it => tl it.1).reverse := by rw [← List.map_reverse, e]
    refine rev_ne ?_ (by rw [List.length_map]; exact h) e
    have nd := rk.nd
    have : (r.map fun it : Place => tl it.1) = (r.map (·.1)).map tl := by rw [List.map_map]; rfl
    rw [this]
    exact List.Pairwise.map tl (fun a b n z => n (ext_tl z)) nd
  | @room nm r h hr ne =>
    have e := List.append_cancel_right (List.append_cancel_right e)
    have e := List.append_cancel_left e
    dsimp only at e
    obtain ⟨x, hx, rfl⟩ := List.mem_map.mp h
    obtain ⟨i, hi, ex⟩ := List.getElem_of_mem hx
    have a := congrArg (fun l => l[i]?) e
    simp only [List.getElem?_map, List.getElem?_eq_getElem hi, ex, Option.map_some] at a
    have a := Option.some.inj a
    unfold nodeL at a
    have b : zf "" (roomF x.name r x).room = zf "" x.room := by
      injection a with _ a
      injection a with _ a
      injection a with a _
    have c : (roomF x.name r x).room = r := by unfold roomF; rw [if_pos rfl]
    rw [c] at b
    exact ne x hx rfl (zf_inj nz hr (ok.room x hx) b).symm
  | file =>
    have a := congrArg (fun l => l[0]?) e
    dsimp only at a
    have a : some [("file" : Str), zf "" (s.file % 40 + 1)] = some [("file" : Str), zf "" s.file] := by simpa using a
    have a := Option.some.inj a
    injection a with _ a
    injection a with a _
    have f := ok.file
    have := zf_inj nz (by omega) f.2 a
    omega
end Z
set_option Elab.async false
set_option linter.all false
set_option maxRecDepth 100000
set_option maxHeartbeats 4000000
namespace Z
open PySem L2 PyProof.Rows ZX GX TL
/-- lists of unlike lengths, or none with an item -/
theorem op_neLen {X : Cx} (hu : X.A.units < cLine) : OpR X (compareOp .NotEq) (fun x y H Q => ∃ (a b : Addr) (xs ys : List V), x = .ref a ∧ y = .ref b ∧ SqL X.K H a xs ∧ SqL X.K H b ys ∧ (xs.length ≠ ys.length ∧ Q (.bl true) H ∨ xs = [] ∧ ys = [] ∧ Q (.bl false) H)) := by
  intro pins s σ H x y v u Q I rx ry h
  obtain ⟨a, b, xs, ys, rfl, rfl, hx, hy, h⟩ := h
  cases rx
  cases ry
  obtain ⟨us, r1, l1, z1⟩ := I.list hx
  obtain ⟨vs, r2, l2, z2⟩ := I.list hy
  have n1 := r1.length
  have n2 := r2.length
  rcases h with ⟨ne, q⟩ | ⟨rfl, rfl, q⟩
  · refine (SeqAt.RcNeAt.lists_lengths (A := X.A) l1.isList l2.isList ?_ hu) X.prog X.w X.xe _ ⟨.bl true, H, I, rfl, q⟩
    simp only [List.size_toArray, bne_iff_ne]
    omega
  · cases r1
    cases r2
    exact (SeqAt.RcNeAt.lists (A := X.A) (e := fun _ => true) l1.isList l2.isList rfl hu (fun j h1 => absurd h1 (by simp))) X.prog X.w X.xe _ ⟨.bl false, H, I, rfl, q⟩
theorem All2.take {α β : Type} {P : α → β → Prop} {as : List α} {bs : List β} (h : All2 P as bs) : ∀ n, All2 P (as.take n) (bs.take n) := by
  induction h with
  | nil => intro n; rw [List.take_nil, List.take_nil]; exact .nil
  | cons h _ ih =>
    intro n
    cases n with
    | zero => exact .nil
    | succ n => exact .cons h (ih n)
theorem All2.rev {α β : Type} {P : α → β → Prop} {as : List α} {bs : List β} (h : All2 P as bs) : All2 P as.reverse bs.reverse := by
  induction h with
  | nil => exact .nil
  | cons h _ ih =>
    rw [List.reverse_cons, List.reverse_cons]
    exact ih.app (.cons h .nil)
abbrev s_l_other : Stmt := topS 42
theorem sc_l_other : FnScope ["_law_pen_here", "_law_store", "_law_other", "_law_way", "_law_name_here"] ["_law_pen_here", "_law_store"] (defScope s_l_other) := ⟨rfl, rfl, rfl, by decide +kernel, rfl, by decide +kernel, by decide +kernel⟩
def spOther (T : List Addr) : Sp := fun vs H Q _ => ∃ (p l : Addr) (n : Nat) (v : V) (s : StoreR), vs = [.ref p, v] ∧ PT T H p l n ∧ n < 2 ^ 38 ∧ StoreV (mask p H) v s ∧ StoreOk s ∧
  ∀ (v' : V) (s' : StoreR) (H' : Hp), Other s s' → PT T H' p l (n + 2) → Gr T (mask p H) (mask p H') → StoreV (mask p H') v' s' → Q v' H'
theorem drop_last {xs : List V} : cutV xs none (some (-1)) = xs.dropLast := by
  unfold cutV
  rw [show HT.sIx xs.length 0 none = 0 from rfl, List.drop_zero, List.dropLast_eq_take]
  congr 1
  unfold HT.sIx
  cases xs with
  | nil => rfl
  | cons x xs =>
    simp
    omega
theorem take_one {xs : List V} : cutV xs none (some 1) = xs.take 1 := by
  unfold cutV
  rw [show HT.sIx xs.length 0 none = 0 from rfl, List.drop_zero]
  have e : HT.sIx xs.length xs.length (some 1) = min 1 xs.length := HT.sIx_nat ..
  rw [e, Nat.sub_zero]
  cases xs with
  | nil => rfl
  | cons x xs => simp
theorem from_one {xs : List V} : cutV xs (some 1) none = xs.drop 1 := by
  unfold cutV
  have e : HT.sIx xs.length 0 (some 1) = min 1 xs.length := HT.sIx_nat ..
  rw [e, show HT.sIx xs.length xs.length none = xs.length from rfl]
  cases xs with
  | nil => rfl
  | cons x xs => simp
theorem rooms_put {nm : Str} {r : Nat} {xs : List NodeR} (h : nm ∈ namesOf xs) : putK (roomsD xs) (Sum.inr nm : Key) (.int (r : Int)) = roomsD (xs.map (roomF nm r)) := by
  unfold putK
  rw [if_pos]
  · unfold roomsD
    rw [List.map_map, List.map_map]
    refine List.map_congr_left fun x _ => ?_
    show (if (Sum.inr x.name : Key) = Sum.inr nm then _ else _) = _
    by_cases e : x.name = nm
    · rw [if_pos (by rw [e])]
      show _ = (Sum.inr (roomF nm r x).name, V.int ((roomF nm r x).room : Int))
      unfold roomF
      rw [if_pos e]
    · rw [if_neg (fun z => e (Sum.inr.inj z))]
      show _ = (Sum.inr (roomF nm r x).name, V.int ((roomF nm r x).room : Int))
      unfold roomF
      rw [if_neg e]
  · obtain ⟨x, hx, e⟩ := List.mem_map.mp h
    exact List.any_eq_true.mpr ⟨(.inr x.name, .int (x.room : Int)), List.mem_map.mpr ⟨x, hx, rfl⟩, decide_eq_true (by rw [← e])⟩
theorem rooms_get {nm : Str} {xs : List NodeR} (h : nm ∈ namesOf xs) : ∃ x ∈ xs, x.name = nm ∧ valV (roomsD xs) (Sum.inr nm : Key) = some (.int (x.room : Int)) := by
  induction xs with
  | nil => cases h
  | cons y ys ih =>
    by_cases e : y.name = nm
    · exact ⟨y, List.mem_cons_self .., e, valV_pos (p := (Sum.inr y.name, V.int (y.room : Int))) (by rw [← e])⟩
    · rcases List.mem_cons.mp h with z | z
      · exact (e z.symm).elim
      · obtain ⟨x, hx, e1, e2⟩ := ih z
        exact ⟨x, List.mem_cons_of_mem _ hx, e1, (valV_neg (p := (Sum.inr y.name, V.int (y.room : Int))) (r := roomsD ys) (fun z => e (Sum.inr.inj z))).trans e2⟩
section
variable {P : Program} {w : World} {K : PySem.W.Frag} {mg : Str → Option Value} {base : Heap} {T : List Addr}
theorem ok_l_other {f : Addr} {fd : FuncData} (F : Fun K "_law_other_store" "_law_other_store" s_l_other f fd) (bd : mg "dict" = none) (bn : mg "len" = none) (D : Fx P w K mg base "_law_draw" 1 ["_law_pen_here", "_law_many"] (spDr T)) (PK : Fx P w K mg base "_law_pick" 2 ["_law_pen_here", "_law_some"] (spPk T K)) :
    FnOk P w K mg base CX0 3 f fd ["_law_pen_here", "_law_store"] (spOther T) := by
  refine F.ok sc_l_other (fun vs H Q E h => ?_) (fun cdv A outer sh H vs Q E hr h => ?_)
  · obtain ⟨p, l, n, v, s, rfl, _⟩ := h
    rfl
  · obtain ⟨p, l, n, v, s, rfl, hP, hn, hV, ok, k⟩ := h
    have hu := hu_of hr
    have hr1 : Room 1 _ := hr.mono (by decide)
    have hr2 : Room 2 _ := hr.mono (by decide)
    have nd := sc_l_other.nd
    refine ⟨_, (pss_cons (ps_set (i := 2) nd rfl (Or.inl rfl) (pe_callTy call_dictD (by rfl) bd (by decide +kernel) (pa_cons (pv 1) pa_nil)))
      (pss_cons (ps_set (i := 3) nd rfl (Or.inl rfl) (pe_fx D hr1 (pa_cons (pv 0) (pa_cons pe_int pa_nil))))
      (C8.pss_cut (ps_if (PW.pt (pw_and (pt_cmpR op_eq (pv 3) pe_int (nomark _)) (pw_and1 (pt_cmpR (op_neLen (Nat.lt_of_le_of_lt (Nat.le_add_right _ 64) hr.units)) (pe_dget hu (pv 1) pe_str (fun _ _ => rfl)) (pe_lst pa_nil) (nomark _)))))
        (pss_one (ps_dput hu (pv 2) pe_str (pe_slice sl_list (pe_dget hu (pv 1) pe_str (fun _ _ => rfl)) po_none (po_some (pe_un un_neg pe_int))) rfl))
        (pss_one (ps_if (pt_cmpR op_eq (pv 3) pe_int (nomark _))
          (pss_one (ps_dput hu (pv 2) pe_str (pe_op op_cat (pe_dget hu (pv 1) pe_str (fun _ _ => rfl)) (pe_slice sl_list (pe_dget hu (pv 1) pe_str (fun _ _ => rfl)) po_none (po_some pe_int))) rfl))
          (pss_one (ps_if (PW.pt (pw_and (pt_cmpR op_eq (pv 3) pe_int (nomark _)) (pw_and1 (pt_cmpR op_gt (pe_callB call_len (by rfl) bn (by decide +kernel) (pa_cons (pe_ix ix_list (pe_dget hu (pv 1) pe_str (fun _ _ => rfl)) pe_int (fun _ _ => rfl)) pa_nil)) pe_int (nomark _)))))
            (pss_one (ps_dput hu (pv 2) pe_str (pe_op op_cat (pe_lst (pa_cons (pe_revL (pe_ix ix_list (pe_dget hu (pv 1) pe_str (fun _ _ => rfl)) pe_int (fun _ _ => rfl))) pa_nil)) (pe_slice sl_list (pe_dget hu (pv 1) pe_str (fun _ _ => rfl)) (po_some pe_int) po_none)) rfl))
            (pss_one (ps_if (pt_cmpR op_eq (pv 3) pe_int (nomark _))
              (pss_cons (ps_set (i := 4) nd rfl (Or.inl rfl) (pe_fx PK hr2 (pa_cons (pv 0) (pa_cons (pe_dget hu (pv 1) pe_str (fun _ _ => rfl)) pa_nil))))
              (pss_cons (ps_dput hu (pv 2) pe_str (pe_callTy call_dictD (by rfl) bd (by decide +kernel) (pa_cons (pe_dget hu (pv 1) pe_str (fun _ _ => rfl)) pa_nil)) rfl)
              (pss_one (ps_dput hu (pe_dget hu (pv 2) pe_str (fun _ _ => rfl)) (pv 4) (pe_ifExp (pt_cmpR op_ne (pe_dget hu (pe_dget hu (pv 1) pe_str (fun _ _ => rfl)) (pv 4) (fun _ _ => rfl)) pe_int (nomark _)) (pe_op op_sub pe_int (pe_dget hu (pe_dget hu (pv 1) pe_str (fun _ _ => rfl)) (pv 4) (fun _ _ => rfl))) pe_int) rfl))))
              (pss_one (ps_dput hu (pv 2) pe_str (pe_op op_add (pe_op op_mod (pe_dget hu (pv 1) pe_str (fun _ _ => rfl)) pe_int) pe_int) rfl)))))))))
      (pss_one (ps_ret (pv 2)))))), ?_⟩
    obtain ⟨a, na, ra, wa, ma, qa, mvs, rfl, es, en, er, ew, em, hM, qb, qvs, e1, eq, hQ⟩ := id hV
    cases e1
    refine ⟨_, rfl, a, _, rfl, .inl (un_mask es), fun o ho => ?_⟩
    have npo : o ≠ p := hP.fresh ho
    have nop : o ≠ p := npo
    have g1 : Gr T (mask p H) (mask p (upd H o (.dK (storeD s.file na ra wa ma qa)))) := gr_newm ho
    have eo1 : (upd H o (.dK (storeD s.file na ra wa ma qa))) o = some (.dK (storeD s.file na ra wa ma qa)) := upd_same
    have hP1 := hP.gr (Gr.new (o := .dK (storeD s.file na ra wa ma qa)) ho)
    generalize upd H o (.dK (storeD s.file na ra wa ma qa)) = H1 at g1 eo1 hP1 ⊢
    refine ⟨_, rfl, p, l, n, 5, rfl, hP1, by omega, by decide, by decide, fun d H2 hd0 hd1 hP2 e2 => ?_⟩
    have g2 : Gr T (mask p H) (mask p H2) := by rw [e2]; exact g1
    have eo2 : H2 o = some (.dK (storeD s.file na ra wa ma qa)) := by
      have : mask p H2 o = mask p H1 o := by rw [e2]
      rw [mask_ne nop, mask_ne nop] at this
      rw [this]
      exact eo1
    have mho : mask p H o = none := by rw [mask_ne nop]; exact ho
    -- what stands beside the pen stands behind all that grows
    have at_ : ∀ {G : Hp} {b : Addr} {u : HO}, Gr T (mask p H) (mask p G) → mask p H b = some u → (∀ ps, u ≠ .tbl ps) → G b = some u := fun {G b u} g e n => un_mask (g.ext _ _ e n)
    -- the end, with another dict at o
    have fin : ∀ {G : Hp} {kvs : List (Key × V)} {m : Nat}, Gr T (mask p H) (mask p G) → PT T G p l m → G o = some (.dK (storeD s.file na ra wa ma qa)) → Gr T (mask p H) (mask p (upd G o (.dK kvs))) ∧ PT T (upd G o (.dK kvs)) p l m ∧ (upd G o (.dK kvs)) o = some (.dK kvs) := fun {G kvs m} g hp e => by
      refine ⟨?_, hp.putD nop e, upd_same⟩
      rw [mask_upd_ne nop]
      exact g.upd mho
    have six : ∀ {kvs : List (Key × V)}, kvs = storeD s.file na ra wa ma qa → kvs.length < sizeLine := fun h => by rw [h]; exact lsz (by show 6 ≤ 1000; decide)
    refine ⟨fun σ' H' => ∃ (v3 v4 : Option V) (s' : StoreR), σ' = [some (.ref p), some (.ref a), some (.ref o), v3, v4] ∧ Other s s' ∧ PT T H' p l (n + 2) ∧ Gr T (mask p H) (mask p H') ∧ StoreV (mask p H') (.ref o) s', ?_, ?_⟩
    · refine ⟨_, rfl, rfl, _, rfl, ?_⟩
      have put6 : ∀ {G : Hp} {kx : Str} {u : V}, G o = some (.dK (storeD s.file na ra wa ma qa)) → DPut G o (.str kx) u (upd G o (.dK (putK (storeD s.file na ra wa ma qa) (Sum.inr kx) u))) := fun {G kx u} e => DPut.k (k := Sum.inr kx) e (six rfl)
      have sl : sizeLine = 16777216 := sizeLine_eq
      have lm := hM.length
      have lq := hQ.length
      have mfew := ok.mfew
      have rfew := ok.rfew
      have rpos := ok.rpos
      by_cases hA : d = 0 ∧ s.mends ≠ []
      · obtain ⟨w0, hm⟩ := hA
        refine if_t (decide_eq_true (by rw [w0])) ?_
        refine ⟨_, rfl, a, _, rfl, dget (v := .ref ma) (at_ g2 es (fun _ z => by cases z)) (by kernel_rfl), by show 0 ≤ sizeLine; exact Nat.zero_le _, fun q0 hq0 => ?_⟩
        have g3 : Gr T (mask p H) (mask p (upd H2 q0 (.lst []))) := g2.trans (gr_newm hq0)
        have hP3 := hP2.gr (Gr.new (o := .lst []) hq0)
        have eo3 : (upd H2 q0 (.lst [])) o = some (.dK (storeD s.file na ra wa ma qa)) := by rw [upd_ne (ne_of_none eo2 hq0)]; exact eo2
        have eq0 : (upd H2 q0 (.lst [])) q0 = some (.lst []) := upd_same
        generalize upd H2 q0 (.lst []) = H3 at g3 hP3 eo3 eq0 ⊢
        refine ⟨ma, q0, mvs, [], rfl, rfl, SqL.of (at_ g3 em (fun _ z => by cases z)), SqL.of eq0, .inl ⟨?_, _, rfl, if_t rfl ?_⟩⟩
        · have := List.length_pos_iff.mpr hm
          show mvs.length ≠ 0
          omega
        · refine ⟨_, rfl, a, _, rfl, dget (v := .ref ma) (at_ g3 es (fun _ z => by cases z)) (by kernel_rfl), 1, rfl, -1, rfl, ma, mvs, rfl, SqL.of (at_ g3 em (fun _ z => by cases z)), fun q1 hq1 => ?_⟩
          rw [drop_last]
          have g4 : Gr T (mask p H) (mask p (upd H3 q1 (.lst mvs.dropLast))) := g3.trans (gr_newm hq1)
          have hP4 := hP3.gr (Gr.new (o := .lst mvs.dropLast) hq1)
          have nqo : q1 ≠ o := fun z => by rw [z, eo3] at hq1; cases hq1
          have eo4 : (upd H3 q1 (.lst mvs.dropLast)) o = some (.dK (storeD s.file na ra wa ma qa)) := by rw [upd_ne nqo.symm]; exact eo3
          have eq1 : (upd H3 q1 (.lst mvs.dropLast)) q1 = some (.lst mvs.dropLast) := upd_same
          have nqp : q1 ≠ p := hP3.fresh hq1
          generalize upd H3 q1 (.lst mvs.dropLast) = H4 at g4 hP4 eo4 eq1 ⊢
          refine ⟨_, rfl, o, _, rfl, put6 eo4, ?_⟩
          rw [show putK (storeD s.file na ra wa ma qa) (Sum.inr "mends") (.ref q1) = storeD s.file na ra wa q1 qa by kernel_rfl]
          obtain ⟨g5, hP5, eo5⟩ := fin (kvs := storeD s.file na ra wa q1 qa) g4 hP4 eo4
          have eq5 : (mask p (upd H4 o (.dK (storeD s.file na ra wa q1 qa)))) q1 = some (.lst mvs.dropLast) := by rw [mask_ne nqp, upd_ne nqo]; exact eq1
          refine ⟨_, _, _, rfl, .mends hm, hP5.mono (by omega), g5, o, na, ra, wa, q1, qa, mvs.dropLast, rfl, by rw [mask_ne nop]; exact eo5, g5.ext _ _ en (fun _ z => by cases z), g5.ext _ _ er (fun _ z => by cases z), g5.ext _ _ ew (fun _ z => by cases z), eq5, ?_, ReadersV.ext g5.ext ⟨qa, qvs, rfl, eq, hQ⟩⟩
          rw [List.dropLast_eq_take, List.dropLast_eq_take, lm]
          exact (hM.mono fun _ _ => MendV.ext g5.ext).take _
      · by_cases w0 : d = 0
        refine if_t (decide_eq_true (by rw [w0])) ?_
        refine ⟨_, rfl, a, _, rfl, dget (v := .ref ma) (at_ g2 es (fun _ z => by cases z)) (by kernel_rfl), by show 0 ≤ sizeLine; exact Nat.zero_le _, fun q0 hq0 => ?_⟩
        have g3 : Gr T (mask p H) (mask p (upd H2 q0 (.lst []))) := g2.trans (gr_newm hq0)
        have hP3 := hP2.gr (Gr.new (o := .lst []) hq0)
        have eo3 : (upd H2 q0 (.lst [])) o = some (.dK (storeD s.file na ra wa ma qa)) := by rw [upd_ne (ne_of_none eo2 hq0)]; exact eo2
        have eq0 : (upd H2 q0 (.lst [])) q0 = some (.lst []) := upd_same
        generalize upd H2 q0 (.lst []) = H3 at g3 hP3 eo3 eq0 ⊢
        have hm : s.mends = [] := Classical.byContradiction fun z => hA ⟨w0, z⟩
        have hm0 : mvs = [] := List.length_eq_zero_iff.mp (by rw [lm, hm]; rfl)
        refine ⟨ma, q0, mvs, [], rfl, rfl, SqL.of (at_ g3 em (fun _ z => by cases z)), SqL.of eq0, .inr ⟨hm0, rfl, _, rfl, if_f rfl ?_⟩⟩
        rotate_left
        have g3 := g2
        have hP3 := hP2
        have eo3 := eo2
        refine if_f (decide_eq_false fun z => w0 (V.int.inj z)) ?_
        refine iteF ?_
        rotate_left
        all_goals
          clear hP2 g2 eo2 e2
          refine ⟨_, rfl, rfl, _, rfl, ?_⟩
          by_cases w1 : d = 1
          · refine if_t (decide_eq_true (by rw [w1])) ?_
            refine ⟨_, rfl, a, _, rfl, dget (v := .ref qa) (at_ g3 es (fun _ z => by cases z)) (by kernel_rfl), _, rfl, a, _, rfl, dget (v := .ref qa) (at_ g3 es (fun _ z => by cases z)) (by kernel_rfl), 1, rfl, qa, qvs, rfl, SqL.of (at_ g3 eq (fun _ z => by cases z)), fun q1 hq1 => ?_⟩
            rw [take_one]
            have g4 := g3.trans (gr_newm (T := T) (p := p) (o := .lst (qvs.take 1)) hq1)
            have hP4 := hP3.gr (Gr.new (o := .lst (qvs.take 1)) hq1)
            have eo4 := (Gr.new (T := T) (o := .lst (qvs.take 1)) hq1).ext _ _ eo3 (fun _ z => by cases z)
            refine ⟨qa, q1, qvs, qvs.take 1, rfl, rfl, at_ g4 eq (fun _ z => by cases z), upd_same, by rw [List.length_take]; omega, fun q2 hq2 => ?_⟩
            have g5 := g4.trans (gr_newm (T := T) (p := p) (o := .lst (qvs ++ qvs.take 1)) hq2)
            have nqp : q2 ≠ p := hP4.fresh hq2
            have hP5 := hP4.gr (Gr.new (o := .lst (qvs ++ qvs.take 1)) hq2)
            have nqo : q2 ≠ o := fun z => by rw [z, eo4] at hq2; cases hq2
            have eo5 := (Gr.new (T := T) (o := .lst (qvs ++ qvs.take 1)) hq2).ext _ _ eo4 (fun _ z => by cases z)
            refine ⟨_, rfl, o, _, rfl, put6 eo5, ?_⟩
            rw [show putK (storeD s.file na ra wa ma qa) (Sum.inr "readers") (.ref q2) = storeD s.file na ra wa ma q2 by kernel_rfl]
            obtain ⟨g6, hP6, eo6⟩ := fin (kvs := storeD s.file na ra wa ma q2) g5 hP5 eo5
            refine ⟨_, _, _, rfl, .more, hP6.mono (by omega), g6, o, na, ra, wa, ma, q2, mvs, rfl, by rw [mask_ne nop]; exact eo6, g6.ext _ _ en (fun _ z => by cases z), g6.ext _ _ er (fun _ z => by cases z), g6.ext _ _ ew (fun _ z => by cases z), g6.ext _ _ em (fun _ z => by cases z), hM.mono fun _ _ => MendV.ext g6.ext, q2, qvs ++ qvs.take 1, rfl, by rw [mask_ne nqp, upd_ne nqo, upd_same], ?_⟩
            have q6 := hQ.mono fun _ _ => PlacesV.ext g6.ext
            exact q6.app (q6.take 1)
          · refine if_f (decide_eq_false fun z => w1 (V.int.inj z)) ?_
            obtain ⟨r, rs, er0⟩ : ∃ r rs, s.readers = r :: rs := by
              cases h : s.readers with
              | nil => rw [h] at rpos; exact absurd rpos (by decide)
              | cons r rs => exact ⟨r, rs, rfl⟩
            obtain ⟨v0, vr, ev0, ⟨pa, pvs, rfl, epa, hpa⟩, hvr⟩ : ∃ v0 vr, qvs = v0 :: vr ∧ PlacesV (mask p H) v0 r ∧ All2 (PlacesV (mask p H)) vr rs := by
              rw [er0] at hQ
              cases hQ with
              | cons h t => exact ⟨_, _, rfl, h, t⟩
            have lp := hpa.length
            have rk := ok.rok r (by rw [er0]; exact List.mem_cons_self ..)
            have lnm : s.names.length = s.nodes.length := by unfold StoreR.names namesOf; rw [List.length_map]
            have r7 : r.length ≤ 7 := by have := rk.few; have := ok.few; omega
            have at0 : atI qvs 0 = some (.ref pa) := atI_nat (j := 0) (by rw [ev0]; rfl)
            refine ⟨_, rfl, rfl, _, rfl, ?_⟩
            by_cases hB : d = 2 ∧ 1 < r.length
            · obtain ⟨w2, hB⟩ := hB
              refine if_t (decide_eq_true (by rw [w2])) ?_
              refine ⟨_, rfl, a, _, rfl, dget (v := .ref qa) (at_ g3 es (fun _ z => by cases z)) (by kernel_rfl), qa, qvs, 0, _, rfl, rfl, SqL.of (at_ g3 eq (fun _ z => by cases z)), at0, .ref pa, pvs.length, rfl, .inl ⟨pvs, SqL.of (at_ g3 epa (fun _ z => by cases z)), rfl⟩, _, _, rfl, rfl, _, rfl, ?_⟩
              refine if_t (decide_eq_true (by show (1 : Int) < (pvs.length : Int); omega)) ?_
              refine ⟨_, rfl, a, _, rfl, dget (v := .ref qa) (at_ g3 es (fun _ z => by cases z)) (by kernel_rfl), qa, qvs, 0, _, rfl, rfl, SqL.of (at_ g3 eq (fun _ z => by cases z)), at0, pa, pvs, rfl, SqL.of (at_ g3 epa (fun _ z => by cases z)), fun q1 hq1 => ?_⟩
              have g4 := g3.trans (gr_newm (T := T) (p := p) (o := .lst pvs.reverse) hq1)
              have n1p : q1 ≠ p := hP3.fresh hq1
              have hP4 := hP3.gr (Gr.new (o := .lst pvs.reverse) hq1)
              have eo4 := (Gr.new (T := T) (o := .lst pvs.reverse) hq1).ext _ _ eo3 (fun _ z => by cases z)
              have n1o : q1 ≠ o := fun z => by rw [z, eo3] at hq1; cases hq1
              refine ⟨by show 1 ≤ sizeLine; omega, fun q2 hq2 => ?_⟩
              have g5 := g4.trans (gr_newm (T := T) (p := p) (o := .lst [.ref q1]) hq2)
              have e15 := (Gr.new (T := T) (o := .lst [.ref q1]) hq2).ext _ _ (upd_same (H := _) (a := q1) (o := HO.lst pvs.reverse)) (fun _ z => by cases z)
              have hP5 := hP4.gr (Gr.new (o := .lst [.ref q1]) hq2)
              have eo5 := (Gr.new (T := T) (o := .lst [.ref q1]) hq2).ext _ _ eo4 (fun _ z => by cases z)
              refine ⟨_, rfl, a, _, rfl, dget (v := .ref qa) (at_ g5 es (fun _ z => by cases z)) (by kernel_rfl), 1, rfl, qa, qvs, rfl, SqL.of (at_ g5 eq (fun _ z => by cases z)), fun q3 hq3 => ?_⟩
              rw [from_one]
              have g6 := g5.trans (gr_newm (T := T) (p := p) (o := .lst (qvs.drop 1)) hq3)
              have G3 := Gr.new (T := T) (o := .lst (qvs.drop 1)) hq3
              have e16 := G3.ext _ _ e15 (fun _ z => by cases z)
              have hP6 := hP5.gr G3
              have eo6 := G3.ext _ _ eo5 (fun _ z => by cases z)
              refine ⟨q2, q3, [.ref q1], qvs.drop 1, rfl, rfl, G3.ext _ _ upd_same (fun _ z => by cases z), upd_same, by rw [List.length_drop, List.length_singleton]; omega, fun q4 hq4 => ?_⟩
              have G4 := Gr.new (T := T) (o := .lst ([.ref q1] ++ qvs.drop 1)) hq4
              have g7 := g6.trans (gr_newm (T := T) (p := p) (o := .lst ([.ref q1] ++ qvs.drop 1)) hq4)
              have e17 := G4.ext _ _ e16 (fun _ z => by cases z)
              have n4p : q4 ≠ p := hP6.fresh hq4
              have hP7 := hP6.gr G4
              have n4o : q4 ≠ o := fun z => by rw [z, eo6] at hq4; cases hq4
              have eo7 := G4.ext _ _ eo6 (fun _ z => by cases z)
              refine ⟨_, rfl, o, _, rfl, put6 eo7, ?_⟩
              rw [show putK (storeD s.file na ra wa ma qa) (Sum.inr "readers") (.ref q4) = storeD s.file na ra wa ma q4 by kernel_rfl]
              obtain ⟨g8, hP8, eo8⟩ := fin (kvs := storeD s.file na ra wa ma q4) g7 hP7 eo7
              refine ⟨_, _, _, rfl, .turned er0 hB, hP8.mono (by omega), g8, o, na, ra, wa, ma, q4, mvs, rfl, by rw [mask_ne nop]; exact eo8, g8.ext _ _ en (fun _ z => by cases z), g8.ext _ _ er (fun _ z => by cases z), g8.ext _ _ ew (fun _ z => by cases z), g8.ext _ _ em (fun _ z => by cases z), hM.mono fun _ _ => MendV.ext g8.ext, q4, [.ref q1] ++ qvs.drop 1, rfl, by rw [mask_ne n4p, upd_ne n4o, upd_same], ?_⟩
              have hd : V.ref q1 :: vr = [V.ref q1] ++ qvs.drop 1 := by rw [ev0]; rfl
              refine Eq.mp (congrArg (fun z => All2 (PlacesV _) z (r.reverse :: rs)) hd) ?_
              refine .cons ⟨q1, pvs.reverse, rfl, by rw [mask_ne n1p, upd_ne n1o]; exact e17, ?_⟩ (hvr.mono fun _ _ => PlacesV.ext g8.ext)
              exact (hpa.mono fun _ _ => PlaceV.ext g8.ext).rev
            · by_cases w2 : d = 2
              refine if_t (decide_eq_true (by rw [w2])) ?_
              refine ⟨_, rfl, a, _, rfl, dget (v := .ref qa) (at_ g3 es (fun _ z => by cases z)) (by kernel_rfl), qa, qvs, 0, _, rfl, rfl, SqL.of (at_ g3 eq (fun _ z => by cases z)), at0, .ref pa, pvs.length, rfl, .inl ⟨pvs, SqL.of (at_ g3 epa (fun _ z => by cases z)), rfl⟩, _, _, rfl, rfl, _, rfl, ?_⟩
              refine if_f (decide_eq_false (by show ¬ (1 : Int) < (pvs.length : Int); intro z; exact hB ⟨w2, by omega⟩)) ?_
              rotate_left
              refine if_f (decide_eq_false fun z => w2 (V.int.inj z)) ?_
              refine iteF ?_
              rotate_left
              all_goals
                refine ⟨_, rfl, rfl, _, rfl, ?_⟩
                by_cases w3 : d = 3
                · refine if_t (decide_eq_true (by rw [w3])) ?_
                  have npos := ok.pos
                  have nfew := ok.few
                  refine ⟨_, rfl, _, rfl, a, _, rfl, dget (v := .ref na) (at_ g3 es (fun _ z => by cases z)) (by kernel_rfl), p, l, na, n + 1, _, rfl, hP3, by omega, .inl (SqL.of (at_ g3 en (fun _ z => by cases z))), by rw [List.length_map, lnm]; omega, by rw [List.length_map, lnm]; omega, fun v H4 hv hP4 e4 => ?_⟩
                  obtain ⟨nm, hnm, rfl⟩ := List.mem_map.mp hv
                  obtain ⟨x, hx, enm, evx⟩ := rooms_get (xs := s.nodes) hnm
                  have hroom := ok.room x hx
                  have g4 : Gr T (mask p H) (mask p H4) := by rw [e4]; exact g3
                  have eo4 : H4 o = some (.dK (storeD s.file na ra wa ma qa)) := by
                    have := congrFun e4 o
                    rw [mask_ne nop, mask_ne nop] at this
                    rw [this]
                    exact eo3
                  refine ⟨_, rfl, a, _, rfl, dget (v := .ref ra) (at_ g4 es (fun _ z => by cases z)) (by kernel_rfl), ra, _, rfl, .inl (at_ g4 er (fun _ z => by cases z)), fun q1 hq1 => ?_⟩
                  have n1p : q1 ≠ p := hP4.fresh hq1
                  have n1o : q1 ≠ o := fun z => by rw [z, eo4] at hq1; cases hq1
                  have h1H : mask p H q1 = none := g4.stay q1 (by rw [mask_ne n1p]; exact hq1)
                  have g5 := g4.trans (gr_newm (T := T) (p := p) (o := .dK (roomsD s.nodes)) hq1)
                  have hP5 := hP4.gr (Gr.new (o := .dK (roomsD s.nodes)) hq1)
                  have eo5 := (Gr.new (T := T) (o := .dK (roomsD s.nodes)) hq1).ext _ _ eo4 (fun _ z => by cases z)
                  refine ⟨_, rfl, o, _, rfl, put6 eo5, ?_⟩
                  rw [show putK (storeD s.file na ra wa ma qa) (Sum.inr "rooms") (.ref q1) = storeD s.file na q1 wa ma qa by kernel_rfl]
                  obtain ⟨g6, hP6, eo6⟩ := fin (kvs := storeD s.file na q1 wa ma qa) g5 hP5 eo5
                  have e16 : (upd (upd H4 q1 (.dK (roomsD s.nodes))) o (.dK (storeD s.file na q1 wa ma qa))) q1 = some (.dK (roomsD s.nodes)) := by rw [upd_ne n1o, upd_same]
                  generalize upd (upd H4 q1 (.dK (roomsD s.nodes))) o (.dK (storeD s.file na q1 wa ma qa)) = H6 at g6 hP6 eo6 e16 ⊢
                  have er6 : H6 ra = some (.dK (roomsD s.nodes)) := at_ g6 er (fun _ z => by cases z)
                  have es6 : H6 a = some (.dK (storeD s.file na ra wa ma qa)) := at_ g6 es (fun _ z => by cases z)
                  have small : (roomsD s.nodes).length < sizeLine := by unfold roomsD; rw [List.length_map]; omega
                  have last : ∀ r' : Nat, r' ≤ 40 → r' ≠ x.room → ∃ (v3 v4 : Option V) (s' : StoreR), ([some (V.ref p), some (.ref a), some (.ref o), some (.int d), some (.str nm)] : L2.St) = [some (V.ref p), some (.ref a), some (.ref o), v3, v4] ∧ Other s s' ∧ PT T (upd H6 q1 (.dK (putK (roomsD s.nodes) (Sum.inr nm) (.int (r' : Int))))) p l (n + 2) ∧ Gr T (mask p H) (mask p (upd H6 q1 (.dK (putK (roomsD s.nodes) (Sum.inr nm) (.int (r' : Int)))))) ∧ StoreV (mask p (upd H6 q1 (.dK (putK (roomsD s.nodes) (Sum.inr nm) (.int (r' : Int)))))) (.ref o) s' := fun r' h40 hne => by
                    rw [rooms_put hnm]
                    have g7 : Gr T (mask p H) (mask p (upd H6 q1 (.dK (roomsD (s.nodes.map (roomF nm r')))))) := by
                      rw [mask_upd_ne n1p]
                      exact g6.upd h1H
                    refine ⟨_, _, { s with nodes := s.nodes.map (roomF nm r') }, rfl, .room hnm h40 (fun y hy e z => ?_), hP6.putD n1p e16, g7, o, na, q1, wa, ma, qa, mvs, rfl, by rw [mask_ne nop, upd_ne n1o.symm]; exact eo6, ?_, by rw [mask_ne n1p, upd_same], ?_, g7.ext _ _ em (fun _ z => by cases z), hM.mono fun _ _ => MendV.ext g7.ext, ReadersV.ext g7.ext ⟨qa, qvs, rfl, eq, hQ⟩⟩
                    · have : y = x := by
                        obtain ⟨i1, h1, e1⟩ := List.getElem_of_mem hy
                        obtain ⟨i2, h2, e2⟩ := List.getElem_of_mem hx
                        have nd := ok.nd
                        unfold StoreR.names namesOf at nd
                        have := (List.getElem_inj (xs := s.nodes.map (·.name)) (h₀ := by rw [List.length_map]; exact h1) (h₁ := by rw [List.length_map]; exact h2) nd (i := i1) (j := i2)).mp (by rw [List.getElem_map, List.getElem_map, e1, e2, e, enm])
                        subst this
                        rw [← e1, ← e2]
                      rw [this] at z
                      exact hne z.symm
                    · have := g7.ext _ _ en (fun _ z => by cases z)
                      rw [this]
                      show some (HO.lst ((namesOf s.nodes).map V.str)) = some (HO.lst ((namesOf (s.nodes.map (roomF nm r'))).map V.str))
                      rw [names_roomF]
                    · have := g7.ext _ _ ew (fun _ z => by cases z)
                      rw [this]
                      show some (HO.lst ((newsOf s.nodes).map V.str)) = some (HO.lst ((newsOf (s.nodes.map (roomF nm r'))).map V.str))
                      rw [news_roomF]
                  refine ⟨_, rfl, a, _, rfl, dget (v := .ref ra) es6 (by kernel_rfl), _, rfl, ra, _, rfl, dget er6 evx, rfl, _, rfl, ?_⟩
                  by_cases h20 : x.room = 20
                  · refine if_f (by rw [h20]; decide) ?_
                    refine ⟨_, rfl, o, _, rfl, dget (v := .ref q1) eo6 (by kernel_rfl), _, rfl, q1, _, rfl, DPut.k (k := Sum.inr nm) e16 small, ?_⟩
                    exact last 3 (by decide) (by omega)
                  · refine if_t (by simp; omega) ?_
                    refine ⟨_, rfl, a, _, rfl, dget (v := .ref ra) es6 (by kernel_rfl), _, rfl, ra, _, rfl, dget er6 evx, _, _, rfl, rfl, ?_⟩
                    refine ⟨_, rfl, o, _, rfl, dget (v := .ref q1) eo6 (by kernel_rfl), _, rfl, q1, _, rfl, DPut.k (k := Sum.inr nm) e16 small, ?_⟩
                    have e : (40 : Int) - (x.room : Int) = ((40 - x.room : Nat) : Int) := by omega
                    have L := last (40 - x.room) (by omega) (by omega)
                    rw [← e] at L
                    exact L
                · refine if_f (decide_eq_false fun z => w3 (V.int.inj z)) ?_
                  refine ⟨_, rfl, a, _, rfl, dget (v := .int (s.file : Int)) (at_ g3 es (fun _ z => by cases z)) (by kernel_rfl), _, _, rfl, rfl, (by show (0 : Int) < 40; decide), _, _, rfl, rfl, _, rfl, o, _, rfl, put6 eo3, ?_⟩
                  rw [show putK (storeD s.file na ra wa ma qa) (Sum.inr "file") (.int ((s.file : Int) % 40 + 1)) = storeD (s.file % 40 + 1) na ra wa ma qa from rfl]
                  obtain ⟨g6, hP6, eo6⟩ := fin (kvs := storeD (s.file % 40 + 1) na ra wa ma qa) g3 hP3 eo3
                  exact ⟨_, _, _, rfl, .file, hP6.mono (by omega), g6, o, na, ra, wa, ma, qa, mvs, rfl, by rw [mask_ne nop]; exact eo6, g6.ext _ _ en (fun _ z => by cases z), g6.ext _ _ er (fun _ z => by cases z), g6.ext _ _ ew (fun _ z => by cases z), g6.ext _ _ em (fun _ z => by cases z), hM.mono fun _ _ => MendV.ext g6.ext, ReadersV.ext g6.ext ⟨qa, qvs, rfl, eq, hQ⟩⟩
    · rintro σ' H' ⟨v3, v4, s', rfl, ot, hP', g', hV'⟩
      exact ⟨_, rfl, k _ s' _ ot hP' g' hV'⟩
end
end Z
set_option Elab.async false
set_option linter.all false
set_option maxRecDepth 100000
set_option maxHeartbeats 2000000
namespace Z
open PySem L2 PyProof.Rows ZX GX TL ZT
/-! methods that raise -/
structure MxX (P : Program) (w : World) (K : PySem.W.Frag) (mg : Str → Option Value) (base : Heap) (C : Addr) (m : Str) (k : Nat) (ps : List Str) (sp : Sp) : Prop where
  ex : ∃ f fd, FnOk P w K mg base (L2.CX P w) k f fd ps sp ∧ Meth K C m f ∧ Binds K fd ps []
theorem pe_mxX {X : Cx} {o e : Expr} {es : List Expr} {ta : TE} {t : TA} {C : Addr} {m : Str} {k : Nat} {ps : List Str} {sp : Sp} {apos pos : Pos} {pl : Sem Bool} {E : XK} (he : PE X o ta) (c : Cls X.K C) (M : MxX X.prog X.w X.K X.mg X.base C m k ps sp) (hr : Room k X.A) (hx : Passes (L2.CX X.prog X.w) X E) (ha : PA X (e :: es) t)
    (hst : starEach (e :: es) X.env = (false, eval e X.env) :: starEach es X.env := by rfl) (hpl : (backTo pos (starEach es X.env)).any (·.1) = false := by rfl)
    (ht : eval (.Call (.Attribute o m apos) (e :: es) [] pos) X.env = (do
      let ov ← eval o X.env
      standAt apos.atName
      let (f, first) ← holding [ov] (getMethod ov m pl)
      callWith pos f first (backTo pos (starEach (e :: es) X.env)) (backToKw pos (keywordEach [] X.env))) := by rfl) :
    PE X (.Call (.Attribute o m apos) (e :: es) [] pos) (tMeth C m sp [] E ta t) := by
  obtain ⟨f, fd, h1, h2, h3⟩ := M.ex
  exact pe_meth (pl := pl) he c h2 h1 hr h3 .nil hx ha hst hpl ht
/-- the def that tells what is raised, at hand -/
structure NEF (K : PySem.W.Frag) (mg : Str → Option Value) : Prop where
  ex : ∃ g fd, Fun K "_law_name_error" "_law_name_error" s_l_ne g fd ∧ mg "_law_name_error" = some (.ref g) ∧ PySem.W.keepIn K (.ref g) = true ∧ Binds K fd ["_law_call"] []
theorem pe_ne {X : Cx} {CB CN c P : Addr} {params : Arguments} {body : Expr} {scope : Scope} {t : XK → TE} {p lpos pos : Pos} (Fn : NEF X.K X.mg) (M : NE X.K X.mg CB CN) (hgd : X.A.guards = some []) (TB : LamX.TabB X.base X.mg c P) (hc : X.env.code = .ref c) (room : Room 5 X.A) (L : LamX.lamSB X.env.scope scope = true)
    (bd : ∀ (A : Around) (outer : List Env) (s : Shared) (H : Hp) (E : XK) (f c' : Addr), Room 3 (A.deeper (LamX.lamEnv X scope s.heap.objs.size f c')) → PE (LamX.lamCx X A outer s H E scope f c') body (t E))
    (gx : Gl X "_law_name_error" := by rfl) (nodef : defaultsOf params X.env = ([], []) := by rfl) (lb : ∀ (q : Str) (cl : List (Str × Addr)) (pm cv ctv : Value), bindArgs (PySem.W.kla_fn "<lambda>" q params body scope cl pm cv ctv) ⟨[], []⟩ = pure [] := by intros; rfl) :
    PE X (.Call (.Name "_law_name_error" p) [.Lambda params body scope lpos] [] pos) (tLamG P (X.env.qual ++ "<lambda>") (TTN X.K CB CN) t) := by
  obtain ⟨g, fd, F, own, kg, bi⟩ := Fn.ex
  obtain ⟨oc, od, kV, doc, pm, an, cdv, ct, osl, rfl, lk, hcd⟩ := F.ex
  exact pe_lamG gx own kg lk hcd bi sc_l_ne rfl (.inl rfl) (name_error_gives M hgd (room.mono (by decide))) TB hc room (LamX.lamS_by L) nodef lb bd
theorem pass_lam {X : Cx} {A : Around} {outer : List Env} {s : Shared} {H : Hp} {E : XK} {scope : Scope} {f c' : Addr} : Passes (L2.CX (LamX.lamCx X A outer s H E scope f c').prog (LamX.lamCx X A outer s H E scope f c').w) (LamX.lamCx X A outer s H E scope f c') E :=
  passes_call (takes_of rfl rfl rfl rfl) fun _ _ _ _ h => h
/-- name_error(lambda: o.m(a)), all that is meant told by name -/
theorem pe_neM {X : Cx} {P : Program} {w : World} {K : PySem.W.Frag} {mg : Str → Option Value} {base : Heap} {CS CB CN c P0 : Addr} {params : Arguments} {xo xa m : Str} {po pa p1 p2 : Pos} {scope : Scope} {p lpos pos : Pos} {io ia : Nat} {ps : List Str} {sp : Sp} (Fn : NEF K mg) (M : NE K mg CB CN) (cl : Cls K CS) (Mt : MxX P w K mg base CS m 3 ps sp) (TB : LamX.TabB base mg c P0)
    (hgd : X.A.guards = some []) (room : Room 5 X.A) (sc0 : Scope) (hP : X.prog = P := by rfl) (hw : X.w = w := by rfl) (hK : X.K = K := by rfl) (hm : X.mg = mg := by rfl) (hb : X.base = base := by rfl) (hc : X.env.code = .ref c := by rfl) (hs0 : X.env.scope = sc0 := by rfl) (L : LamX.lamSB sc0 scope = true := by decide +kernel)
    (no : X.N[io]? = some xo := by rfl) (na : X.N[ia]? = some xa := by rfl) (vo : Vis scope xo := by exact .inr (.inr rfl)) (va : Vis scope xa := by exact .inr (.inr rfl))
    (d1 : (xo == ("__debug__" : Str)) = false := by decide) (d2 : (xo == ("__classdict__" : Str)) = false := by decide) (d3 : (xa == ("__debug__" : Str)) = false := by decide) (d4 : (xa == ("__classdict__" : Str)) = false := by decide)
    (gx : Gl X "_law_name_error" := by rfl) (nodef : defaultsOf params X.env = ([], []) := by rfl) (lb : ∀ (q : Str) (cl : List (Str × Addr)) (pm cv ctv : Value), bindArgs (PySem.W.kla_fn "<lambda>" q params (.Call (.Attribute (.Name xo po) m p1) [.Name xa pa] [] p2) scope cl pm cv ctv) ⟨[], []⟩ = pure [] := by intros; rfl)
    {pl : Addr → Addr → Addr → Sem Bool} (ht : ∀ z0 f0 c0 : Addr, eval (.Call (.Attribute (.Name xo po) m p1) [.Name xa pa] [] p2) (LamX.lamEnv X scope z0 f0 c0) = (do
      let ov ← eval (.Name xo po) (LamX.lamEnv X scope z0 f0 c0)
      standAt p1.atName
      let (f, first) ← holding [ov] (getMethod ov m (pl z0 f0 c0))
      callWith p2 f first (backTo p2 (starEach [.Name xa pa] (LamX.lamEnv X scope z0 f0 c0))) (backToKw p2 (keywordEach [] (LamX.lamEnv X scope z0 f0 c0)))) := by intros; rfl) :
    PE X (.Call (.Name "_law_name_error" p) [.Lambda params (.Call (.Attribute (.Name xo po) m p1) [.Name xa pa] [] p2) scope lpos] [] pos) (tLamG P0 (X.env.qual ++ "<lambda>") (TTN K CB CN) fun E => tMeth CS m sp [] E (tVar io) (tCons (tVar ia) tNil)) := by
  subst hP hw hK hm hb
  exact pe_ne Fn M hgd TB hc room (by rw [hs0]; exact L) (fun A outer s H E f c' r => pe_mxX (X := LamX.lamCx X A outer s H E scope f c') (pl := pl s.heap.objs.size f c') (pe_var no vo d1 d2) cl Mt r (pass_lam (X := X) (A := A) (outer := outer) (s := s) (H := H) (E := E) (scope := scope) (f := f) (c' := c')) (pa_cons (pe_var na va d3 d4) pa_nil) rfl rfl (ht _ _ _)) gx nodef lb
theorem pe_neS {X : Cx} {P : Program} {w : World} {K : PySem.W.Frag} {mg : Str → Option Value} {base : Heap} {CS CB CN c P0 : Addr} {params : Arguments} {xo m sx : Str} {jx : Nat} {po pa p1 p2 : Pos} {scope : Scope} {p lpos pos : Pos} {io : Nat} {ps : List Str} {sp : Sp} (Fn : NEF K mg) (M : NE K mg CB CN) (cl : Cls K CS) (Mt : MxX P w K mg base CS m 3 ps sp) (TB : LamX.TabB base mg c P0)
    (hgd : X.A.guards = some []) (room : Room 5 X.A) (sc0 : Scope) (hP : X.prog = P := by rfl) (hw : X.w = w := by rfl) (hK : X.K = K := by rfl) (hm : X.mg = mg := by rfl) (hb : X.base = base := by rfl) (hc : X.env.code = .ref c := by rfl) (hs0 : X.env.scope = sc0 := by rfl) (L : LamX.lamSB sc0 scope = true := by decide +kernel)
    (no : X.N[io]? = some xo := by rfl) (vo : Vis scope xo := by exact .inr (.inr rfl))
    (d1 : (xo == ("__debug__" : Str)) = false := by decide) (d2 : (xo == ("__classdict__" : Str)) = false := by decide)
    (gx : Gl X "_law_name_error" := by rfl) (nodef : defaultsOf params X.env = ([], []) := by rfl) (lb : ∀ (q : Str) (cl : List (Str × Addr)) (pm cv ctv : Value), bindArgs (PySem.W.kla_fn "<lambda>" q params (.Call (.Attribute (.Name xo po) m p1) [.Constant (.str sx) jx pa] [] p2) scope cl pm cv ctv) ⟨[], []⟩ = pure [] := by intros; rfl)
    {pl : Addr → Addr → Addr → Sem Bool} (ht : ∀ z0 f0 c0 : Addr, eval (.Call (.Attribute (.Name xo po) m p1) [.Constant (.str sx) jx pa] [] p2) (LamX.lamEnv X scope z0 f0 c0) = (do
      let ov ← eval (.Name xo po) (LamX.lamEnv X scope z0 f0 c0)
      standAt p1.atName
      let (f, first) ← holding [ov] (getMethod ov m (pl z0 f0 c0))
      callWith p2 f first (backTo p2 (starEach [.Constant (.str sx) jx pa] (LamX.lamEnv X scope z0 f0 c0))) (backToKw p2 (keywordEach [] (LamX.lamEnv X scope z0 f0 c0)))) := by intros; rfl) :
    PE X (.Call (.Name "_law_name_error" p) [.Lambda params (.Call (.Attribute (.Name xo po) m p1) [.Constant (.str sx) jx pa] [] p2) scope lpos] [] pos) (tLamG P0 (X.env.qual ++ "<lambda>") (TTN K CB CN) fun E => tMeth CS m sp [] E (tVar io) (tCons (tC (.str sx)) tNil)) := by
  subst hP hw hK hm hb
  exact pe_ne Fn M hgd TB hc room (by rw [hs0]; exact L) (fun A outer s H E f c' r => pe_mxX (X := LamX.lamCx X A outer s H E scope f c') (pl := pl s.heap.objs.size f c') (pe_var no vo d1 d2) cl Mt r (pass_lam (X := X) (A := A) (outer := outer) (s := s) (H := H) (E := E) (scope := scope) (f := f) (c' := c')) (pa_cons pe_str pa_nil) rfl rfl (ht _ _ _)) gx nodef lb
end Z
set_option Elab.async false
set_option linter.all false
set_option maxRecDepth 100000
set_option maxHeartbeats 2000000
namespace Z
open PySem L2 PyProof.Rows ZX GX TL ZT
/-! statements, each with what holds ahead and behind -/
def Tri {α : Type} (X : Cx) (s : Stmt) (pre post : α → L2.St → Hp → Prop) : Prop := ∃ t : TS, PS X s t ∧ ∀ (i : α) (D : Ends) σ H, pre i σ H → (∀ σ' H', post i σ' H' → D.nx σ' H') → t D σ H
def Tris {α : Type} (X : Cx) (ss : List Stmt) (pre post : α → L2.St → Hp → Prop) : Prop := ∃ t : TS, PSs X ss t ∧ ∀ (i : α) (D : Ends) σ H, pre i σ H → (∀ σ' H', post i σ' H' → D.nx σ' H') → t D σ H
section
variable {α : Type} {X : Cx} {s : Stmt} {ss : List Stmt} {pre mid post : α → L2.St → Hp → Prop}
theorem Tris.nil (h : ∀ i σ H, pre i σ H → post i σ H) : Tris X [] pre post := ⟨_, pss_nil, fun i D σ H p k => k σ H (h i σ H p)⟩
theorem Tris.cons (a : Tri X s pre mid) (b : Tris X ss mid post) : Tris X (s :: ss) pre post := by
  obtain ⟨t, ht, ha⟩ := a
  obtain ⟨u, hu, hb⟩ := b
  exact ⟨_, C8.pss_cut ht hu, fun i D σ H p k => ⟨mid i, ha i _ σ H p fun _ _ m => m, fun σ' H' m => hb i D σ' H' m k⟩⟩
theorem Tris.one (a : Tri X s pre post) : Tris X [s] pre post := a.elim fun t h => ⟨_, pss_one h.1, h.2⟩
end
/-- the script, the pen and its cells, and how often was drawn -/
structure Ix where
  a : Addr
  p : Addr
  l : Addr
  n : Nat
  hn : n < 2 ^ 34
/-! texts of repr -/
theorem rc_asc : ∀ c, c < 128 → ((Builtin.Str.reprChar 39 c).all fun d => decide (d < 128)) = true ∧ ((Builtin.Str.reprChar 34 c).all fun d => decide (d < 128)) = true := by decide +kernel
theorem asc_repr {x : Str} (h : Asc x) : Asc (reprText x) := by
  have hq : reprQuote x = 39 ∨ reprQuote x = 34 := by
    unfold reprQuote
    split
    · exact .inr rfl
    · exact .inl rfl
  have q128 : reprQuote x < 128 := by rcases hq with e | e <;> rw [e] <;> decide
  have ch : ∀ c < 128, ∀ d ∈ Builtin.Str.reprChar (reprQuote x) c, d < 128 := fun c hc d hd => by
    rcases hq with e | e
    · rw [e] at hd
      exact of_decide_eq_true (List.all_eq_true.mp (rc_asc c hc).1 d hd)
    · rw [e] at hd
      exact of_decide_eq_true (List.all_eq_true.mp (rc_asc c hc).2 d hd)
  have fold : ∀ (l : List Nat) (out : Array Nat), (∀ c ∈ l, c < 128) → (∀ d ∈ out.toList, d < 128) → ∀ d ∈ (l.foldl (fun out c => out ++ (Builtin.Str.reprChar (reprQuote x) c).toArray) out).toList, d < 128 := by
    intro l
    induction l with
    | nil => intro out _ h2; exact h2
    | cons c l ih =>
      intro out h1 h2
      refine ih _ (fun d hd => h1 d (List.mem_cons_of_mem _ hd)) fun d hd => ?_
      rw [Array.toList_append] at hd
      rcases List.mem_append.mp hd with z | z
      · exact h2 d z
      · exact ch c (h1 c (List.mem_cons_self ..)) d (by simpa using z)
  intro c hc
  unfold reprText tl at hc
  rw [Array.toList_push] at hc
  rcases List.mem_append.mp hc with z | z
  · rw [← Array.foldl_toList] at z
    refine fold x.cps.toList #[reprQuote x] h (fun d hd => ?_) c z
    rw [List.mem_singleton.mp hd]
    exact q128
  · rw [List.mem_singleton.mp z]
    exact q128
theorem repr_len {x : Str} (h : Asc x) (l : x.length ≤ 50) : (reprText x).length ≤ 1000 := by
  have := StrLaws.reprText_len x fun c hc => by
    have : c < 128 := h c hc
    omega
  omega
theorem shown_of_str {K : PySem.W.Frag} {H : Hp} {x : Str} (h : Asc x) (l : x.length ≤ 50) : Shown K H (.str x) (.str x) :=
  ⟨.str x, by simp [PyData.showable], by simp [PyData.hasDict], by simp [PyData.depth], by rw [PyData.shown_str]; exact repr_len h l⟩
/-- a value that is no string, one of five -/
inductive Odd5 (H : Hp) : V → PyData → Prop
  | non : Odd5 H .non .none
  | five : Odd5 H (.int 5) (.int 5)
  | tup {t : Addr} (e : H t = some (.tup [.str "a"])) : Odd5 H (.ref t) (.tuple [.str "a"])
  | lst {t : Addr} (e : H t = some (.lst [.str "a"])) : Odd5 H (.ref t) (.list [.str "a"])
  | tru : Odd5 H (.bl true) (.bool true)
theorem Odd5.ext {H H' : Hp} {v : V} {d : PyData} (x : Ext H H') (h : Odd5 H v d) : Odd5 H' v d := by
  cases h with
  | non => exact .non
  | five => exact .five
  | tup e => exact .tup (x _ _ e fun _ z => by cases z)
  | lst e => exact .lst (x _ _ e fun _ z => by cases z)
  | tru => exact .tru
theorem Odd5.odd {K : PySem.W.Frag} {H : Hp} {v : V} {d : PyData} (h : Odd5 H v d) : OddV K H v := by
  cases h with
  | non => exact ⟨_, .base .non, by decide +kernel⟩
  | five => exact ⟨_, .base (.int _), by decide +kernel⟩
  | tup e => exact ⟨_, .base (.tup e), by decide +kernel⟩
  | lst e => exact ⟨_, .base (.lst e), by decide +kernel⟩
  | tru => exact ⟨_, .base (.bl _), by decide +kernel⟩
theorem Odd5.shown {K : PySem.W.Frag} {H : Hp} {v : V} {d : PyData} (h : Odd5 H v d) : Shown K H v d ∧ Asc d.shown := by
  have one : Dp K H (.str "a") (.str "a") := .str _
  cases h with
  | non => exact ⟨⟨.non, by decide +kernel⟩, asc_lit (by decide +kernel)⟩
  | five => exact ⟨⟨.int _, by decide +kernel⟩, asc_lit (by decide +kernel)⟩
  | tup e => exact ⟨⟨.tup (SqT.of e) (.cons one .nil), by decide +kernel⟩, asc_lit (by decide +kernel)⟩
  | lst e => exact ⟨⟨.lst (SqL.of e) (.cons one .nil), by decide +kernel⟩, asc_lit (by decide +kernel)⟩
  | tru => exact ⟨⟨.bl _, by decide +kernel⟩, asc_lit (by decide +kernel)⟩
end Z
set_option Elab.async false
set_option linter.all false
set_option maxRecDepth 100000
set_option maxHeartbeats 2000000
namespace Z
open PySem L2 PyProof.Rows ZX GX TL ZT
/-! what holds between the law's statements -/
abbrev s_law : Stmt := topS 43
abbrev N_law : List Str := ["_law_script", "_law_pen_here", "_law_lap", "_law_store", "_law_zeros_here", "_law_other", "_law_found", "_law_made", "_law_label", "_law_none", "_law_odd", "_law_ring", "_law_told", "_law_row", "_law_mend"]
theorem sc_law : FnScope N_law ["_law_script"] (defScope s_law) := ⟨rfl, rfl, rfl, by decide +kernel, rfl, by decide +kernel, by decide +kernel⟩
structure LW (P : Program) (w : World) (K : PySem.W.Frag) (mg : Str → Option Value) (base : Heap) (T : List Addr) (CS CM CB CN : Addr) : Prop where
  b_range : mg "range" = none
  b_repr : mg "repr" = none
  pen : Fx P w K mg base "_law_pen" 1 ["_law_script"] (spPen K)
  pick : Fx P w K mg base "_law_pick" 2 ["_law_pen_here", "_law_some"] (spPk T K)
  store : Fx P w K mg base "_law_any_store" 5 ["_law_pen_here", "_law_many", "_law_mends", "_law_room"] (spStore T)
  rows : Fx P w K mg base "_law_store_rows" 3 ["_law_store", "_law_zeros_here"] (spRows T)
  init : MkX P w K mg base "Store" CS 9 ["self", "text"] (spStoreInit CS CM T)
  mend : MkX P w K mg base "Mend" CM 1 ["self", "label", "kind", "nodes", "helpers", "amounts", "swap"] (spMendInit CM)
  is_new : MxX P w K mg base CS "is_new" 3 ["self", "name"] (spIsNewX K CS CM CB CN)
  mend_of : MxX P w K mg base CS "mend_of" 3 ["self", "label"] (spMendOfX K CS CM CB CN)
  tf : Fx P w K mg base "_law_told_fields" 1 ["_law_mend"] (spToldF CM T)
  text : Fx P w K mg base "_law_any_text" 4 ["_law_store"] (spAnyText T)
  other : Fx P w K mg base "_law_other_store" 3 ["_law_pen_here", "_law_store"] (spOther T)
  written : Fx P w K mg base "written" 6 ["store"] (spWritten CS CM T)
  nef : NEF K mg
  ne : NE K mg CB CN
abbrev sg (a p : Addr) (v2 v3 v4 v5 v6 v8 v9 v10 v12 : Option V) : L2.St := [some (.ref a), some (.ref p), v2, v3, v4, v5, v6, none, v8, v9, v10, none, v12, none, none]
theorem PT.gr' {T T' : List Addr} {H H' : Hp} {p l : Addr} {n : Nat} (h : PT T H p l n) (g : Gr T' H H') : PT T H' p l n := by
  obtain ⟨c, hc, h1⟩ := h.pen
  obtain ⟨ns, a, d, f, e1, e2, e3⟩ := h1.ex
  exact ⟨⟨c, hc, ⟨ns, a, d, f, g.ext _ _ e1 (fun _ z => by cases z), g.ext _ _ e2 (fun _ z => by cases z), e3⟩⟩, fun P hP => g.tab P (h.tab P hP)⟩
theorem codeO_dK {c : Addr} {q : Str} {kvs : List (Key × V)} : LamX.CodeO c q ≠ .dK kvs := fun z => by
  unfold LamX.CodeO at z
  cases z
theorem tabS_mask {T : List Addr} {H H' : Hp} {p l P : Addr} {n : Nat} {q : Str} (hP : PT T H p l n) (nP : P ∉ T) (g : Gr T (mask p H) (mask p H')) (t : LamX.TabS H P q) : LamX.TabS H' P q := by
  obtain ⟨ps, e, t1, t2⟩ := t
  have ne : P ≠ p := hP.ne e (fun kvs z => by cases z)
  refine ⟨ps, un_mask (g.keep P nP ps (by rw [mask_ne ne]; exact e)), t1, fun pos cv h => ?_⟩
  obtain ⟨c, e1, e2⟩ := t2 pos cv h
  have nc : c ≠ p := hP.ne e2 fun kvs z => codeO_dK z
  exact ⟨c, e1, un_mask (g.ext _ _ (by rw [mask_ne nc]; exact e2) fun qs => LamX.codeO_ne qs)⟩
theorem GP.gr1 {T : List Addr} {H H' : Hp} {x : Addr} (g : GP T [x] H H') (h : H x = none) : Gr T H H' := by
  have := g.drop h
  exact ⟨fun b o e n => this.ext b o List.not_mem_nil e n, this.tab, this.stay, this.keep⟩
theorem built {T : List Addr} {CS : Addr} {H H' : Hp} {x dx : Addr} (hx : H x = none) (hdx : H dx = none) (g : GP T [x] (upd (upd H dx (.own x)) x (.ins CS dx [])) H') : Gr T H H' :=
  ((GP.of ((Gr.new hdx).upd hx)).trans g).gr1 hx
theorem made {T : List Addr} {CS : Addr} {H : Hp} {x dx : Addr} (hx : H x = none) (hdx : H dx = none) : Gr T H (upd (upd H dx (.own x)) x (.ins CS dx [])) := (Gr.new hdx).upd hx
section
variable (T : List Addr) (P0 : Addr) (q : Str) (CS CM : Addr) (p l : Addr) (n : Nat)
structure Base (H : Hp) (m : Nat) : Prop where
  pt : PT T H p l (n + m)
  tab : LamX.TabS H P0 q
structure Drawn (H : Hp) (m : Nat) (v : V) (s : StoreR) : Prop extends Base T P0 q p l n H m where
  ok : StoreOk s
  r8 : s.readers.length ≤ 8
  sv : StoreV (mask p H) v s
structure Told (H : Hp) (m : Nat) (v : V) (s : StoreR) (B : SA) : Prop extends Drawn T P0 q p l n H m v s where
  at_ : StoreAt CS CM H B s (textT (rowsOf "" s) "\n")
end
section
variable {T : List Addr} {P0 : Addr} {q : Str} {CS CM : Addr} {p l : Addr} {n : Nat} {H H' : Hp} {m : Nat} {v : V} {s : StoreR} {B : SA}
theorem Base.gr {T' : List Addr} (h : Base T P0 q p l n H m) (g : Gr T' H H') (t : LamX.TabS H' P0 q) : Base T P0 q p l n H' m := ⟨h.pt.gr' g, t⟩
theorem Base.grT (h : Base T P0 q p l n H m) (nP : P0 ∉ T) (g : Gr T H H') : Base T P0 q p l n H' m := ⟨h.pt.gr g, g.tabS nP h.tab⟩
theorem Drawn.gr {T' : List Addr} (h : Drawn T P0 q p l n H m v s) (g : Gr T' H H') (t : LamX.TabS H' P0 q) : Drawn T P0 q p l n H' m v s := ⟨h.toBase.gr g t, h.ok, h.r8, h.sv.ext g.mask.ext⟩
theorem Drawn.grT (h : Drawn T P0 q p l n H m v s) (nP : P0 ∉ T) (g : Gr T H H') : Drawn T P0 q p l n H' m v s := h.gr g (g.tabS nP h.tab)
theorem Told.gr {T' : List Addr} (h : Told T P0 q CS CM p l n H m v s B) (g : Gr T' H H') (t : LamX.TabS H' P0 q) : Told T P0 q CS CM p l n H' m v s B := ⟨h.toDrawn.gr g t, h.at_.ext g.ext⟩
theorem Told.grT (h : Told T P0 q CS CM p l n H m v s B) (nP : P0 ∉ T) (g : Gr T H H') : Told T P0 q CS CM p l n H' m v s B := h.gr g (g.tabS nP h.tab)
/-- a draw -/
theorem Told.draw {k : Nat} (h : Told T P0 q CS CM p l n H m v s B) (nP : P0 ∉ T) (hP : PT T H' p l (n + k)) (e : Gr T (mask p H) (mask p H')) (hB : StoreAt CS CM H' B s (textT (rowsOf "" s) "\n")) : Told T P0 q CS CM p l n H' k v s B :=
  ⟨⟨⟨hP, tabS_mask h.pt nP e h.tab⟩, h.ok, h.r8, h.sv.ext e.ext⟩, hB⟩
/-- a store stands beside the pen -/
theorem StoreAt.off {T : List Addr} {H H' : Hp} {p l : Addr} {n : Nat} {B : SA} {text : Str} (h : StoreAt CS CM H B s text) (hP : PT T H p l n) (g : Gr T (mask p H) (mask p H')) : StoreAt CS CM H' B s text := by
  have x : ∀ {b : Addr} {o : HO}, H b = some o → (∀ kvs, o ≠ .dK kvs) → (∀ ps, o ≠ .tbl ps) → H' b = some o := fun {b o} e n1 n2 => un_mask (g.ext _ _ (by rw [mask_ne (hP.ne e n1)]; exact e) n2)
  have kt : Kt CM H H' := fun b o e so => by
    refine x e (fun kvs z => ?_) (fun ps z => ?_)
    · rw [z] at so
      exact so.elim
    · rw [z] at so
      exact so.elim
  obtain ⟨mvs, m1, m2⟩ := h.md
  obtain ⟨qvs, q1, q2⟩ := h.rd
  exact ⟨x h.ob (fun _ z => by cases z) (fun _ z => by cases z), x h.nm (fun _ z => by cases z) (fun _ z => by cases z), x h.rm (fun _ z => by cases z) (fun _ z => by cases z), x h.nw (fun _ z => by cases z) (fun _ z => by cases z),
    ⟨mvs, x m1 (fun _ z => by cases z) (fun _ z => by cases z), m2.mono fun _ _ => MendO.kt kt⟩, ⟨qvs, x q1 (fun _ z => by cases z) (fun _ z => by cases z), q2.mono fun _ _ => PlT.kt kt⟩⟩
end
theorem ne_self {x : V} : (!decide (x = x)) = false := by simp
end Z
set_option Elab.async false
set_option linter.all false
set_option maxRecDepth 100000
set_option maxHeartbeats 4000000
namespace Z
open PySem L2 PyProof.Rows ZX GX TL ZT
abbrev z0 : Stmt := .Pass ⟨0, 0, 0, 0⟩
abbrev lp (k : Nat) : Stmt := (forBody (bodyAt s_law 1)).getD k z0
abbrev XL (P : Program) (w : World) (K : PySem.W.Frag) (mg : Str → Option Value) (base : Heap) (f c : Addr) (A : Around) (outer : List Env) (sh : Shared) (H0 : Hp) (E : XK) : Cx := (cxOf CX0 P w K mg base N_law "law" (defScope s_law) f (.ref c) A outer sh H0 E).nox
section
variable {P : Program} {w : World} {K : PySem.W.Frag} {mg : Str → Option Value} {base : Heap} {T : List Addr} {CS CM CB CN : Addr} {f c P0 : Addr} {A : Around} {outer : List Env} {sh : Shared} {H0 : Hp} {E : XK} {q : Str}
def nones : List Str := ["", "notthere0001", "A"]
theorem tr_store (W : LW P w K mg base T CS CM CB CN) (SC : StoreC K CS) (nP : P0 ∉ T) (hr : Room 10 (A.deeper (envOfC "law" (defScope s_law) sh.heap.objs.size f (.ref c)))) :
    Tri (XL P w K mg base f c A outer sh H0 E) (lp 0) (fun (i : Ix) (σ : L2.St) (H : Hp) => ∃ v2 v3 v4 v5 v6 v8 v9 v10 v12 : Option V, σ = sg i.a i.p v2 v3 v4 v5 v6 v8 v9 v10 v12 ∧ Base T P0 q i.p i.l i.n H 0)
      (fun (i : Ix) (σ : L2.St) (H : Hp) => ∃ (v2 v4 v5 v6 v8 v9 v10 v12 : Option V) (v : V) (s : StoreR), σ = sg i.a i.p v2 (some v) v4 v5 v6 v8 v9 v10 v12 ∧ Drawn T P0 q i.p i.l i.n H 5000 v s) := by
  have hu := hu_of hr
  have hr1 : Room 1 _ := hr.mono (by decide)
  have hr2 : Room 2 _ := hr.mono (by decide)
  have hr3 : Room 3 _ := hr.mono (by decide)
  have hr4 : Room 4 _ := hr.mono (by decide)
  have hr5 : Room 5 _ := hr.mono (by decide)
  have hr6 : Room 6 _ := hr.mono (by decide)
  have nd := sc_law.nd
  have sl : sizeLine = 16777216 := sizeLine_eq
  refine ⟨_, (ps_set (i := 3) nd rfl (Or.inl rfl) (pe_fx W.store hr5 (pa_cons (pv 1) (pa_cons pe_int (pa_cons pe_int (pa_cons pe_int pa_nil)))))), ?_⟩
  rintro ⟨a, p, l, n, hn⟩
  dsimp only
  rintro D σ H ⟨v2, v3, v4, v5, v6, v8, v9, v10, v12, rfl, hB⟩ k
  refine ⟨_, rfl, p, l, n, 6, 6, 5, rfl, hB.pt, by omega, by decide, by decide, by decide, by decide, by decide, fun v s H2 ok h8 hP2 g2 hV => ?_⟩
  exact k _ _ ⟨_, _, _, _, _, _, _, _, v, s, rfl, ⟨⟨hP2, tabS_mask hB.pt nP g2 hB.tab⟩, ok, h8, hV⟩⟩
theorem tr_told (W : LW P w K mg base T CS CM CB CN) (SC : StoreC K CS) (nP : P0 ∉ T) (hr : Room 10 (A.deeper (envOfC "law" (defScope s_law) sh.heap.objs.size f (.ref c)))) :
    Tri (XL P w K mg base f c A outer sh H0 E) (lp 1) (fun (i : Ix) (σ : L2.St) (H : Hp) => ∃ (v2 v4 v5 v6 v8 v9 v10 v12 : Option V) (v : V) (s : StoreR), σ = sg i.a i.p v2 (some v) v4 v5 v6 v8 v9 v10 v12 ∧ Drawn T P0 q i.p i.l i.n H 5000 v s)
      (fun (i : Ix) (σ : L2.St) (H : Hp) => ∃ (v2 v4 v5 v6 v8 v9 v10 : Option V) (v : V) (s : StoreR) (B : SA), σ = sg i.a i.p v2 (some v) v4 v5 v6 v8 v9 v10 (some (.ref B.a)) ∧ Told T P0 q CS CM i.p i.l i.n H 5000 v s B) := by
  have hu := hu_of hr
  have hr1 : Room 1 _ := hr.mono (by decide)
  have hr2 : Room 2 _ := hr.mono (by decide)
  have hr3 : Room 3 _ := hr.mono (by decide)
  have hr4 : Room 4 _ := hr.mono (by decide)
  have hr5 : Room 5 _ := hr.mono (by decide)
  have hr6 : Room 6 _ := hr.mono (by decide)
  have nd := sc_law.nd
  have sl : sizeLine = 16777216 := sizeLine_eq
  refine ⟨_, (ps_set (i := 12) nd rfl (Or.inr rfl) (pe_mkx W.init hr (pa_cons (pe_fx W.text hr4 (pa_cons (pv 3) pa_nil)) pa_nil))), ?_⟩
  rintro ⟨a, p, l, n, hn⟩
  dsimp only
  rintro D σ H ⟨v2, v4, v5, v6, v8, v9, v10, v12, v, s, rfl, hD⟩ k
  refine ⟨_, rfl, v, s, rfl, hD.sv.ext (mask_ext p H), hD.ok, fun H1 g1 => ?_⟩
  have hD1 := hD.grT nP g1
  refine fun d ddx hd hddx nd => ⟨d, ddx, "", "\n", s, rfl, upd_same, nil_zeros, .inr rfl, hD.ok, (made hd hddx).tabs hD1.pt.tab, fun B H2 hBa hB gp => ⟨rfl, ?_⟩⟩
  subst hBa
  have g2 := built hd hddx gp
  exact k _ _ ⟨_, _, _, _, _, _, _, v, s, B, rfl, ⟨hD1.grT nP g2, hB⟩⟩
theorem tr_zeros (W : LW P w K mg base T CS CM CB CN) (SC : StoreC K CS) (nP : P0 ∉ T) (hr : Room 10 (A.deeper (envOfC "law" (defScope s_law) sh.heap.objs.size f (.ref c)))) :
    Tri (XL P w K mg base f c A outer sh H0 E) (lp 2) (fun (i : Ix) (σ : L2.St) (H : Hp) => ∃ (v2 v4 v5 v6 v8 v9 v10 : Option V) (v : V) (s : StoreR) (B : SA), σ = sg i.a i.p v2 (some v) v4 v5 v6 v8 v9 v10 (some (.ref B.a)) ∧ Told T P0 q CS CM i.p i.l i.n H 5000 v s B)
      (fun (i : Ix) (σ : L2.St) (H : Hp) => ∃ (v2 v5 v6 v8 v9 v10 : Option V) (v : V) (s : StoreR) (B : SA), σ = sg i.a i.p v2 (some v) (some (.str (textT (rowsOf "00" s) ""))) v5 v6 v8 v9 v10 (some (.ref B.a)) ∧ Told T P0 q CS CM i.p i.l i.n H 5000 v s B) := by
  have hu := hu_of hr
  have hr1 : Room 1 _ := hr.mono (by decide)
  have hr2 : Room 2 _ := hr.mono (by decide)
  have hr3 : Room 3 _ := hr.mono (by decide)
  have hr4 : Room 4 _ := hr.mono (by decide)
  have hr5 : Room 5 _ := hr.mono (by decide)
  have hr6 : Room 6 _ := hr.mono (by decide)
  have nd := sc_law.nd
  have sl : sizeLine = 16777216 := sizeLine_eq
  refine ⟨_, (ps_set (i := 4) nd rfl (Or.inl rfl) (pe_joinK K pe_str (pe_lc (own := [("_law_row", 13)]) (g := gName 13) (tt := tYes) rfl nd (pi_sqK K (pe_fx W.rows hr3 (pa_cons (pv 3) (pa_cons pe_str pa_nil)))) (blkOk_by (own := [("_law_row", 13)]) (N := N_law) (sc := defScope s_law) (by decide +kernel))
            (fun _ _ _ _ _ => pg_name (i := 13) nd rfl (Or.inl rfl)) (fun _ _ _ _ _ => pts_nil) (fun _ _ _ _ _ => pe_joinK K pe_str (pv 13))))), ?_⟩
  rintro ⟨a, p, l, n, hn⟩
  dsimp only
  rintro D σ H ⟨v2, v4, v5, v6, v8, v9, v10, v, s, B, rfl, hT⟩ k
  have z00 : ("00" : Str) ∈ zeros := by unfold zeros; simp
  refine ⟨⟨_, rfl⟩, _, rfl, v, "00", s, rfl, z00, hT.sv.ext (mask_ext p H), hT.ok, fun u H1 g1 hR => ?_⟩
  obtain ⟨ra, rvs, rfl, ea, hA⟩ := hR
  have CL := rows_clean z00 hT.ok
  have hT1 := hT.grT nP g1
  have lvs := hA.length
  have many := CL.2.many
  have Ln0 := textT_len CL.2
  have hk : ∀ H2, Told T P0 q CS CM p l n H2 5000 v s B → D.nx (sg a p v2 (some v) (some (.str (textT (rowsOf "00" s) ""))) v5 v6 v8 v9 v10 (some (.ref B.a))) H2 := fun H2 h => k _ _ ⟨_, _, _, _, _, _, v, s, B, rfl, h⟩
  have e0 : textT (rowsOf "00" s) "" = Txt.join "\n" (linesT (rowsOf "00" s)) := Str.append_empty _
  rw [e0] at hk
  generalize rowsOf "00" s = R at hA lvs many CL Ln0 hk
  refine ⟨ra, rvs, false, rfl, sqL ea, fun D1 hD1 => lc_map (T := T) (linesT R) StrV walk_sq (by unfold linesT; rw [List.length_map, lvs]) (lsz (by omega)) hD1 (sqL ea) Ext.sqof (fun _ _ _ _ _ h => h) ?_ ?_⟩
  · rintro j y b H4 H5 Qc Nx hj ⟨rfl, hy⟩ hF g4 hacc kc
    obtain ⟨ws, hws, wa, rfl, ew⟩ := hA.get hy
    have hm := List.mem_of_getElem? hws
    have hF : lineT ws = b := by
      unfold linesT at hF
      rw [List.getElem?_map, hws] at hF
      exact Option.some.inj hF
    subst hF
    have ew4 := g4.ext _ _ ew (fun _ z => by cases z)
    have Ln := lineT_len (CL.2.wide ws hm) (CL.2.long ws hm)
    refine ⟨rfl, ?_⟩
    dsimp only [tYes]
    refine iteT ?_
    exact ⟨⟨_, rfl⟩, _, rfl, " ", wa, ws, rfl, rfl, .inl (SqL.of ew4), by omega, kc _ _ (.refl T _) rfl⟩
  · intro H4 ys hD4 hA4 g4
    rw [all_str hA4] at hD4
    exact ⟨"\n", D1, _, rfl, rfl, .inl (SqL.of hD4), Nat.le_trans Ln0.1 (by decide), hk _ (hT1.grT nP g4)⟩
theorem tr_same (W : LW P w K mg base T CS CM CB CN) (SC : StoreC K CS) (nP : P0 ∉ T) (hr : Room 10 (A.deeper (envOfC "law" (defScope s_law) sh.heap.objs.size f (.ref c)))) :
    Tri (XL P w K mg base f c A outer sh H0 E) (lp 3) (fun (i : Ix) (σ : L2.St) (H : Hp) => ∃ (v2 v5 v6 v8 v9 v10 : Option V) (v : V) (s : StoreR) (B : SA), σ = sg i.a i.p v2 (some v) (some (.str (textT (rowsOf "00" s) ""))) v5 v6 v8 v9 v10 (some (.ref B.a)) ∧ Told T P0 q CS CM i.p i.l i.n H 5000 v s B)
      (fun (i : Ix) (σ : L2.St) (H : Hp) => ∃ (v2 v4 v5 v6 v8 v9 v10 : Option V) (v : V) (s : StoreR) (B : SA), σ = sg i.a i.p v2 (some v) v4 v5 v6 v8 v9 v10 (some (.ref B.a)) ∧ Told T P0 q CS CM i.p i.l i.n H 5000 v s B) := by
  have hu := hu_of hr
  have hr1 : Room 1 _ := hr.mono (by decide)
  have hr2 : Room 2 _ := hr.mono (by decide)
  have hr3 : Room 3 _ := hr.mono (by decide)
  have hr4 : Room 4 _ := hr.mono (by decide)
  have hr5 : Room 5 _ := hr.mono (by decide)
  have hr6 : Room 6 _ := hr.mono (by decide)
  have nd := sc_law.nd
  have sl : sizeLine = 16777216 := sizeLine_eq
  refine ⟨_, (ps_if (PW.pt (pw_or (pt_cmpR op_ne (pe_fx W.written hr6 (pa_cons (pe_mkx W.init hr (pa_cons (pv 4) pa_nil)) pa_nil)) (pe_fx W.written hr6 (pa_cons (pv 12) pa_nil)) (nomark _)) (pw_or1 (pt_cmpR op_ne (pe_fx W.written hr6 (pa_cons (pe_mkx W.init hr (pa_cons (pe_fx W.written hr6 (pa_cons (pv 12) pa_nil)) pa_nil)) pa_nil)) (pe_fx W.written hr6 (pa_cons (pv 12) pa_nil)) (nomark _))))) (pss_one ps_never) pss_nil), ?_⟩
  rintro ⟨a, p, l, n, hn⟩
  dsimp only
  rintro D σ H ⟨v2, v5, v6, v8, v9, v10, v, s, B, rfl, hT⟩ k
  have z00 : ("00" : Str) ∈ zeros := by unfold zeros; simp
  refine ⟨_, rfl, fun d ddx hd hddx nd => ⟨d, ddx, "00", "", s, rfl, upd_same, z00, .inl rfl, hT.ok, (made hd hddx).tabs hT.pt.tab, fun B1 H1 hBa hB1 gp => ⟨rfl, ?_⟩⟩⟩
  subst hBa
  have T1 := hT.grT nP (built hd hddx gp)
  refine ⟨B1, s, _, rfl, hB1, hT.ok, T1.pt.tab, fun H2 g2 => ?_⟩
  have T2 := T1.grT nP g2
  refine ⟨_, rfl, B, s, _, rfl, T2.at_, hT.ok, T2.pt.tab, fun H3 g3 => ?_⟩
  have T3 := T2.grT nP g3
  refine ⟨rfl, _, rfl, if_f (by simp) ?_⟩
  refine ⟨_, rfl, B, s, _, rfl, T3.at_, hT.ok, T3.pt.tab, fun H4 g4 => ?_⟩
  have T4 := T3.grT nP g4
  refine fun d ddx hd hddx nd => ⟨d, ddx, "", "\n", s, rfl, upd_same, nil_zeros, .inr rfl, hT.ok, (made hd hddx).tabs T4.pt.tab, fun B2 H5 hBa hB2 gp => ⟨rfl, ?_⟩⟩
  subst hBa
  have T5 := T4.grT nP (built hd hddx gp)
  refine ⟨B2, s, _, rfl, hB2, hT.ok, T5.pt.tab, fun H6 g6 => ?_⟩
  have T6 := T5.grT nP g6
  refine ⟨_, rfl, B, s, _, rfl, T6.at_, hT.ok, T6.pt.tab, fun H7 g7 => ?_⟩
  have T7 := T6.grT nP g7
  refine ⟨rfl, _, rfl, if_f (by simp) ?_⟩
  exact k _ _ ⟨_, _, _, _, _, _, _, v, s, B, rfl, T7⟩
theorem tr_other (W : LW P w K mg base T CS CM CB CN) (SC : StoreC K CS) (nP : P0 ∉ T) (hr : Room 10 (A.deeper (envOfC "law" (defScope s_law) sh.heap.objs.size f (.ref c)))) :
    Tri (XL P w K mg base f c A outer sh H0 E) (lp 4) (fun (i : Ix) (σ : L2.St) (H : Hp) => ∃ (v2 v4 v5 v6 v8 v9 v10 : Option V) (v : V) (s : StoreR) (B : SA), σ = sg i.a i.p v2 (some v) v4 v5 v6 v8 v9 v10 (some (.ref B.a)) ∧ Told T P0 q CS CM i.p i.l i.n H 5000 v s B)
      (fun (i : Ix) (σ : L2.St) (H : Hp) => ∃ (v2 v4 v6 v8 v9 v10 : Option V) (v : V) (s : StoreR) (B : SA) (v' : V) (s' : StoreR), σ = sg i.a i.p v2 (some v) v4 (some v') v6 v8 v9 v10 (some (.ref B.a)) ∧ Told T P0 q CS CM i.p i.l i.n H 5002 v s B ∧ Other s s' ∧ StoreV (mask i.p H) v' s') := by
  have hu := hu_of hr
  have hr1 : Room 1 _ := hr.mono (by decide)
  have hr2 : Room 2 _ := hr.mono (by decide)
  have hr3 : Room 3 _ := hr.mono (by decide)
  have hr4 : Room 4 _ := hr.mono (by decide)
  have hr5 : Room 5 _ := hr.mono (by decide)
  have hr6 : Room 6 _ := hr.mono (by decide)
  have nd := sc_law.nd
  have sl : sizeLine = 16777216 := sizeLine_eq
  refine ⟨_, (ps_set (i := 5) nd rfl (Or.inl rfl) (pe_fx W.other hr3 (pa_cons (pv 1) (pa_cons (pv 3) pa_nil)))), ?_⟩
  rintro ⟨a, p, l, n, hn⟩
  dsimp only
  rintro D σ H ⟨v2, v4, v5, v6, v8, v9, v10, v, s, B, rfl, hT⟩ k
  refine ⟨_, rfl, _, rfl, p, l, n + 5000, v, s, rfl, hT.pt, by omega, hT.sv, hT.ok, fun v' s' H1 ot hP1 g1 hV1 => ?_⟩
  exact k _ _ ⟨_, _, _, _, _, _, v, s, B, v', s', rfl, hT.draw nP hP1 g1 (hT.at_.off hT.pt g1), ot, hV1⟩
theorem tr_unlike (W : LW P w K mg base T CS CM CB CN) (SC : StoreC K CS) (nP : P0 ∉ T) (hr : Room 10 (A.deeper (envOfC "law" (defScope s_law) sh.heap.objs.size f (.ref c)))) :
    Tri (XL P w K mg base f c A outer sh H0 E) (lp 5) (fun (i : Ix) (σ : L2.St) (H : Hp) => ∃ (v2 v4 v6 v8 v9 v10 : Option V) (v : V) (s : StoreR) (B : SA) (v' : V) (s' : StoreR), σ = sg i.a i.p v2 (some v) v4 (some v') v6 v8 v9 v10 (some (.ref B.a)) ∧ Told T P0 q CS CM i.p i.l i.n H 5002 v s B ∧ Other s s' ∧ StoreV (mask i.p H) v' s')
      (fun (i : Ix) (σ : L2.St) (H : Hp) => ∃ (v2 v4 v5 v6 v8 v9 v10 : Option V) (v : V) (s : StoreR) (B : SA), σ = sg i.a i.p v2 (some v) v4 v5 v6 v8 v9 v10 (some (.ref B.a)) ∧ Told T P0 q CS CM i.p i.l i.n H 5002 v s B) := by
  have hu := hu_of hr
  have hr1 : Room 1 _ := hr.mono (by decide)
  have hr2 : Room 2 _ := hr.mono (by decide)
  have hr3 : Room 3 _ := hr.mono (by decide)
  have hr4 : Room 4 _ := hr.mono (by decide)
  have hr5 : Room 5 _ := hr.mono (by decide)
  have hr6 : Room 6 _ := hr.mono (by decide)
  have nd := sc_law.nd
  have sl : sizeLine = 16777216 := sizeLine_eq
  refine ⟨_, (ps_if (pt_cmpR op_eq (pe_fx W.written hr6 (pa_cons (pe_mkx W.init hr (pa_cons (pe_fx W.text hr4 (pa_cons (pv 5) pa_nil)) pa_nil)) pa_nil)) (pe_fx W.written hr6 (pa_cons (pv 12) pa_nil)) (nomark _)) (pss_one ps_never) pss_nil), ?_⟩
  rintro ⟨a, p, l, n, hn⟩
  dsimp only
  rintro D σ H ⟨v2, v4, v6, v8, v9, v10, v, s, B, v', s', rfl, hT, ot, hV'⟩ k
  have ok' := other_ok hT.ok hT.r8 ot
  refine ⟨_, rfl, v', s', rfl, hV'.ext (mask_ext p H), ok', fun H1 g1 => ?_⟩
  have T1 := hT.grT nP g1
  refine fun d ddx hd hddx nd => ⟨d, ddx, "", "\n", s', rfl, upd_same, nil_zeros, .inr rfl, ok', (made hd hddx).tabs T1.pt.tab, fun B1 H2 hBa hB1 gp => ⟨rfl, ?_⟩⟩
  subst hBa
  have T2 := T1.grT nP (built hd hddx gp)
  refine ⟨B1, s', _, rfl, hB1, ok', T2.pt.tab, fun H3 g3 => ?_⟩
  have T3 := T2.grT nP g3
  refine ⟨_, rfl, B, s, _, rfl, T3.at_, hT.ok, T3.pt.tab, fun H4 g4 => ?_⟩
  have T4 := T3.grT nP g4
  refine ⟨rfl, _, rfl, if_f (decide_eq_false fun z => other_ne hT.ok ok' ot (V.str.inj z)) ?_⟩
  exact k _ _ ⟨_, _, _, _, _, _, _, v, s, B, rfl, T4⟩
theorem tr_odd (W : LW P w K mg base T CS CM CB CN) (SC : StoreC K CS) (nP : P0 ∉ T) (hr : Room 10 (A.deeper (envOfC "law" (defScope s_law) sh.heap.objs.size f (.ref c)))) :
    Tri (XL P w K mg base f c A outer sh H0 E) (lp 6) (fun (i : Ix) (σ : L2.St) (H : Hp) => ∃ (v2 v4 v5 v6 v8 v9 v10 : Option V) (v : V) (s : StoreR) (B : SA), σ = sg i.a i.p v2 (some v) v4 v5 v6 v8 v9 v10 (some (.ref B.a)) ∧ Told T P0 q CS CM i.p i.l i.n H 5002 v s B)
      (fun (i : Ix) (σ : L2.St) (H : Hp) => ∃ (v2 v4 v5 v6 v8 : Option V) (v : V) (s : StoreR) (B : SA) (vo : V) (d : PyData) (x : Str), σ = sg i.a i.p v2 (some v) v4 v5 v6 v8 (some (.str x)) (some vo) (some (.ref B.a)) ∧ Told T P0 q CS CM i.p i.l i.n H 5004 v s B ∧ Odd5 H vo d ∧ x ∈ nones) := by
  have hu := hu_of hr
  have hr1 : Room 1 _ := hr.mono (by decide)
  have hr2 : Room 2 _ := hr.mono (by decide)
  have hr3 : Room 3 _ := hr.mono (by decide)
  have hr4 : Room 4 _ := hr.mono (by decide)
  have hr5 : Room 5 _ := hr.mono (by decide)
  have hr6 : Room 6 _ := hr.mono (by decide)
  have nd := sc_law.nd
  have sl : sizeLine = 16777216 := sizeLine_eq
  refine ⟨_, (ps_asg (pe_tup (pa_cons (pe_fx W.pick hr2 (pa_cons (pv 1) (pa_cons (pe_lst (pa_cons pe_non (pa_cons pe_int (pa_cons (pe_tup (pa_cons pe_str pa_nil)) (pa_cons (pe_lst (pa_cons pe_str pa_nil)) (pa_cons pe_bl pa_nil)))))) pa_nil))) (pa_cons (pe_fx W.pick hr2 (pa_cons (pv 1) (pa_cons (pe_lst (pa_cons pe_str (pa_cons pe_str (pa_cons pe_str pa_nil)))) pa_nil))) pa_nil))) (pg_tup rfl (pgs_cons (pg_name (i := 10) nd rfl (Or.inr rfl)) (pgs_cons (pg_name (i := 9) nd rfl (Or.inr rfl)) pgs_nil)))), ?_⟩
  rintro ⟨a, p, l, n, hn⟩
  dsimp only
  rintro D σ H ⟨v2, v4, v5, v6, v8, v9, v10, v, s, B, rfl, hT⟩ k
  have big : ∀ {m : Nat}, m ≤ 1000 → m ≤ sizeLine := fun h => by omega
  refine ⟨_, rfl, big (by decide), fun t1 ht1 => ⟨big (by decide), fun l1 hl1 => ⟨big (by show 5 ≤ 1000; decide), fun l2 hl2 => ?_⟩⟩⟩
  have g1 : Gr T H (upd H t1 (.tup [.str "a"])) := Gr.new ht1
  have n1p : t1 ≠ p := hT.pt.fresh ht1
  have T1 := hT.grT nP g1
  have e1 : (upd H t1 (.tup [.str "a"])) t1 = some (.tup [.str "a"]) := upd_same
  have n2p : l1 ≠ p := T1.pt.fresh hl1
  have g2 := Gr.new (T := T) (o := .lst [.str "a"]) hl1
  have T2 := T1.grT nP g2
  have e12 := g2.ext _ _ e1 (fun _ z => by cases z)
  have e2 : (upd (upd H t1 (.tup [.str "a"])) l1 (.lst [.str "a"])) l1 = some (.lst [.str "a"]) := upd_same
  generalize upd (upd H t1 (.tup [.str "a"])) l1 (.lst [.str "a"]) = H2 at hl2 T2 e12 e2 ⊢
  have g3 := Gr.new (T := T) (o := .lst [.non, .int 5, .ref t1, .ref l1, .bl true]) hl2
  have T3 := T2.grT nP g3
  have e13 := g3.ext _ _ e12 (fun _ z => by cases z)
  have e23 := g3.ext _ _ e2 (fun _ z => by cases z)
  have e3 : (upd H2 l2 (.lst [.non, .int 5, .ref t1, .ref l1, .bl true])) l2 = some (.lst [.non, .int 5, .ref t1, .ref l1, .bl true]) := upd_same
  generalize upd H2 l2 (.lst [.non, .int 5, .ref t1, .ref l1, .bl true]) = H3 at T3 e13 e23 e3 ⊢
  refine ⟨p, l, l2, _, _, rfl, T3.pt, by omega, .inl (SqL.of e3), (by show 0 < 5; decide), (by show 5 < 1000; decide), fun vo H4 hv hP4 e4 => ?_⟩
  have T4 := T3.draw (k := 5003) nP hP4 (.ofeq e4) (T3.at_.off T3.pt (.ofeq e4))
  have key : ∃ d, Odd5 (mask p H3) vo d := by
    rcases List.mem_cons.mp hv with z | hv
    · exact ⟨.none, by rw [z]; exact .non⟩
    rcases List.mem_cons.mp hv with z | hv
    · exact ⟨.int 5, by rw [z]; exact .five⟩
    rcases List.mem_cons.mp hv with z | hv
    · exact ⟨.tuple [.str "a"], by rw [z]; exact .tup (by rw [mask_ne n1p]; exact e13)⟩
    rcases List.mem_cons.mp hv with z | hv
    · exact ⟨.list [.str "a"], by rw [z]; exact .lst (by rw [mask_ne n2p]; exact e23)⟩
    · exact ⟨.bool true, by rw [List.mem_singleton.mp hv]; exact .tru⟩
  obtain ⟨d, hod⟩ := key
  rw [← e4] at hod
  refine ⟨_, rfl, big (by decide), fun l3 hl3 => ?_⟩
  have g5 := Gr.new (T := T) (o := .lst [.str "", .str "notthere0001", .str "A"]) hl3
  have T5 := T4.grT nP g5
  have hod5 := hod.ext g5.mask.ext
  have e5 : (upd H4 l3 (.lst [.str "", .str "notthere0001", .str "A"])) l3 = some (.lst [.str "", .str "notthere0001", .str "A"]) := upd_same
  generalize upd H4 l3 (.lst [.str "", .str "notthere0001", .str "A"]) = H5 at T5 hod5 e5 ⊢
  refine ⟨p, l, l3, _, _, rfl, T5.pt, by omega, .inl (SqL.of e5), (by show 0 < 3; decide), (by show 3 < 1000; decide), fun vx H6 hv hP6 e6 => ?_⟩
  have T6 := T5.draw (k := 5004) nP hP6 (.ofeq e6) (T5.at_.off T5.pt (.ofeq e6))
  rw [← e6] at hod5
  have key : ∃ x : Str, vx = .str x ∧ x ∈ nones := by
    unfold nones
    rcases List.mem_cons.mp hv with z | hv
    · exact ⟨_, z, by simp⟩
    rcases List.mem_cons.mp hv with z | hv
    · exact ⟨_, z, by simp⟩
    · exact ⟨_, List.mem_singleton.mp hv, by simp⟩
  obtain ⟨x, rfl, hx⟩ := key
  refine ⟨big (by show 2 ≤ 1000; decide), fun t7 ht7 => ?_⟩
  have g7 := Gr.new (T := T) (o := .tup [vo, .str x]) ht7
  refine ⟨t7, _, rfl, SqT.of upd_same, rfl, _, _, rfl, _, _, rfl, rfl, ?_⟩
  exact k _ _ ⟨_, _, _, _, _, v, s, B, vo, d, x, rfl, T6.grT nP g7, (hod5.ext (mask_ext p H6)).ext g7.ext, hx⟩
end
end Z
set_option Elab.async false
set_option linter.all false
set_option maxRecDepth 100000
set_option maxHeartbeats 4000000
namespace Z
open PySem L2 PyProof.Rows ZX GX TL ZT
theorem nones_not {x : Str} (h : x ∈ nones) : ¬ NameW 11 x := by
  intro w
  unfold nones at h
  simp only [List.mem_cons, List.not_mem_nil, or_false] at h
  have l := w.len
  rcases h with rfl | rfl | rfl
  · exact absurd l.1 (by decide +kernel)
  · exact absurd l.2 (by decide +kernel)
  · obtain ⟨c, r, e, h1, _⟩ := w.ex
    rw [show tl ("A" : Str) = [65] by decide +kernel] at e
    injection e with e _
    subst e
    unfold isLow at h1
    omega
theorem nones_asc {x : Str} (h : x ∈ nones) : Asc x ∧ x.length ≤ 50 := by
  unfold nones at h
  simp only [List.mem_cons, List.not_mem_nil, or_false] at h
  rcases h with rfl | rfl | rfl <;> exact ⟨asc_lit (by decide +kernel), by decide +kernel⟩
theorem codeO_lst {c : Addr} {q : Str} {xs : List V} : LamX.CodeO c q ≠ .lst xs := fun z => by
  unfold LamX.CodeO at z
  cases z
theorem tabS_upd {H : Hp} {P fl : Addr} {q : Str} {xs : List V} {o : HO} (t : LamX.TabS H P q) (e : H fl = some (.lst xs)) : LamX.TabS (upd H fl o) P q := by
  obtain ⟨ps, e1, t1, t2⟩ := t
  have n1 : P ≠ fl := fun z => by rw [z, e] at e1; cases e1
  refine ⟨ps, by rw [upd_ne n1]; exact e1, t1, fun pos cv h => ?_⟩
  obtain ⟨c, e2, e3⟩ := t2 pos cv h
  have n2 : c ≠ fl := fun z => by rw [z, e] at e3; exact codeO_lst (Option.some.inj e3).symm
  exact ⟨c, e2, by rw [upd_ne n2]; exact e3⟩
def EntV (H : Hp) (v : V) (e : Str × Str) : Prop := ∃ t, v = .ref t ∧ H t = some (.tup [.str e.1, .str e.2])
theorem EntV.ext {H H' : Hp} {v : V} {e : Str × Str} (x : Ext H H') (h : EntV H v e) : EntV H' v e := by
  obtain ⟨t, e1, e2⟩ := h
  exact ⟨t, e1, x _ _ e2 fun _ z => by cases z⟩
def Found (H : Hp) (fl : Addr) (es : List (Str × Str)) : Prop := ∃ vs, H fl = some (.lst vs) ∧ All2 (EntV H) vs es
section
variable {P : Program} {w : World} {K : PySem.W.Frag} {mg : Str → Option Value} {base : Heap} {T : List Addr} {CS CM CB CN : Addr} {P0 : Addr} {p l : Addr} {n m : Nat} {q : Str}
/-- what name_error tells of a name that is none -/
theorem ne_read {mn : Str} {sp : Sp} {i : Nat} {σ : L2.St} {H : Hp} {Q : VK} {v v0 : V} {s : StoreR} {B : SA} {C : Addr} {tag : Str} {d : PyData} (h12 : σ[12]? = some (some (.ref B.a))) (hi : σ[i]? = some (some v)) (hT : Told T P0 q CS CM p l n H m v0 s B) (nP : P0 ∉ T)
    (hl : ∀ (t : Str) (fn : Nat) (a1 a2 a3 a4 a5 : Addr), (storeF t fn a1 a2 a3 a4 a5).lookup mn = none) (hC : (C = CB ∧ tag = "badname") ∨ (C = CN ∧ tag = "noname")) (sh : ∀ H', Ext H H' → Shown K H' v d)
    (hsp : ∀ H' Q' E, Ext H H' → StoreAt CS CM H' B s (textT (rowsOf "" s) "\n") → Rz H' E C [("name", v)] → sp [.ref B.a, v] H' Q' E)
    (k : ∀ t H', Gr (P0 :: T) H H' → LamX.TabS H' P0 q → H' t = some (.tup [.str tag, .str d.shown]) → Q (.ref t) H') :
    tLamG P0 q (TTN K CB CN) (fun E => tMeth CS mn sp [] E (tVar 12) (tCons (tVar i) tNil)) σ H Q := by
  refine ⟨hT.tab, fun H1 lg => ?_⟩
  have g1 := lg.gr (T := T) hT.tab
  intro t0 ht0
  have g2 : Gr T H1 (upd H1 t0 (.tup [.str "none"])) := Gr.new ht0
  have t2 := g2.tabS nP lg.tab
  have g12 := g1.trans g2.more
  have B2 := hT.at_.ext g12.ext
  refine ⟨_, h12, B.a, B.dx, _, rfl, B2.ob, hl .., _, hi, hsp _ _ _ g12.ext B2 fun dd H3 hd s3 hx => ?_⟩
  have g3 : Gr T (upd H1 t0 (.tup [.str "none"])) H3 := .same s3
  have g13 := g12.trans g3.more
  refine ⟨C, tag, hC, rfl, dd, _, v, d, rfl, hx, by simp [List.lookup], sh _ g13.ext, fun t ht => ?_⟩
  have g4 : Gr T H3 (upd H3 t (.tup [.str tag, .str d.shown])) := Gr.new ht
  exact k t _ (g13.trans g4.more) (g4.tabS nP (g3.tabS nP t2)) upd_same
end
section
variable {P : Program} {w : World} {K : PySem.W.Frag} {mg : Str → Option Value} {base : Heap} {T : List Addr} {CS CM CB CN : Addr} {f c P0 : Addr} {A : Around} {outer : List Env} {sh : Shared} {H0 : Hp} {E : XK} {q : Str}
theorem tr_f1 (W : LW P w K mg base T CS CM CB CN) (SC : StoreC K CS) (nP : P0 ∉ T) (TB : LamX.TabB base mg c P0) (hgd : (A.deeper (envOfC "law" (defScope s_law) sh.heap.objs.size f (.ref c))).guards = some []) (hr : Room 10 (A.deeper (envOfC "law" (defScope s_law) sh.heap.objs.size f (.ref c)))) (hq : (XL P w K mg base f c A outer sh H0 E).env.qual ++ "<lambda>" = q) :
    Tri (XL P w K mg base f c A outer sh H0 E) (lp 7) (fun (i : Ix) (σ : L2.St) (H : Hp) => ∃ (v2 v4 v5 v6 v8 : Option V) (v : V) (s : StoreR) (B : SA) (vo : V) (d : PyData) (x : Str), σ = sg i.a i.p v2 (some v) v4 v5 v6 v8 (some (.str x)) (some vo) (some (.ref B.a)) ∧ Told T P0 q CS CM i.p i.l i.n H 5004 v s B ∧ Odd5 H vo d ∧ x ∈ nones)
      (fun (i : Ix) (σ : L2.St) (H : Hp) => ∃ (v2 v4 v5 v8 : Option V) (v : V) (s : StoreR) (B : SA) (vo : V) (d : PyData) (x : Str) (fl : Addr) (Hb : Hp), σ = sg i.a i.p v2 (some v) v4 v5 (some (.ref fl)) v8 (some (.str x)) (some vo) (some (.ref B.a)) ∧ Told T P0 q CS CM i.p i.l i.n Hb 5004 v s B ∧ Odd5 Hb vo d ∧ x ∈ nones ∧ Hb fl = none ∧ Gr (P0 :: T) Hb H ∧ LamX.TabS H P0 q ∧ Found H fl [("badname", d.shown)]) := by
  subst hq
  have hu := hu_of hr
  have hr1 : Room 1 _ := hr.mono (by decide)
  have hr5 : Room 5 _ := hr.mono (by decide)
  have nd := sc_law.nd
  have sl : sizeLine = 16777216 := sizeLine_eq
  refine ⟨_, (ps_set (i := 6) nd rfl (Or.inl rfl) (pe_lst (pa_cons (pe_neM (io := 12) (ia := 10) W.nef W.ne SC.cl W.is_new TB hgd hr5 (defScope s_law)) pa_nil))), ?_⟩
  rintro ⟨a, p, l, n, hn⟩
  dsimp only
  rintro D σ H ⟨v2, v4, v5, v6, v8, v, s, B, vo, d, x, rfl, hT, ho, hx⟩ k
  refine ne_read (i := 10) (C := CB) (tag := "badname") (d := d) rfl rfl hT nP (fun _ _ _ _ _ _ _ => by kernel_rfl) (.inl ⟨rfl, rfl⟩) (fun H' e => (ho.ext e).shown.1) (fun H' Q' E' e hB rz => ⟨B, s, _, vo, rfl, hB, .inl ⟨(ho.ext e).odd, rz⟩⟩) fun t H1 g1 t1 et => ?_
  refine ⟨by show 1 ≤ sizeLine; omega, fun fl hfl => ?_⟩
  have g2 : Gr T H1 (upd H1 fl (.lst [.ref t])) := Gr.new hfl
  exact k _ _ ⟨_, _, _, _, v, s, B, vo, d, x, fl, H1, rfl, hT.gr g1 t1, ho.ext g1.ext, hx, hfl, g2.more, g2.tabS nP t1, _, upd_same, .cons ⟨t, rfl, g2.ext _ _ et (fun _ z => by cases z)⟩ .nil⟩
theorem tr_f2 (W : LW P w K mg base T CS CM CB CN) (SC : StoreC K CS) (nP : P0 ∉ T) (TB : LamX.TabB base mg c P0) (hgd : (A.deeper (envOfC "law" (defScope s_law) sh.heap.objs.size f (.ref c))).guards = some []) (hr : Room 10 (A.deeper (envOfC "law" (defScope s_law) sh.heap.objs.size f (.ref c)))) (hq : (XL P w K mg base f c A outer sh H0 E).env.qual ++ "<lambda>" = q) :
    Tri (XL P w K mg base f c A outer sh H0 E) (lp 8) (fun (i : Ix) (σ : L2.St) (H : Hp) => ∃ (v2 v4 v5 v8 : Option V) (v : V) (s : StoreR) (B : SA) (vo : V) (d : PyData) (x : Str) (fl : Addr) (Hb : Hp), σ = sg i.a i.p v2 (some v) v4 v5 (some (.ref fl)) v8 (some (.str x)) (some vo) (some (.ref B.a)) ∧ Told T P0 q CS CM i.p i.l i.n Hb 5004 v s B ∧ Odd5 Hb vo d ∧ x ∈ nones ∧ Hb fl = none ∧ Gr (P0 :: T) Hb H ∧ LamX.TabS H P0 q ∧ Found H fl [("badname", d.shown)])
      (fun (i : Ix) (σ : L2.St) (H : Hp) => ∃ (v2 v4 v5 v8 : Option V) (v : V) (s : StoreR) (B : SA) (vo : V) (d : PyData) (x : Str) (fl : Addr) (Hb : Hp), σ = sg i.a i.p v2 (some v) v4 v5 (some (.ref fl)) v8 (some (.str x)) (some vo) (some (.ref B.a)) ∧ Told T P0 q CS CM i.p i.l i.n Hb 5004 v s B ∧ Odd5 Hb vo d ∧ x ∈ nones ∧ Hb fl = none ∧ Gr (P0 :: T) Hb H ∧ LamX.TabS H P0 q ∧ Found H fl [("badname", d.shown), ("badname", d.shown)]) := by
  subst hq
  have hu := hu_of hr
  have hr1 : Room 1 _ := hr.mono (by decide)
  have hr5 : Room 5 _ := hr.mono (by decide)
  have nd := sc_law.nd
  have sl : sizeLine = 16777216 := sizeLine_eq
  refine ⟨_, (ps_expr (pe_bm PySem.F.plainAttrs_list PySem.F.slot_list_append PySem.F.type_list_append mt_append (pv 6) (pa_cons (pe_neM (io := 12) (ia := 10) W.nef W.ne SC.cl W.mend_of TB hgd hr5 (defScope s_law)) pa_nil))), ?_⟩
  rintro ⟨a, p, l, n, hn⟩
  dsimp only
  rintro D σ H ⟨v2, v4, v5, v8, v, s, B, vo, d, x, fl, Hb, rfl, hT, ho, hx, hfl, gb, tb, vs, efl, hE⟩ k
  have hTH := hT.gr gb tb
  refine ⟨_, rfl, .inl ⟨rfl, _, SqL.of efl⟩, ?_⟩
  refine ne_read (i := 10) (C := CB) (tag := "badname") (d := d) rfl rfl hTH nP (fun _ _ _ _ _ _ _ => by kernel_rfl) (.inl ⟨rfl, rfl⟩) (fun H' e => ((ho.ext gb.ext).ext e).shown.1) (fun H' Q' E' e hB rz => ⟨B, s, _, vo, rfl, hB, .inl ⟨((ho.ext gb.ext).ext e).odd, rz⟩⟩) fun t H1 g1 t1 et => ?_
  have e1 := g1.ext _ _ efl (fun _ z => by cases z)
  have lv := hE.length
  refine ⟨fl, _, _, rfl, rfl, e1, by rw [lv]; exact lsz (by simp), ?_⟩
  have stay : ∀ {v : V} {e : Str × Str}, EntV H1 v e → EntV (upd H1 fl (.lst (vs ++ [.ref t]))) v e := fun {v e} ⟨u, z1, z2⟩ => ⟨u, z1, by rw [upd_ne (fun z => by rw [z, e1] at z2; cases z2)]; exact z2⟩
  exact k _ _ ⟨_, _, _, _, v, s, B, vo, d, x, fl, Hb, rfl, hT, ho, hx, hfl, (gb.trans g1).upd hfl, tabS_upd t1 e1, _, upd_same, (hE.mono fun _ _ h => stay (h.ext g1.ext)).app (.cons (stay ⟨t, rfl, et⟩) .nil)⟩
theorem tr_f3 (W : LW P w K mg base T CS CM CB CN) (SC : StoreC K CS) (nP : P0 ∉ T) (TB : LamX.TabB base mg c P0) (hgd : (A.deeper (envOfC "law" (defScope s_law) sh.heap.objs.size f (.ref c))).guards = some []) (hr : Room 10 (A.deeper (envOfC "law" (defScope s_law) sh.heap.objs.size f (.ref c)))) (hq : (XL P w K mg base f c A outer sh H0 E).env.qual ++ "<lambda>" = q) :
    Tri (XL P w K mg base f c A outer sh H0 E) (lp 9) (fun (i : Ix) (σ : L2.St) (H : Hp) => ∃ (v2 v4 v5 v8 : Option V) (v : V) (s : StoreR) (B : SA) (vo : V) (d : PyData) (x : Str) (fl : Addr) (Hb : Hp), σ = sg i.a i.p v2 (some v) v4 v5 (some (.ref fl)) v8 (some (.str x)) (some vo) (some (.ref B.a)) ∧ Told T P0 q CS CM i.p i.l i.n Hb 5004 v s B ∧ Odd5 Hb vo d ∧ x ∈ nones ∧ Hb fl = none ∧ Gr (P0 :: T) Hb H ∧ LamX.TabS H P0 q ∧ Found H fl [("badname", d.shown), ("badname", d.shown)])
      (fun (i : Ix) (σ : L2.St) (H : Hp) => ∃ (v2 v4 v5 v8 : Option V) (v : V) (s : StoreR) (B : SA) (vo : V) (d : PyData) (x : Str) (fl : Addr) (Hb : Hp), σ = sg i.a i.p v2 (some v) v4 v5 (some (.ref fl)) v8 (some (.str x)) (some vo) (some (.ref B.a)) ∧ Told T P0 q CS CM i.p i.l i.n Hb 5004 v s B ∧ Odd5 Hb vo d ∧ x ∈ nones ∧ Hb fl = none ∧ Gr (P0 :: T) Hb H ∧ LamX.TabS H P0 q ∧ Found H fl [("badname", d.shown), ("badname", d.shown), ("noname", PyData.shown (.str x))]) := by
  subst hq
  have hu := hu_of hr
  have hr1 : Room 1 _ := hr.mono (by decide)
  have hr5 : Room 5 _ := hr.mono (by decide)
  have nd := sc_law.nd
  have sl : sizeLine = 16777216 := sizeLine_eq
  refine ⟨_, (ps_expr (pe_bm PySem.F.plainAttrs_list PySem.F.slot_list_append PySem.F.type_list_append mt_append (pv 6) (pa_cons (pe_neM (io := 12) (ia := 9) W.nef W.ne SC.cl W.is_new TB hgd hr5 (defScope s_law)) pa_nil))), ?_⟩
  rintro ⟨a, p, l, n, hn⟩
  dsimp only
  rintro D σ H ⟨v2, v4, v5, v8, v, s, B, vo, d, x, fl, Hb, rfl, hT, ho, hx, hfl, gb, tb, vs, efl, hE⟩ k
  have hTH := hT.gr gb tb
  refine ⟨_, rfl, .inl ⟨rfl, _, SqL.of efl⟩, ?_⟩
  refine ne_read (i := 9) (C := CN) (tag := "noname") (d := .str x) rfl rfl hTH nP (fun _ _ _ _ _ _ _ => by kernel_rfl) (.inr ⟨rfl, rfl⟩) (fun H' e => shown_of_str (nones_asc hx).1 (nones_asc hx).2) (fun H' Q' E' e hB rz => ⟨B, s, _, .str x, rfl, hB, .inr ⟨x, rfl, fun z => nones_not hx (hT.ok.name x z), rz⟩⟩) fun t H1 g1 t1 et => ?_
  have e1 := g1.ext _ _ efl (fun _ z => by cases z)
  have lv := hE.length
  refine ⟨fl, _, _, rfl, rfl, e1, by rw [lv]; exact lsz (by simp), ?_⟩
  have stay : ∀ {v : V} {e : Str × Str}, EntV H1 v e → EntV (upd H1 fl (.lst (vs ++ [.ref t]))) v e := fun {v e} ⟨u, z1, z2⟩ => ⟨u, z1, by rw [upd_ne (fun z => by rw [z, e1] at z2; cases z2)]; exact z2⟩
  exact k _ _ ⟨_, _, _, _, v, s, B, vo, d, x, fl, Hb, rfl, hT, ho, hx, hfl, (gb.trans g1).upd hfl, tabS_upd t1 e1, _, upd_same, (hE.mono fun _ _ h => stay (h.ext g1.ext)).app (.cons (stay ⟨t, rfl, et⟩) .nil)⟩
theorem tr_f4 (W : LW P w K mg base T CS CM CB CN) (SC : StoreC K CS) (nP : P0 ∉ T) (TB : LamX.TabB base mg c P0) (hgd : (A.deeper (envOfC "law" (defScope s_law) sh.heap.objs.size f (.ref c))).guards = some []) (hr : Room 10 (A.deeper (envOfC "law" (defScope s_law) sh.heap.objs.size f (.ref c)))) (hq : (XL P w K mg base f c A outer sh H0 E).env.qual ++ "<lambda>" = q) :
    Tri (XL P w K mg base f c A outer sh H0 E) (lp 10) (fun (i : Ix) (σ : L2.St) (H : Hp) => ∃ (v2 v4 v5 v8 : Option V) (v : V) (s : StoreR) (B : SA) (vo : V) (d : PyData) (x : Str) (fl : Addr) (Hb : Hp), σ = sg i.a i.p v2 (some v) v4 v5 (some (.ref fl)) v8 (some (.str x)) (some vo) (some (.ref B.a)) ∧ Told T P0 q CS CM i.p i.l i.n Hb 5004 v s B ∧ Odd5 Hb vo d ∧ x ∈ nones ∧ Hb fl = none ∧ Gr (P0 :: T) Hb H ∧ LamX.TabS H P0 q ∧ Found H fl [("badname", d.shown), ("badname", d.shown), ("noname", PyData.shown (.str x))])
      (fun (i : Ix) (σ : L2.St) (H : Hp) => ∃ (v2 v4 v5 v8 : Option V) (v : V) (s : StoreR) (B : SA) (vo : V) (d : PyData) (x : Str) (fl : Addr) (Hb : Hp), σ = sg i.a i.p v2 (some v) v4 v5 (some (.ref fl)) v8 (some (.str x)) (some vo) (some (.ref B.a)) ∧ Told T P0 q CS CM i.p i.l i.n Hb 5004 v s B ∧ Odd5 Hb vo d ∧ x ∈ nones ∧ Hb fl = none ∧ Gr (P0 :: T) Hb H ∧ LamX.TabS H P0 q ∧ Found H fl [("badname", d.shown), ("badname", d.shown), ("noname", PyData.shown (.str x)), ("noname", PyData.shown (.str x))]) := by
  subst hq
  have hu := hu_of hr
  have hr1 : Room 1 _ := hr.mono (by decide)
  have hr5 : Room 5 _ := hr.mono (by decide)
  have nd := sc_law.nd
  have sl : sizeLine = 16777216 := sizeLine_eq
  refine ⟨_, (ps_expr (pe_bm PySem.F.plainAttrs_list PySem.F.slot_list_append PySem.F.type_list_append mt_append (pv 6) (pa_cons (pe_neM (io := 12) (ia := 9) W.nef W.ne SC.cl W.mend_of TB hgd hr5 (defScope s_law)) pa_nil))), ?_⟩
  rintro ⟨a, p, l, n, hn⟩
  dsimp only
  rintro D σ H ⟨v2, v4, v5, v8, v, s, B, vo, d, x, fl, Hb, rfl, hT, ho, hx, hfl, gb, tb, vs, efl, hE⟩ k
  have hTH := hT.gr gb tb
  refine ⟨_, rfl, .inl ⟨rfl, _, SqL.of efl⟩, ?_⟩
  refine ne_read (i := 9) (C := CN) (tag := "noname") (d := .str x) rfl rfl hTH nP (fun _ _ _ _ _ _ _ => by kernel_rfl) (.inr ⟨rfl, rfl⟩) (fun H' e => shown_of_str (nones_asc hx).1 (nones_asc hx).2) (fun H' Q' E' e hB rz => ⟨B, s, _, .str x, rfl, hB, .inr ⟨x, rfl, (fun z => by obtain ⟨m, hm, e⟩ := List.mem_map.mp z; exact nones_not hx (e ▸ hT.ok.mname m hm)), rz⟩⟩) fun t H1 g1 t1 et => ?_
  have e1 := g1.ext _ _ efl (fun _ z => by cases z)
  have lv := hE.length
  refine ⟨fl, _, _, rfl, rfl, e1, by rw [lv]; exact lsz (by simp), ?_⟩
  have stay : ∀ {v : V} {e : Str × Str}, EntV H1 v e → EntV (upd H1 fl (.lst (vs ++ [.ref t]))) v e := fun {v e} ⟨u, z1, z2⟩ => ⟨u, z1, by rw [upd_ne (fun z => by rw [z, e1] at z2; cases z2)]; exact z2⟩
  exact k _ _ ⟨_, _, _, _, v, s, B, vo, d, x, fl, Hb, rfl, hT, ho, hx, hfl, (gb.trans g1).upd hfl, tabS_upd t1 e1, _, upd_same, (hE.mono fun _ _ h => stay (h.ext g1.ext)).app (.cons (stay ⟨t, rfl, et⟩) .nil)⟩
end
end Z
set_option Elab.async false
set_option linter.all false
set_option maxRecDepth 100000
set_option maxHeartbeats 4000000
namespace Z
open PySem L2 PyProof.Rows ZX GX TL ZT
def entD (e : Str × Str) : PyData := .tuple [.str e.1, .str e.2]
theorem lay_ents {es : List (Str × Str)} (h : ∀ e ∈ es, Asc e.1 ∧ Asc e.2) : Lay (.list (es.map entD)) 20 := by
  refine (lay_lst (lay_map (n := 2) fun e he => ?_)).up (by decide)
  exact lay_tup (lay_cons (lay_str (h e he).1) (lay_cons (lay_str (h e he).2) lay_nil))
theorem dp_ent {K : PySem.W.Frag} {H : Hp} {v : V} {e : Str × Str} (h : EntV H v e) : Dp K H v (entD e) := by
  obtain ⟨t, rfl, e1⟩ := h
  exact .tup (SqT.of e1) (.cons (.str _) (.cons (.str _) .nil))
section
variable {P : Program} {w : World} {K : PySem.W.Frag} {mg : Str → Option Value} {base : Heap} {T : List Addr} {CS CM CB CN : Addr} {f c P0 : Addr} {A : Around} {outer : List Env} {sh : Shared} {H0 : Hp} {E : XK} {q : Str}
theorem tr_cmp (W : LW P w K mg base T CS CM CB CN) (SC : StoreC K CS) (nP : P0 ∉ T) (TB : LamX.TabB base mg c P0) (hgd : (A.deeper (envOfC "law" (defScope s_law) sh.heap.objs.size f (.ref c))).guards = some []) (hr : Room 10 (A.deeper (envOfC "law" (defScope s_law) sh.heap.objs.size f (.ref c)))) (hq : (XL P w K mg base f c A outer sh H0 E).env.qual ++ "<lambda>" = q) :
    Tri (XL P w K mg base f c A outer sh H0 E) (lp 11) (fun (i : Ix) (σ : L2.St) (H : Hp) => ∃ (v2 v4 v5 v8 : Option V) (v : V) (s : StoreR) (B : SA) (vo : V) (d : PyData) (x : Str) (fl : Addr) (Hb : Hp), σ = sg i.a i.p v2 (some v) v4 v5 (some (.ref fl)) v8 (some (.str x)) (some vo) (some (.ref B.a)) ∧ Told T P0 q CS CM i.p i.l i.n Hb 5004 v s B ∧ Odd5 Hb vo d ∧ x ∈ nones ∧ Hb fl = none ∧ Gr (P0 :: T) Hb H ∧ LamX.TabS H P0 q ∧ Found H fl [("badname", d.shown), ("badname", d.shown), ("noname", PyData.shown (.str x)), ("noname", PyData.shown (.str x))])
      (fun (i : Ix) (σ : L2.St) (H : Hp) => ∃ (v2 v4 v5 v6 v8 v9 v10 : Option V) (v : V) (s : StoreR) (B : SA), σ = sg i.a i.p v2 (some v) v4 v5 v6 v8 v9 v10 (some (.ref B.a)) ∧ Told T P0 q CS CM i.p i.l i.n H 5004 v s B) := by
  subst hq
  have hu := hu_of hr
  have hr1 : Room 1 _ := hr.mono (by decide)
  have hr2 : Room 2 _ := hr.mono (by decide)
  have hr5 : Room 5 _ := hr.mono (by decide)
  have nd := sc_law.nd
  have sl : sizeLine = 16777216 := sizeLine_eq
  refine ⟨_, (ps_if (pt_cmpR (op_neD hr.units) (pv 6) (pe_op op_cat (pe_op op_rep (pe_lst (pa_cons (pe_tup (pa_cons pe_str (pa_cons (pe_callB (call_reprD hgd hr.units) (by rfl) W.b_repr (by decide +kernel) (pa_cons (pv 10) pa_nil)) pa_nil))) pa_nil)) pe_int) (pe_op op_rep (pe_lst (pa_cons (pe_tup (pa_cons pe_str (pa_cons (pe_callB (call_reprD hgd hr.units) (by rfl) W.b_repr (by decide +kernel) (pa_cons (pv 9) pa_nil)) pa_nil))) pa_nil)) pe_int)) (nomark _)) (pss_one ps_never) pss_nil), ?_⟩
  rintro ⟨a, p, l, n, hn⟩
  dsimp only
  rintro D σ H ⟨v2, v4, v5, v8, v, s, B, vo, d, x, fl, Hb, rfl, hT, ho, hx, hfl, gb, tb, vs, efl, hE⟩ k
  have hTH := hT.gr gb tb
  have sd := ((ho.ext gb.ext).shown (K := K))
  have sx : Shown K H (.str x) (.str x) := shown_of_str (nones_asc hx).1 (nones_asc hx).2
  have big : ∀ {m : Nat}, m ≤ 1000 → m ≤ sizeLine := fun h => by omega
  have two : ∀ a b : V, [a, b].length ≤ sizeLine := fun a b => big (by show 2 ≤ 1000; decide)
  have one : ∀ a : V, [a].length ≤ sizeLine := fun a => big (by show 1 ≤ 1000; decide)
  refine ⟨_, rfl, _, rfl, _, d, rfl, sd.1.dp, sd.1.ok.1, sd.1.ok.2.1, sd.1.ok.2.2.1, by have := sd.1.ok.2.2.2; omega, two .., fun t1 ht1 => ⟨one _, fun l1 hl1 => ?_⟩⟩
  have g1 := Gr.new (T := T) (o := .tup [.str "badname", .str d.shown]) ht1
  have g2 := Gr.new (T := T) (o := .lst [.ref t1]) hl1
  have e1 := g2.ext _ _ (upd_same (H := H) (a := t1) (o := HO.tup [.str "badname", .str d.shown])) (fun _ z => by cases z)
  refine ⟨l1, 2, _, rfl, rfl, upd_same, by decide, by decide, by show 1 * 2 ≤ sizeLine; omega, fun r1 hr1' => ?_⟩
  have g3 := Gr.new (T := T) (o := .lst [.ref t1, .ref t1]) hr1'
  have e13 := g3.ext _ _ e1 (fun _ z => by cases z)
  have r13 : (upd (upd (upd H t1 (.tup [.str "badname", .str d.shown])) l1 (.lst [.ref t1])) r1 (.lst [.ref t1, .ref t1])) r1 = some (.lst [.ref t1, .ref t1]) := upd_same
  have gg := g1.trans (g2.trans g3)
  rw [show (List.replicate (2 : Int).toNat [V.ref t1]).flatten = [V.ref t1, .ref t1] from rfl]
  generalize upd (upd (upd H t1 (.tup [.str "badname", .str d.shown])) l1 (.lst [.ref t1])) r1 (.lst [.ref t1, .ref t1]) = H3 at e13 r13 gg ⊢
  refine ⟨_, rfl, _, .str x, rfl, .str _, sx.ok.1, sx.ok.2.1, sx.ok.2.2.1, by have := sx.ok.2.2.2; omega, two .., fun t2 ht2 => ⟨one _, fun l2 hl2 => ?_⟩⟩
  have g4 := Gr.new (T := T) (o := .tup [.str "noname", .str (PyData.shown (.str x))]) ht2
  have g5 := Gr.new (T := T) (o := .lst [.ref t2]) hl2
  have e2 := g5.ext _ _ (upd_same (H := H3) (a := t2) (o := HO.tup [.str "noname", .str (PyData.shown (.str x))])) (fun _ z => by cases z)
  refine ⟨l2, 2, _, rfl, rfl, upd_same, by decide, by decide, by show 1 * 2 ≤ sizeLine; omega, fun r2 hr2' => ?_⟩
  rw [show (List.replicate (2 : Int).toNat [V.ref t2]).flatten = [V.ref t2, .ref t2] from rfl]
  have g6 := Gr.new (T := T) (o := .lst [.ref t2, .ref t2]) hr2'
  have e26 := g6.ext _ _ e2 (fun _ z => by cases z)
  have g46 := g4.trans (g5.trans g6)
  have r16 := g46.ext _ _ r13 (fun _ z => by cases z)
  have e16 := g46.ext _ _ e13 (fun _ z => by cases z)
  have g0 := gg.trans g46
  have r26 : (upd (upd (upd H3 t2 (.tup [.str "noname", .str (PyData.shown (.str x))])) l2 (.lst [.ref t2])) r2 (.lst [.ref t2, .ref t2])) r2 = some (.lst [.ref t2, .ref t2]) := upd_same
  generalize upd (upd (upd H3 t2 (.tup [.str "noname", .str (PyData.shown (.str x))])) l2 (.lst [.ref t2])) r2 (.lst [.ref t2, .ref t2]) = H6 at e26 r26 r16 e16 g0 ⊢
  refine ⟨r1, r2, _, _, rfl, rfl, r16, r26, by show 2 + 2 ≤ sizeLine; omega, fun c1 hc1 => ?_⟩
  have g7 := Gr.new (T := T) (o := .lst [.ref t1, .ref t1, .ref t2, .ref t2]) hc1
  have gz := g0.trans g7
  have E1 : EntV (upd H6 c1 (.lst [.ref t1, .ref t1, .ref t2, .ref t2])) (.ref t1) ("badname", d.shown) := ⟨t1, rfl, g7.ext _ _ e16 (fun _ z => by cases z)⟩
  have E2 : EntV (upd H6 c1 (.lst [.ref t1, .ref t1, .ref t2, .ref t2])) (.ref t2) ("noname", PyData.shown (.str x)) := ⟨t2, rfl, g7.ext _ _ e26 (fun _ z => by cases z)⟩
  have ax : Asc (PyData.shown (.str x)) := by rw [PyData.shown_str]; exact asc_repr (nones_asc hx).1
  have S := same (lay_ents (es := [("badname", d.shown), ("badname", d.shown), ("noname", PyData.shown (.str x)), ("noname", PyData.shown (.str x))]) fun e he => by
    simp only [List.mem_cons, List.not_mem_nil, or_false] at he
    rcases he with rfl | rfl | rfl | rfl
    · exact ⟨asc_lit (s := "badname") (by decide +kernel), sd.2⟩
    · exact ⟨asc_lit (s := "badname") (by decide +kernel), sd.2⟩
    · exact ⟨asc_lit (s := "noname") (by decide +kernel), ax⟩
    · exact ⟨asc_lit (s := "noname") (by decide +kernel), ax⟩)
  refine ⟨_, _, .lst (SqL.of (gz.ext _ _ efl (fun _ z => by cases z))) (dpa_all (g := entD) (fun _ _ h => dp_ent (h.ext gz.ext)) hE), .lst (SqL.of upd_same) (dpa_all (g := entD) (fun _ _ h => dp_ent h) (.cons E1 (.cons E1 (.cons E2 (.cons E2 .nil))))), S.1, S.1, _, rfl, ?_⟩
  rw [S.2]
  refine iteF ?_
  exact k _ _ ⟨_, _, _, _, _, _, _, v, s, B, rfl, hTH.grT nP gz⟩
theorem tr_label (W : LW P w K mg base T CS CM CB CN) (SC : StoreC K CS) (nP : P0 ∉ T) (TB : LamX.TabB base mg c P0) (hgd : (A.deeper (envOfC "law" (defScope s_law) sh.heap.objs.size f (.ref c))).guards = some []) (hr : Room 10 (A.deeper (envOfC "law" (defScope s_law) sh.heap.objs.size f (.ref c)))) (hq : (XL P w K mg base f c A outer sh H0 E).env.qual ++ "<lambda>" = q) :
    Tri (XL P w K mg base f c A outer sh H0 E) (lp 12) (fun (i : Ix) (σ : L2.St) (H : Hp) => ∃ (v2 v4 v5 v6 v8 v9 v10 : Option V) (v : V) (s : StoreR) (B : SA), σ = sg i.a i.p v2 (some v) v4 v5 v6 v8 v9 v10 (some (.ref B.a)) ∧ Told T P0 q CS CM i.p i.l i.n H 5004 v s B)
      (fun (i : Ix) (σ : L2.St) (H : Hp) => ∃ (v2 v4 v5 v6 v9 v10 : Option V) (v : V) (s : StoreR) (B : SA) (nm : Str), σ = sg i.a i.p v2 (some v) v4 v5 v6 (some (.str nm)) v9 v10 (some (.ref B.a)) ∧ Told T P0 q CS CM i.p i.l i.n H 5004 v s B ∧ nm ∈ s.names) := by
  subst hq
  have hu := hu_of hr
  have hr1 : Room 1 _ := hr.mono (by decide)
  have hr2 : Room 2 _ := hr.mono (by decide)
  have hr5 : Room 5 _ := hr.mono (by decide)
  have nd := sc_law.nd
  have sl : sizeLine = 16777216 := sizeLine_eq
  refine ⟨_, (ps_set (i := 8) nd rfl (Or.inr rfl) (pe_ix ix_list (pe_dget hu (pv 3) pe_str (fun _ _ => rfl)) pe_int (fun _ _ => rfl))), ?_⟩
  rintro ⟨a, p, l, n, hn⟩
  dsimp only
  rintro D σ H ⟨v2, v4, v5, v6, v8, v9, v10, v, s, B, rfl, hT⟩ k
  obtain ⟨sa, na, ra, wa, ma, qa, mvs, rfl, es, en, _⟩ := hT.sv.ext (mask_ext p H)
  have pos := hT.ok.pos
  have lnm : s.names.length = s.nodes.length := by unfold StoreR.names namesOf; rw [List.length_map]
  have h0 : 0 < s.names.length := by omega
  refine ⟨_, rfl, sa, _, rfl, dget (v := .ref na) es (by kernel_rfl), na, s.names.map V.str, 0, .str s.names[0], rfl, rfl, SqL.of en, atI_nat (j := 0) (by rw [List.getElem?_map, List.getElem?_eq_getElem h0]; rfl), ?_⟩
  exact k _ _ ⟨_, _, _, _, _, _, _, s, B, s.names[0], rfl, hT, List.getElem_mem h0⟩
theorem tr_last (W : LW P w K mg base T CS CM CB CN) (SC : StoreC K CS) (nP : P0 ∉ T) (TB : LamX.TabB base mg c P0) (hgd : (A.deeper (envOfC "law" (defScope s_law) sh.heap.objs.size f (.ref c))).guards = some []) (hr : Room 10 (A.deeper (envOfC "law" (defScope s_law) sh.heap.objs.size f (.ref c)))) (hq : (XL P w K mg base f c A outer sh H0 E).env.qual ++ "<lambda>" = q) :
    Tri (XL P w K mg base f c A outer sh H0 E) (lp 13) (fun (i : Ix) (σ : L2.St) (H : Hp) => ∃ (v2 v4 v5 v6 v9 v10 : Option V) (v : V) (s : StoreR) (B : SA) (nm : Str), σ = sg i.a i.p v2 (some v) v4 v5 v6 (some (.str nm)) v9 v10 (some (.ref B.a)) ∧ Told T P0 q CS CM i.p i.l i.n H 5004 v s B ∧ nm ∈ s.names)
      (fun (i : Ix) (σ : L2.St) (H : Hp) => ∃ (v2 v3 v4 v5 v6 v8 v9 v10 v12 : Option V), σ = sg i.a i.p v2 v3 v4 v5 v6 v8 v9 v10 v12 ∧ Base T P0 q i.p i.l i.n H 5004) := by
  subst hq
  have hu := hu_of hr
  have hr1 : Room 1 _ := hr.mono (by decide)
  have hr2 : Room 2 _ := hr.mono (by decide)
  have hr5 : Room 5 _ := hr.mono (by decide)
  have nd := sc_law.nd
  have sl : sizeLine = 16777216 := sizeLine_eq
  refine ⟨_, (ps_if (pt_cmpR op_notIn_seq (pv 8) (pe_lc (own := [("_law_mend", 14)]) (g := gName 14) (tt := tYes) rfl nd (pi_sqK K (pe_dget hu (pv 3) pe_str (fun _ _ => rfl))) (blkOk_by (own := [("_law_mend", 14)]) (N := N_law) (sc := defScope s_law) (by decide +kernel))
            (fun _ _ _ _ _ => pg_name (i := 14) nd rfl (Or.inl rfl)) (fun _ _ _ _ _ => pts_nil) (fun _ _ _ _ _ => pe_dget hu (pv 14) pe_str (fun _ _ => rfl))) rfl)
          (pss_one (ps_if (pt_cmpR (op_neD hr.units) (pe_neM (io := 12) (ia := 8) W.nef W.ne SC.cl W.mend_of TB hgd hr5 (defScope s_law)) (pe_tup (pa_cons pe_str (pa_cons (pe_callB (call_reprD hgd hr.units) (by rfl) W.b_repr (by decide +kernel) (pa_cons (pv 8) pa_nil)) pa_nil))) (nomark _)) (pss_one ps_never) pss_nil))
          pss_nil), ?_⟩
  rintro ⟨a, p, l, n, hn⟩
  dsimp only
  rintro D σ H ⟨v2, v4, v5, v6, v9, v10, v, s, B, nm, rfl, hT, hnm⟩ k
  obtain ⟨sa, na, ra, wa, ma, qa, mvs, rfl, es, en, er, ew, em, hM, hQ⟩ := hT.sv.ext (mask_ext p H)
  have lmv := hM.length
  have mfew := hT.ok.mfew
  refine ⟨_, rfl, _, rfl, sa, _, rfl, dget (v := .ref ma) es (by kernel_rfl), ma, mvs, false, rfl, sqL em, fun D1 hD1 => lc_map (T := T) (s.mends.map (·.label)) StrV walk_sq (by rw [List.length_map, lmv]) (lsz (by omega)) hD1 (sqL em) Ext.sqof (fun _ _ _ _ _ h => h) ?_ ?_⟩
  · rintro j y b H4 H5 Qc Nx hj ⟨rfl, hy⟩ hF g4 hacc kc
    obtain ⟨m, hm, hMV⟩ := hM.get hy
    rw [List.getElem?_map, hm] at hF
    have hF : m.label = b := Option.some.inj hF
    subst hF
    obtain ⟨mda, mna, mra, mrvs, rfl, f1, _⟩ := hMV.ext g4.ext
    refine ⟨rfl, ?_⟩
    dsimp only [tYes]
    refine iteT ?_
    exact ⟨_, rfl, mda, _, rfl, dget (v := .str m.label) f1 (by kernel_rfl), kc _ _ (.refl T _) rfl⟩
  · intro H4 ys hD4 hA4 g4
    rw [all_str hA4] at hD4
    have T4 := hT.grT nP g4
    refine ⟨D1, _, rfl, .inl (SqL.of hD4), rfl, flat_strs _, _, rfl, ?_⟩
    rw [inV_str]
    have asc := (hT.ok.name nm hnm).asc
    have ln := (hT.ok.name nm hnm).len.2
    have fin : ∀ H', Gr (P0 :: T) H4 H' → LamX.TabS H' P0 _ → D.nx (sg a p v2 (some (.ref sa)) v4 v5 v6 (some (.str nm)) v9 v10 (some (.ref B.a))) H' := fun H' g t => k _ _ ⟨_, _, _, _, _, _, _, _, _, rfl, (T4.gr g t).toBase⟩
    by_cases hin : nm ∈ s.mends.map (·.label)
    · refine if_f (by simp only [hin]; rfl) ?_
      exact fin _ (Gr.refl _ _) T4.tab
    · refine if_t (by simp only [hin]; rfl) ?_
      refine ne_read (i := 8) (C := CN) (tag := "noname") (d := .str nm) rfl rfl T4 nP (fun _ _ _ _ _ _ _ => by kernel_rfl) (.inr ⟨rfl, rfl⟩) (fun H' e => shown_of_str asc (by omega)) (fun H' Q' E' e hB rz => ⟨B, s, _, .str nm, rfl, hB, .inr ⟨nm, rfl, hin, rz⟩⟩) fun t H5 g5 t5 et => ?_
      have sx : Shown K H5 (.str nm) (.str nm) := shown_of_str asc (by omega)
      refine ⟨_, rfl, _, .str nm, rfl, .str _, sx.ok.1, sx.ok.2.1, sx.ok.2.2.1, by have := sx.ok.2.2.2; omega, by show 2 ≤ sizeLine; omega, fun t2 ht2 => ?_⟩
      have g6 := Gr.new (T := T) (o := .tup [.str "noname", .str (PyData.shown (.str nm))]) ht2
      have ax : Asc (PyData.shown (.str nm)) := by rw [PyData.shown_str]; exact asc_repr asc
      have S := same ((lay_tup (n := 1) (lay_cons (lay_str (asc_lit (s := "noname") (by decide +kernel))) (lay_cons (lay_str ax) lay_nil))).up (m := 20) (by decide))
      have E1 : EntV (upd H5 t2 (.tup [.str "noname", .str (PyData.shown (.str nm))])) (.ref t) ("noname", PyData.shown (.str nm)) := ⟨t, rfl, g6.ext _ _ et (fun _ z => by cases z)⟩
      have E2 : EntV (upd H5 t2 (.tup [.str "noname", .str (PyData.shown (.str nm))])) (.ref t2) ("noname", PyData.shown (.str nm)) := ⟨t2, rfl, upd_same⟩
      refine ⟨_, _, dp_ent E1, dp_ent E2, S.1, S.1, _, rfl, ?_⟩
      unfold entD
      rw [S.2]
      refine iteF ?_
      exact fin _ (g5.trans g6.more) (g6.tabS nP t5)
end
end Z
set_option Elab.async false
set_option linter.all false
set_option maxRecDepth 100000
set_option maxHeartbeats 4000000
namespace Z
open PySem L2 PyProof.Rows ZX GX TL ZT
abbrev sgE (a p : Addr) (v2 v3 v4 v5 v6 v7 v8 v9 v10 v11 v12 : Option V) : L2.St := [some (.ref a), some (.ref p), v2, v3, v4, v5, v6, v7, v8, v9, v10, v11, v12, none, none]
def ringS : StoreR := ⟨1, [⟨"a", 1, false⟩, ⟨"b", 1, false⟩], [⟨"m", "a", [("b", 1)], none⟩], [[("a", none)]]⟩
def handM : MendR := ⟨"p", "a", [("c", 1)], some ("b", 0, [("c", 2)])⟩
theorem ring_text : (textT (rowsOf "" ringS) "\n") = "file 1\nnode a 1\nnode b 1\nmend m a from b:1\nreader a\n" := by decide +kernel
theorem name1 {c : Nat} (h : isLow c) : NameW 11 ⟨#[c]⟩ := ⟨c, [], rfl, h, (fun _ h => by cases h), by decide⟩
theorem ring_ok : StoreOk ringS := by
  have na : NameW 11 ("a" : Str) := name1 (c := 97) (by unfold isLow; omega)
  have nb : NameW 11 ("b" : Str) := name1 (c := 98) (by unfold isLow; omega)
  have nm : NameW 11 ("m" : Str) := name1 (c := 109) (by unfold isLow; omega)
  refine ⟨by decide, by decide, by decide, by decide +kernel, fun x hx => ?_, fun x hx => ?_, ⟨⟨"a", 1, false⟩, List.mem_cons_self .., rfl⟩, by decide, by decide +kernel, fun m hm => ?_, fun m hm => ?_, by decide, by decide, fun r hr => ?_⟩
  · rcases List.mem_cons.mp hx with rfl | hx
    · exact na
    · rw [List.mem_singleton.mp hx]
      exact nb
  · rcases List.mem_cons.mp hx with rfl | hx
    · decide
    · rw [List.mem_singleton.mp hx]
      decide
  · rw [List.mem_singleton.mp hm]
    exact nm
  · rw [List.mem_singleton.mp hm]
    refine ⟨by decide +kernel, fun r hr => ?_, fun o c r e => by cases e⟩
    rw [List.mem_singleton.mp hr]
    refine ⟨by decide, by decide, by decide +kernel, fun it hit => ?_, fun it hit => ?_⟩
    · rw [List.mem_singleton.mp hit]
      decide +kernel
    · rw [List.mem_singleton.mp hit]
      decide
  · rw [List.mem_singleton.mp hr]
    refine ⟨by decide, by decide, by decide +kernel, fun it hit => ?_, fun it hit k hk => ?_⟩
    · rw [List.mem_singleton.mp hit]
      decide +kernel
    · rw [List.mem_singleton.mp hit] at hk
      cases hk
section
variable {P : Program} {w : World} {K : PySem.W.Frag} {mg : Str → Option Value} {base : Heap} {T : List Addr} {CS CM CB CN : Addr} {f c P0 : Addr} {A : Around} {outer : List Env} {sh : Shared} {H0 : Hp} {E : XK} {q : Str}
/-- what name_error tells of a written name that is none -/
theorem ne_readS {P0 : Addr} {q : Str} {mn : Str} {sp : Sp} {io : Nat} {σ : L2.St} {H : Hp} {Q : VK} {x text : Str} {s : StoreR} {B : SA} (h12 : σ[io]? = some (some (.ref B.a))) (tS : LamX.TabS H P0 q) (hB : StoreAt CS CM H B s text) (nP : P0 ∉ T)
    (hl : ∀ (t : Str) (fn : Nat) (a1 a2 a3 a4 a5 : Addr), (storeF t fn a1 a2 a3 a4 a5).lookup mn = none) (sh : ∀ H', Shown K H' (.str x) (.str x))
    (hsp : ∀ H' Q' E, StoreAt CS CM H' B s text → Rz H' E CN [("name", .str x)] → sp [.ref B.a, .str x] H' Q' E)
    (k : ∀ t H', Gr (P0 :: T) H H' → LamX.TabS H' P0 q → H' t = some (.tup [.str "noname", .str (PyData.shown (.str x))]) → Q (.ref t) H') :
    tLamG P0 q (TTN K CB CN) (fun E => tMeth CS mn sp [] E (tVar io) (tCons (tC (.str x)) tNil)) σ H Q := by
  refine ⟨tS, fun H1 lg => ?_⟩
  have g1 := lg.gr (T := T) tS
  intro t0 ht0
  have g2 : Gr T H1 (upd H1 t0 (.tup [.str "none"])) := Gr.new ht0
  have t2 := g2.tabS nP lg.tab
  have g12 := g1.trans g2.more
  have B2 := hB.ext g12.ext
  refine ⟨_, h12, B.a, B.dx, _, rfl, B2.ob, hl .., hsp _ _ _ B2 fun dd H3 hd s3 hx => ?_⟩
  have g3 : Gr T (upd H1 t0 (.tup [.str "none"])) H3 := .same s3
  have g13 := g12.trans g3.more
  refine ⟨CN, "noname", .inr ⟨rfl, rfl⟩, rfl, dd, _, .str x, .str x, rfl, hx, by simp [List.lookup], sh _, fun t ht => ?_⟩
  have g4 : Gr T H3 (upd H3 t (.tup [.str "noname", .str (PyData.shown (.str x))])) := Gr.new ht
  exact k t _ (g13.trans g4.more) (g4.tabS nP (g3.tabS nP t2)) upd_same
theorem tr_ring (W : LW P w K mg base T CS CM CB CN) (SC : StoreC K CS) (nP : P0 ∉ T) (TB : LamX.TabB base mg c P0) (hgd : (A.deeper (envOfC "law" (defScope s_law) sh.heap.objs.size f (.ref c))).guards = some []) (hr : Room 10 (A.deeper (envOfC "law" (defScope s_law) sh.heap.objs.size f (.ref c)))) (hq : (XL P w K mg base f c A outer sh H0 E).env.qual ++ "<lambda>" = q) :
    Tri (XL P w K mg base f c A outer sh H0 E) (bodyAt s_law 2) (fun (i : Ix) (σ : L2.St) (H : Hp) => ∃ (v2 v3 v4 v5 v6 v7 v8 v9 v10 v11 v12 : Option V), σ = sgE i.a i.p v2 v3 v4 v5 v6 v7 v8 v9 v10 v11 v12 ∧ Tabs T H ∧ LamX.TabS H P0 q)
      (fun (i : Ix) (σ : L2.St) (H : Hp) => ∃ (v2 v3 v4 v5 v6 v7 v8 v9 v10 v12 : Option V) (B : SA), σ = sgE i.a i.p v2 v3 v4 v5 v6 v7 v8 v9 v10 (some (.ref B.a)) v12 ∧ Tabs T H ∧ LamX.TabS H P0 q ∧ StoreAt CS CM H B ringS (textT (rowsOf "" ringS) "\n")) := by
  subst hq
  have hu := hu_of hr
  have hr1 : Room 1 _ := hr.mono (by decide)
  have hr2 : Room 2 _ := hr.mono (by decide)
  have hr5 : Room 5 _ := hr.mono (by decide)
  have nd := sc_law.nd
  have sl : sizeLine = 16777216 := sizeLine_eq
  refine ⟨_, (ps_set (i := 11) nd rfl (Or.inr rfl) (pe_mkx W.init hr (pa_cons pe_str pa_nil))), ?_⟩
  rintro ⟨a, p, l, n, hn⟩
  dsimp only
  rintro D σ H ⟨v2, v3, v4, v5, v6, v7, v8, v9, v10, v11, v12, rfl, tb, tS⟩ k
  rw [← ring_text]
  refine fun d ddx hd hddx nd => ⟨d, ddx, "", "\n", ringS, rfl, upd_same, nil_zeros, .inr rfl, ring_ok, (made hd hddx).tabs tb, fun B1 H2 hBa hB1 gp => ⟨rfl, ?_⟩⟩
  subst hBa
  have g := built hd hddx gp
  exact k _ _ ⟨_, _, _, _, _, _, _, _, _, _, B1, rfl, g.tabs tb, g.tabS nP tS, hB1⟩
theorem tr_ringm (W : LW P w K mg base T CS CM CB CN) (SC : StoreC K CS) (nP : P0 ∉ T) (TB : LamX.TabB base mg c P0) (hgd : (A.deeper (envOfC "law" (defScope s_law) sh.heap.objs.size f (.ref c))).guards = some []) (hr : Room 10 (A.deeper (envOfC "law" (defScope s_law) sh.heap.objs.size f (.ref c)))) (hq : (XL P w K mg base f c A outer sh H0 E).env.qual ++ "<lambda>" = q) :
    Tri (XL P w K mg base f c A outer sh H0 E) (bodyAt s_law 3) (fun (i : Ix) (σ : L2.St) (H : Hp) => ∃ (v2 v3 v4 v5 v6 v7 v8 v9 v10 v12 : Option V) (B : SA), σ = sgE i.a i.p v2 v3 v4 v5 v6 v7 v8 v9 v10 (some (.ref B.a)) v12 ∧ Tabs T H ∧ LamX.TabS H P0 q ∧ StoreAt CS CM H B ringS (textT (rowsOf "" ringS) "\n"))
      (fun (i : Ix) (σ : L2.St) (H : Hp) => ∃ (v2 v3 v4 v5 v6 v7 v8 v9 v10 v11 v12 : Option V), σ = sgE i.a i.p v2 v3 v4 v5 v6 v7 v8 v9 v10 v11 v12 ∧ Tabs T H ∧ LamX.TabS H P0 q) := by
  subst hq
  have hu := hu_of hr
  have hr1 : Room 1 _ := hr.mono (by decide)
  have hr2 : Room 2 _ := hr.mono (by decide)
  have hr5 : Room 5 _ := hr.mono (by decide)
  have nd := sc_law.nd
  have sl : sizeLine = 16777216 := sizeLine_eq
  refine ⟨_, (ps_if (pt_cmpR (op_neD hr.units) (pe_neS (io := 11) W.nef W.ne SC.cl W.is_new TB hgd hr5 (defScope s_law)) (pe_tup (pa_cons pe_str (pa_cons pe_str pa_nil))) (nomark _)) (pss_one ps_never) pss_nil), ?_⟩
  rintro ⟨a, p, l, n, hn⟩
  dsimp only
  rintro D σ H ⟨v2, v3, v4, v5, v6, v7, v8, v9, v10, v12, B, rfl, tb, tS, hB⟩ k
  have am : Asc ("m" : Str) := asc_lit (by decide +kernel)
  have lm : ("m" : Str).length ≤ 50 := by decide +kernel
  refine ne_readS (T := T) (CM := CM) rfl tS hB nP (fun _ _ _ _ _ _ _ => by kernel_rfl) (fun H' => shown_of_str am lm) (fun H' Q' E' hB rz => ⟨B, ringS, _, .str "m", rfl, hB, .inr ⟨"m", rfl, by decide +kernel, rz⟩⟩) fun t H1 g1 t1 et => ?_
  refine ⟨by show 2 ≤ sizeLine; omega, fun t2 ht2 => ?_⟩
  have e0 : PyData.shown (.str "m") = "'m'" := by decide +kernel
  rw [e0] at et
  have g6 := Gr.new (T := T) (o := .tup [.str "noname", .str "'m'"]) ht2
  have S := same ((lay_tup (n := 1) (lay_cons (lay_str (asc_lit (s := "noname") (by decide +kernel))) (lay_cons (lay_str (asc_lit (s := "'m'") (by decide +kernel))) lay_nil))).up (m := 20) (by decide))
  have E1 : EntV (upd H1 t2 (.tup [.str "noname", .str "'m'"])) (.ref t) ("noname", "'m'") := ⟨t, rfl, g6.ext _ _ et (fun _ z => by cases z)⟩
  have E2 : EntV (upd H1 t2 (.tup [.str "noname", .str "'m'"])) (.ref t2) ("noname", "'m'") := ⟨t2, rfl, upd_same⟩
  refine ⟨_, _, dp_ent E1, dp_ent E2, S.1, S.1, _, rfl, ?_⟩
  unfold entD
  rw [S.2]
  refine iteF ?_
  exact k _ _ ⟨_, _, _, _, _, _, _, _, _, _, _, rfl, fun P' hP' => (g1.trans g6.more).tab P' (tb P' hP'), g6.tabS nP t1⟩
theorem tr_made (W : LW P w K mg base T CS CM CB CN) (SC : StoreC K CS) (nP : P0 ∉ T) (TB : LamX.TabB base mg c P0) (hgd : (A.deeper (envOfC "law" (defScope s_law) sh.heap.objs.size f (.ref c))).guards = some []) (hr : Room 10 (A.deeper (envOfC "law" (defScope s_law) sh.heap.objs.size f (.ref c)))) (hq : (XL P w K mg base f c A outer sh H0 E).env.qual ++ "<lambda>" = q) :
    Tri (XL P w K mg base f c A outer sh H0 E) (bodyAt s_law 4) (fun (i : Ix) (σ : L2.St) (H : Hp) => ∃ (v2 v3 v4 v5 v6 v7 v8 v9 v10 v11 v12 : Option V), σ = sgE i.a i.p v2 v3 v4 v5 v6 v7 v8 v9 v10 v11 v12 ∧ Tabs T H ∧ LamX.TabS H P0 q)
      (fun (i : Ix) (σ : L2.St) (H : Hp) => ∃ (v2 v3 v4 v5 v6 v8 v9 v10 v11 v12 : Option V) (v : V), σ = sgE i.a i.p v2 v3 v4 v5 v6 (some v) v8 v9 v10 v11 v12 ∧ MendO CM H v handM) := by
  subst hq
  have hu := hu_of hr
  have hr1 : Room 1 _ := hr.mono (by decide)
  have hr2 : Room 2 _ := hr.mono (by decide)
  have hr5 : Room 5 _ := hr.mono (by decide)
  have nd := sc_law.nd
  have sl : sizeLine = 16777216 := sizeLine_eq
  refine ⟨_, (ps_set (i := 7) nd rfl (Or.inl rfl) (pe_mkx W.mend hr2 (pa_cons pe_str (pa_cons pe_str (pa_cons (pe_tup (pa_cons pe_str (pa_cons pe_str pa_nil))) (pa_cons (pe_tup (pa_cons (pe_tup (pa_cons pe_str pa_nil)) (pa_cons (pe_tup (pa_cons pe_str pa_nil)) pa_nil))) (pa_cons (pe_tup (pa_cons (pe_tup (pa_cons pe_int pa_nil)) (pa_cons (pe_tup (pa_cons pe_int pa_nil)) pa_nil))) (pa_cons pe_int pa_nil)))))))), ?_⟩
  rintro ⟨a, p, l, n, hn⟩
  dsimp only
  rintro D σ H ⟨v2, v3, v4, v5, v6, v7, v8, v9, v10, v11, v12, rfl, tb, tS⟩ k
  have two : ∀ x y : V, [x, y].length ≤ sizeLine := fun x y => by show 2 ≤ sizeLine; omega
  have one : ∀ x : V, [x].length ≤ sizeLine := fun x => by show 1 ≤ sizeLine; omega
  refine ⟨two .., fun t1 h1 => ⟨one _, fun t2 h2 => ⟨one _, fun t3 h3 => ⟨two .., fun t4 h4 => ⟨one _, fun t5 h5 => ⟨one _, fun t6 h6 => ⟨two .., fun t7 h7 => ?_⟩⟩⟩⟩⟩⟩⟩
  have e1 := upd_same (H := H) (a := t1) (o := HO.tup [.str "a", .str "b"])
  have g2 := Gr.new (T := T) (o := .tup [.str "c"]) h2
  have e12 := g2.ext _ _ e1 (fun _ z => by cases z)
  have g3 := Gr.new (T := T) (o := .tup [.str "c"]) h3
  have e13 := g3.ext _ _ e12 (fun _ z => by cases z)
  have e23 := g3.ext _ _ (upd_same (a := t2) (o := HO.tup [.str "c"])) (fun _ z => by cases z)
  have g4 := Gr.new (T := T) (o := .tup [.ref t2, .ref t3]) h4
  have g5 := Gr.new (T := T) (o := .tup [.int 1]) h5
  have g6 := Gr.new (T := T) (o := .tup [.int 2]) h6
  have g7 := Gr.new (T := T) (o := .tup [.ref t5, .ref t6]) h7
  have g47 := g4.trans (g5.trans (g6.trans g7))
  have e17 := g47.ext _ _ e13 (fun _ z => by cases z)
  have e27 := g47.ext _ _ e23 (fun _ z => by cases z)
  have e37 := g47.ext _ _ (upd_same (a := t3) (o := HO.tup [.str "c"])) (fun _ z => by cases z)
  have e47 := (g5.trans (g6.trans g7)).ext _ _ (upd_same (a := t4) (o := HO.tup [.ref t2, .ref t3])) (fun _ z => by cases z)
  have e57 := (g6.trans g7).ext _ _ (upd_same (a := t5) (o := HO.tup [.int 1])) (fun _ z => by cases z)
  have e67 := g7.ext _ _ (upd_same (a := t6) (o := HO.tup [.int 2])) (fun _ z => by cases z)
  have e77 := upd_same (H := upd (upd (upd (upd (upd (upd H t1 (.tup [.str "a", .str "b"])) t2 (.tup [.str "c"])) t3 (.tup [.str "c"])) t4 (.tup [.ref t2, .ref t3])) t5 (.tup [.int 1])) t6 (.tup [.int 2])) (a := t7) (o := HO.tup [.ref t5, .ref t6])
  generalize upd (upd (upd (upd (upd (upd (upd H t1 (.tup [.str "a", .str "b"])) t2 (.tup [.str "c"])) t3 (.tup [.str "c"])) t4 (.tup [.ref t2, .ref t3])) t5 (.tup [.int 1])) t6 (.tup [.int 2])) t7 (.tup [.ref t5, .ref t6]) = H7 at e17 e27 e37 e47 e57 e67 e77 ⊢
  refine fun x dx hx hdx nd => ⟨x, dx, .str "p", .str "pair", .ref t1, .ref t4, .ref t7, .int 0, rfl, upd_same, rfl, ?_⟩
  have g : Gr T H7 (upd (upd (upd H7 dx (.own x)) x (.ins CM dx [])) x (.ins CM dx (mendF (.str "p") (.str "pair") (.ref t1) (.ref t4) (.ref t7) (.int 0)))) := ((Gr.new hdx).upd hx).upd hx
  have at_ : ∀ {b : Addr} {xs : List V}, H7 b = some (.tup xs) → (upd (upd (upd H7 dx (.own x)) x (.ins CM dx [])) x (.ins CM dx (mendF (.str "p") (.str "pair") (.ref t1) (.ref t4) (.ref t7) (.int 0)))) b = some (.tup xs) := fun e => g.ext _ _ e (fun _ z => by cases z)
  exact k _ _ ⟨_, _, _, _, _, _, _, _, _, _, _, rfl, x, dx, .ref t1, .ref t4, .ref t7, rfl, upd_same, ⟨t1, rfl, at_ e17⟩, ⟨t4, .ref t2, .ref t3, rfl, at_ e47, ⟨t2, rfl, at_ e27⟩, ⟨t3, rfl, at_ e37⟩⟩, ⟨t7, .ref t5, .ref t6, rfl, at_ e77, ⟨t5, rfl, at_ e57⟩, ⟨t6, rfl, at_ e67⟩⟩⟩
end
end Z
set_option Elab.async false
set_option linter.all false
set_option maxRecDepth 100000
set_option maxHeartbeats 4000000
namespace Z
open PySem L2 PyProof.Rows ZX GX TL ZT
def spLaw (K : PySem.W.Frag) (T : List Addr) (P : Addr) : Sp := fun vs H Q _ => ∃ (a : Addr) (ns : List Int), vs = [.ref a] ∧ SqL K H a (ns.map V.int) ∧ ns.length ≤ 63 ∧ Tabs T H ∧ H P = some (.tbl #[]) ∧ ∀ H', Q (.bl true) H'
theorem hand_lay : Lay (fieldD handM) 20 := by unfold Lay; decide +kernel
section
variable {P : Program} {w : World} {K : PySem.W.Frag} {mg : Str → Option Value} {base : Heap} {T : List Addr} {CS CM CB CN : Addr}
theorem ok_law {f c P0 : Addr} {fd : FuncData} (F : Fun K "law" "law" s_law f fd) (hc : fd.code = .ref c) (TB : LamX.TabB base mg c P0) (nP : P0 ∉ T) (SC : StoreC K CS) (W : LW P w K mg base T CS CM CB CN) : FnG P w K mg base CX0 11 f fd ["_law_script"] (spLaw K T P0) := by
  refine fnG_ofT F hc sc_law (fun vs H Q E h => ?_) (fun A hgA outer sh H vs Q E hr h => ?_)
  · obtain ⟨a, ns, rfl, _⟩ := h
    rfl
  · obtain ⟨a, ns, rfl, hS, hl, tb, eP, k⟩ := h
    have hgd : (A.deeper (envOfC "law" (defScope s_law) sh.heap.objs.size f (.ref c))).guards = some [] := hgA
    have hr1 : Room 1 _ := hr.mono (by decide)
    have nd := sc_law.nd
    have sl : sizeLine = 16777216 := sizeLine_eq
    obtain ⟨QN, hQ⟩ : ∃ q : Str, (XL P w K mg base f c A outer sh H E).env.qual ++ "<lambda>" = q := ⟨_, rfl⟩
    have tS := LamX.TabS.nil (q := QN) eP
    have body : Tris (XL P w K mg base f c A outer sh H E) [lp 0, lp 1, lp 2, lp 3, lp 4, lp 5, lp 6, lp 7, lp 8, lp 9, lp 10, lp 11, lp 12, lp 13] _ _ :=
      .cons (tr_store (q := QN) W SC nP hr) (.cons (tr_told (q := QN) W SC nP hr) (.cons (tr_zeros (q := QN) W SC nP hr) (.cons (tr_same (q := QN) W SC nP hr) (.cons (tr_other (q := QN) W SC nP hr) (.cons (tr_unlike (q := QN) W SC nP hr) (.cons (tr_odd (q := QN) W SC nP hr)
      (.cons (tr_f1 W SC nP TB hgd hr hQ) (.cons (tr_f2 W SC nP TB hgd hr hQ) (.cons (tr_f3 W SC nP TB hgd hr hQ) (.cons (tr_f4 W SC nP TB hgd hr hQ) (.cons (tr_cmp W SC nP TB hgd hr hQ) (.cons (tr_label W SC nP TB hgd hr hQ) (.one (tr_last W SC nP TB hgd hr hQ))))))))))))))
    obtain ⟨tB, pB, rB⟩ := body
    obtain ⟨t2, p2, r2⟩ := tr_ring (f := f) (c := c) (A := A) (outer := outer) (sh := sh) (H0 := H) (E := E) W SC nP TB hgd hr hQ
    obtain ⟨t3, p3, r3⟩ := tr_ringm (f := f) (c := c) (A := A) (outer := outer) (sh := sh) (H0 := H) (E := E) W SC nP TB hgd hr hQ
    obtain ⟨t4, p4, r4⟩ := tr_made (f := f) (c := c) (A := A) (outer := outer) (sh := sh) (H0 := H) (E := E) W SC nP TB hgd hr hQ
    refine ⟨_, (pss_cons (ps_set (i := 1) nd rfl (Or.inl rfl) (pe_fx W.pen hr1 (pa_cons (pv 0) pa_nil)))
      (C8.pss_cut (ps_for PassesOwn.never rfl (pi_range1 (by rfl) W.b_range (pa_cons pe_int pa_nil)) (pg_name (i := 2) nd rfl (Or.inl rfl)) pB)
      (C8.pss_cut p2 (C8.pss_cut p3 (C8.pss_cut p4 (pss_one (ps_ret (pe_cmpR (op_eqD hr.units) (pe_fx W.tf hr1 (pa_cons (pv 7) pa_nil)) (pe_tup (pa_cons pe_str (pa_cons pe_str (pa_cons (pe_tup (pa_cons pe_str (pa_cons pe_str pa_nil))) (pa_cons (pe_tup (pa_cons (pe_tup (pa_cons pe_str pa_nil)) (pa_cons (pe_tup (pa_cons pe_str pa_nil)) pa_nil))) (pa_cons (pe_tup (pa_cons (pe_tup (pa_cons pe_int pa_nil)) (pa_cons (pe_tup (pa_cons pe_int pa_nil)) pa_nil))) (pa_cons pe_int pa_nil))))))) (nomark _))))))))), ?_⟩
    refine ⟨_, rfl, a, ns, rfl, hS, hl, fun p l H1 hp0 hl0 s1 hPen => ?_⟩
    have g1 : Gr T H H1 := .same s1
    have hB : Base T P0 QN p l 0 H1 0 := ⟨⟨⟨0, Nat.le_refl _, hPen⟩, g1.tabs tb⟩, g1.tabS nP tS⟩
    refine ⟨fun σ' H' => ∃ v2 v3 v4 v5 v6 v8 v9 v10 v12 : Option V, σ' = sg a p v2 v3 v4 v5 v6 v8 v9 v10 v12 ∧ ∃ n, Base T P0 QN p l n H' 0, ?_, ?_⟩
    · refine ⟨2, rfl, by decide, by decide, ?_⟩
      refine for_range (lo := 0) (n := 2) (fun i σ' H' => ∃ v2 v3 v4 v5 v6 v8 v9 v10 v12 : Option V, σ' = sg a p v2 v3 v4 v5 v6 v8 v9 v10 v12 ∧ Base T P0 QN p l (i * 5004) H' 0) ⟨none, none, none, none, none, none, none, none, none, rfl, hB⟩ ?_ ?_
      · rintro i σ' H2 hi ⟨v2, v3, v4, v5, v6, v8, v9, v10, v12, rfl, hB2⟩
        refine rB ⟨a, p, l, i * 5004, by omega⟩ _ _ _ ⟨_, v3, v4, v5, v6, v8, v9, v10, v12, rfl, hB2⟩ ?_
        rintro σ' H3 ⟨v2, v3, v4, v5, v6, v8, v9, v10, v12, rfl, hB3⟩
        refine ⟨v2, v3, v4, v5, v6, v8, v9, v10, v12, rfl, ?_⟩
        have e : (i + 1) * 5004 + 0 = i * 5004 + 5004 := by omega
        exact ⟨by rw [e]; exact hB3.pt, hB3.tab⟩
      · rintro σ' H2 ⟨v2, v3, v4, v5, v6, v8, v9, v10, v12, rfl, hB2⟩
        exact ⟨v2, v3, v4, v5, v6, v8, v9, v10, v12, rfl, _, hB2⟩
    rintro σ' H2 ⟨v2, v3, v4, v5, v6, v8, v9, v10, v12, rfl, n, hB2⟩
    let ix : Ix := ⟨a, p, l, 0, by decide⟩
    refine ⟨_, r2 ix _ _ _ ⟨v2, v3, v4, v5, v6, none, v8, v9, v10, none, v12, rfl, hB2.pt.tab, hB2.tab⟩ fun _ _ h => h, ?_⟩
    intro σ' H3 h3
    refine ⟨_, r3 ix _ _ _ h3 fun _ _ h => h, ?_⟩
    intro σ' H4 h4
    refine ⟨_, r4 ix _ _ _ h4 fun _ _ h => h, ?_⟩
    rintro σ' H5 ⟨v2, v3, v4, v5, v6, v8, v9, v10, v11, v12, v, rfl, hM⟩
    refine ⟨_, rfl, v, handM, rfl, hM, fun u H6 g6 hF => ?_⟩
    have two : ∀ x y : V, [x, y].length ≤ sizeLine := fun x y => by show 2 ≤ sizeLine; omega
    have one : ∀ x : V, [x].length ≤ sizeLine := fun x => by show 1 ≤ sizeLine; omega
    refine ⟨two .., fun t1 h1 => ⟨one _, fun t2 h2 => ⟨one _, fun t3 h3 => ⟨two .., fun t4 h4 => ⟨one _, fun t5 h5 => ⟨one _, fun t6 h6 => ⟨two .., fun t7 h7 => ⟨by show 6 ≤ sizeLine; omega, fun t8 h8 => ?_⟩⟩⟩⟩⟩⟩⟩⟩
    have G1 := Gr.new (T := T) (o := .tup [.str "a", .str "b"]) h1
    have G2 := Gr.new (T := T) (o := .tup [.str "c"]) h2
    have G3 := Gr.new (T := T) (o := .tup [.str "c"]) h3
    have G4 := Gr.new (T := T) (o := .tup [.ref t2, .ref t3]) h4
    have G5 := Gr.new (T := T) (o := .tup [.int 1]) h5
    have G6 := Gr.new (T := T) (o := .tup [.int 2]) h6
    have G7 := Gr.new (T := T) (o := .tup [.ref t5, .ref t6]) h7
    have G8 := Gr.new (T := T) (o := .tup [.str "p", .str "pair", .ref t1, .ref t4, .ref t7, .int 0]) h8
    have e1 := (G2.trans (G3.trans (G4.trans (G5.trans (G6.trans (G7.trans G8)))))).ext _ _ (upd_same (a := t1) (o := HO.tup [.str "a", .str "b"])) (fun _ z => by cases z)
    have e2 := (G3.trans (G4.trans (G5.trans (G6.trans (G7.trans G8))))).ext _ _ (upd_same (a := t2) (o := HO.tup [.str "c"])) (fun _ z => by cases z)
    have e3 := (G4.trans (G5.trans (G6.trans (G7.trans G8)))).ext _ _ (upd_same (a := t3) (o := HO.tup [.str "c"])) (fun _ z => by cases z)
    have e4 := (G5.trans (G6.trans (G7.trans G8))).ext _ _ (upd_same (a := t4) (o := HO.tup [.ref t2, .ref t3])) (fun _ z => by cases z)
    have e5 := (G6.trans (G7.trans G8)).ext _ _ (upd_same (a := t5) (o := HO.tup [.int 1])) (fun _ z => by cases z)
    have e6 := (G7.trans G8).ext _ _ (upd_same (a := t6) (o := HO.tup [.int 2])) (fun _ z => by cases z)
    have e7 := G8.ext _ _ (upd_same (a := t7) (o := HO.tup [.ref t5, .ref t6])) (fun _ z => by cases z)
    have GG := G1.trans (G2.trans (G3.trans (G4.trans (G5.trans (G6.trans (G7.trans G8))))))
    have S := same hand_lay
    refine ⟨fieldD handM, fieldD handM, dp_field (hF.ext GG.ext), ?_, S.1, S.1, ?_⟩
    · have ec : ∀ {H : Hp} {t : Addr} {x : Str}, H t = some (.tup [.str x]) → Dp K H (.ref t) (.tuple [.str x]) := fun e => .tup (SqT.of e) (.cons (.str _) .nil)
      have ei : ∀ {H : Hp} {t : Addr} {x : Int}, H t = some (.tup [.int x]) → Dp K H (.ref t) (.tuple [.int x]) := fun e => .tup (SqT.of e) (.cons (.int _) .nil)
      exact .tup (SqT.of upd_same) (.cons (.str _) (.cons (.str _) (.cons (.tup (SqT.of e1) (.cons (.str _) (.cons (.str _) .nil))) (.cons (.tup (SqT.of e4) (.cons (ec e2) (.cons (ec e3) .nil))) (.cons (.tup (SqT.of e7) (.cons (ei e5) (.cons (ei e6) .nil))) (.cons (.int _) .nil))))))
    · rw [S.2]
      exact k _
end
end Z
set_option Elab.async false
set_option linter.all false
set_option maxRecDepth 100000
set_option maxHeartbeats 4000000
namespace Z
open PySem L2 PyProof.Rows ZX GX
abbrev s_BadName : Stmt := inClass (topS 3) 0
abbrev s_NoName : Stmt := inClass (topS 4) 0
theorem sc_BadName : FnScope ["self", "name"] ["self", "name"] (defScope s_BadName) := ⟨rfl, rfl, rfl, by decide +kernel, rfl, by decide +kernel, by decide +kernel⟩
theorem sc_NoName : FnScope ["self", "name"] ["self", "name"] (defScope s_NoName) := ⟨rfl, rfl, rfl, by decide +kernel, rfl, by decide +kernel, by decide +kernel⟩
theorem xc_mk {K : PySem.W.Frag} {C CM : Addr} {nm q : Str} {N : Addr} {bs : List Value} {sn : List Str} {sub : List Value} {ab : Bool} {col : Option Bool} {dd : Option Addr} {m0 m1 m2 m3 m5 : Option Value}
    (x : K.lookup C = some (excClassObj nm q C N bs (.ref CM :: [.type "ValueError", .type "Exception", .type "BaseException", .type "object"]) true sn sub ab col dd m0 m1 m2 m3 m5 "ValueError.__new__"))
    (sa : PySem.W.findIn K (.ref C) "__setattr__" = some (some (.builtin "object.__setattr__"))) (ga : PySem.W.findIn K (.ref C) "__getattribute__" = some (some (.builtin "BaseException.__getattribute__")))
    (gg : PySem.W.findIn K (.ref C) "__getattr__" = some none) (cc : PySem.W.findIn K (.ref C) "__class__" = some (some (.builtin "object.__class__"))) (eC : PySem.W.subIn K (.ref C) (.type "BaseException") = some true)
    (tC : PySem.W.typeIn K (.ref C) = some (.type "type")) (kC : PySem.W.keepIn K (.ref C) = true) (hC : PySem.W.hasDictIn K C = true) (hm : PySem.W.mroIn K C (.type "object") = some true)
    (hn : PySem.W.specialIn K (.builtin "object.__class__") "__get__" = some (some (.builtin "getset_descriptor.__get__"))) (ht : PySem.W.takesIn K (.builtin "object.__class__") = some true) : XC K C :=
  ⟨⟨⟨nm, q, N, bs, _, sn, sub, ab, col, dd, m0, m1, m2, m3, m5, x, by show PySem.HandSPX.refsVE [.type "ValueError", .type "Exception", .type "BaseException", .type "object"] = true; decide +kernel⟩, sa, eC, tC, kC⟩, ga, gg, hC, cc, hn, ht, hm⟩
/-- a class whose row of bases is known -/
structure Row (K : PySem.W.Frag) (CM C : Addr) : Prop where
  ty : PySem.W.typeIn K (.ref C) = some (.type "type")
  cd : ∃ cd, PySem.W.clsIn K C = some cd ∧ cd.mro = [.ref C, .ref CM, .type "ValueError", .type "Exception", .type "BaseException", .type "object"]
theorem row_mk {K : PySem.W.Frag} {C CM : Addr} {nm q : Str} {N : Addr} {bs : List Value} {sn : List Str} {sub : List Value} {ab : Bool} {col : Option Bool} {dd : Option Addr} {m0 m1 m2 m3 m5 : Option Value}
    (x : K.lookup C = some (excClassObj nm q C N bs (.ref CM :: [.type "ValueError", .type "Exception", .type "BaseException", .type "object"]) true sn sub ab col dd m0 m1 m2 m3 m5 "ValueError.__new__"))
    (tC : PySem.W.typeIn K (.ref C) = some (.type "type")) : Row K CM C := by
  refine ⟨tC, ?_⟩
  unfold PySem.W.clsIn
  rw [x]
  exact ⟨_, rfl, rfl⟩
theorem row_mro {K : PySem.W.Frag} {C CM : Addr} (R : Row K CM C) (b : Value) : PySem.W.mroIn K C b = some (([.ref C, .ref CM, .type "ValueError", .type "Exception", .type "BaseException", .type "object"] : List Value).contains b) := by
  obtain ⟨cd, h1, h2⟩ := R.cd
  unfold PySem.W.mroIn
  rw [h1, Option.bind_some, h2]
  rfl
theorem ref_beq {a b : Addr} (h : a ≠ b) : (Value.ref a == Value.ref b) = false := by
  rw [beq_eq_false_iff_ne]
  intro z
  exact h (Value.ref.inj z)
theorem exm_row {K : PySem.W.Frag} {C CM : Addr} (R : Row K CM C) (h1 : PySem.W.subIn K (.ref C) (.type "BaseException") = some true) : PySem.W.exmOne K (.ref C) (.ref C) = some true := by
  obtain ⟨cd, h2, _⟩ := R.cd
  have e1 : (PySem.W.subIn K (.ref C) (.type "BaseException") == some true) = true := by rw [h1] <;> rfl
  have e2 : ((PySem.W.clsIn K C).isSome && PySem.W.typeIn K (.ref C) == some (.type "type")) = true := by
    rw [h2, R.ty] <;> rfl
  show (if (PySem.W.subIn K (.ref C) (.type "BaseException") == some true) = true then (if ((PySem.W.clsIn K C).isSome && PySem.W.typeIn K (.ref C) == some (.type "type")) = true then PySem.W.subIn K (.ref C) (.ref C) else none) else none) = some true
  rw [if_pos e1, if_pos e2]
  show PySem.W.mroIn K C (.ref C) = _
  rw [row_mro R]
  congr 1
  simp

theorem exm_ne {K : PySem.W.Frag} {C B CM CM' : Addr} (R : Row K CM C) (RB : Row K CM' B) (h1 : PySem.W.subIn K (.ref B) (.type "BaseException") = some true) (n1 : B ≠ C) (n2 : CM ≠ B) : PySem.W.exmOne K (.ref C) (.ref B) = some false := by
  obtain ⟨cd, h2, _⟩ := RB.cd
  have e1 : (PySem.W.subIn K (.ref B) (.type "BaseException") == some true) = true := by rw [h1] <;> rfl
  have e2 : ((PySem.W.clsIn K B).isSome && PySem.W.typeIn K (.ref B) == some (.type "type")) = true := by
    rw [h2, RB.ty] <;> rfl
  show (if (PySem.W.subIn K (.ref B) (.type "BaseException") == some true) = true then (if ((PySem.W.clsIn K B).isSome && PySem.W.typeIn K (.ref B) == some (.type "type")) = true then PySem.W.subIn K (.ref C) (.ref B) else none) else none) = some false
  rw [if_pos e1, if_pos e2]
  show PySem.W.mroIn K C (.ref B) = _
  rw [row_mro R]
  congr 1
  simp [n1, Ne.symm n2]
/-! the end: the tables of the code objects come from the program's own top -/
theorem tabIn_mk {K : PySem.W.Frag} {x : Str} {f c P : Addr} {oc e : Value} {od dd : Option Addr} {fd : FuncData} {sl sm : Array (Option Value)} {vs : Array Value} (n : PySem.W.nsIn K mainGlobals x = some (some (.ref f))) (l : K.lookup f = some ⟨oc, od, .func fd, sl⟩)
    (hc : fd.code = .ref c) (lc : K.lookup c = some ⟨e, dd, .fields vs, sm⟩) (t : vs[11]? = some (.ref P)) : PySem.W.tabIn K x = some (c, P) := by
  unfold PySem.W.tabIn
  rw [n]
  dsimp only
  rw [l]
  dsimp only
  rw [hc]
  dsimp only
  rw [lc]
  dsimp only
  rw [t]
theorem no_tab {K : PySem.W.Frag} {h : Heap} {P : Addr} (X : K.In h) (hn : PySem.W.noTabs K = true) (hP : h.get? P = some (PySem.W.tabObj #[])) : K.lookup P = none := by
  cases e : K.lookup P with
  | none => rfl
  | some o =>
    have g := X P o e
    rw [hP] at g
    cases g
    have := List.all_eq_true.mp hn _ (PySem.W.mem_of_lookupK e)
    exact absurd (show false = true from this) Bool.false_ne_true
def LawAtG (law : PySem.W.OpenLaw) (w : World) (K : PySem.W.Frag) (deep most : Nat) (par : Str) (mg : Str → Option Value) (fa : Addr) (top : Heap) : Prop :=
  ∃ (fn : FuncData) (ts : List (Addr × Addr)) (word : Sp), (∀ q ∈ ts, top.get? q.2 = some (PySem.W.tabObj #[])) ∧ (∀ q ∈ ts, K.lookup q.2 = none) ∧
    (∀ q ∈ ts, PySem.W.CodeHd top q.1 q.2) ∧ (∀ (z : Shared) (v : Value), BindsTo z fn ⟨[v], []⟩ [(par, v)]) ∧
    (∀ (L : Hp) (b : Addr) (xs : List Int), xs.length ≤ most → (∀ i ∈ xs, Builtin.Int.intBits i ≤ 1048576) →
      (∀ q ∈ ts, L q.2 = some (.tbl #[])) → SqL K L b (xs.map V.int) → word [.ref b] L (fun r _ => r = .bl true) fun _ _ _ => False) ∧
    ∀ under : Heap, K.In under → under.Ns mainGlobals mg → (∀ q ∈ ts, LamX.TabB under mg q.1 q.2) → FnG law.prog w K mg under CX0 deep fa fn [par] word
theorem walkGT {l : PySem.W.OpenLaw} {n k : Nat} {q : Program} {loose : List Str} {XP : (Str → Option Value) → Heap → Prop} {YP : World → Heap → Prop} {d : DefRec} {K : Params → PySem.W.Frag} {x : Str} (ys : List Str) (ts : List Addr)
    (hn : l.most = some n) (hn2 : n ≤ sizeLine) (hdf : d.params.defaults = []) (room : Room k callerA) (hrec : ∀ y ∈ ys, ((recsOf q).find? fun e => e.name == y).isSome = true) (hY : ∀ (w : World) (h : Heap), YP w h → (K w.params).In h) (hZ : ∀ (w : World) (h : Heap), YP w h → ∀ P ∈ ts, h.get? P = some (PySem.W.tabObj #[]))
    (F : ∀ (w : World) (mg : Str → Option Value) (fa : Addr) (h : Heap), (K w.params).In h → h.Ns mainGlobals mg → mg d.name = some (.ref fa) → (∀ y c P, y ∈ ys → PySem.W.tabIn (K w.params) y = some (c, P) → PySem.W.CodeHd h c P ∧ h.get? P = some (PySem.W.tabObj #[])) → (∀ P ∈ ts, h.get? P = some (PySem.W.tabObj #[])) → LawAtG l w (K w.params) k n x mg fa h) :
    PySem.W.WalkO q loose XP YP l.row.toRowW d [] (fun f vs => PySem.call f vs) := by
  refine Att.attach_callB hn hdf fun w s₀ s₁ mg mb fa o pm cd doc a vs ns G Y ho hd hcd hmg hobj hints hlen hbits hg => ?_
  have KX := hY w _ Y
  have tabs : ∀ y c P, y ∈ ys → PySem.W.tabIn (K w.params) y = some (c, P) → PySem.W.CodeHd s₁.heap c P ∧ s₁.heap.get? P = some (PySem.W.tabObj #[]) := fun y c P hy ht => by
    cases e : (recsOf q).find? fun e => e.name == y with
    | none =>
      have := hrec y hy
      rw [e] at this
      cases this
    | some d' => exact PySem.W.tab_of G.T KX e ht
  obtain ⟨fd, cs, sp, hT, nT, C, hb, hsp, hF⟩ := F w mg fa _ KX G.T.g hmg tabs (hZ w _ Y)
  exact lawGT KX G.T.g G.T.b G.T.builtins G.T.nolimit hg hT nT C G.T.bmain hobj hints (Nat.le_trans hlen hn2) room hF hb (fun H hH hS => hsp H a ns hlen hbits hH hS)
theorem all_mk {l : PySem.W.OpenLaw} {w : World} {K : PySem.W.Frag} {h : Heap} {mg : Str → Option Value} {fa : Addr} {ts : List Addr} (X : K.In h) (G : h.Ns mainGlobals mg) (hfa : mg "law" = some (.ref fa))
    (tabs : ∀ y c P, y ∈ (["is_name", "number_in", "names_of", "numbers_of", "links_of", "law"] : List Str) → PySem.W.tabIn K y = some (c, P) → PySem.W.CodeHd h c P ∧ h.get? P = some (PySem.W.tabObj #[])) (tabm : ∀ P ∈ ts, h.get? P = some (PySem.W.tabObj #[]))
    {g_lines_of : Addr} {od_lines_of an_lines_of : Option Addr} {sl_lines_of : Array (Option Value)} {oc_lines_of kV_lines_of dc_lines_of pm_lines_of cd_lines_of ct_lines_of : Value}
    {g_is_name c_is_name P_is_name : Addr} {od_is_name an_is_name dd_is_name : Option Addr} {sl_is_name sm_is_name : Array (Option Value)} {vs_is_name : Array Value} {oc_is_name kV_is_name dc_is_name pm_is_name ct_is_name e_is_name : Value}
    {g_number_in c_number_in P_number_in : Addr} {od_number_in an_number_in dd_number_in : Option Addr} {sl_number_in sm_number_in : Array (Option Value)} {vs_number_in : Array Value} {oc_number_in kV_number_in dc_number_in pm_number_in ct_number_in e_number_in : Value}
    {g_names_of c_names_of P_names_of : Addr} {od_names_of an_names_of dd_names_of : Option Addr} {sl_names_of sm_names_of : Array (Option Value)} {vs_names_of : Array Value} {oc_names_of kV_names_of dc_names_of pm_names_of ct_names_of e_names_of : Value}
    {g_numbers_of c_numbers_of P_numbers_of : Addr} {od_numbers_of an_numbers_of dd_numbers_of : Option Addr} {sl_numbers_of sm_numbers_of : Array (Option Value)} {vs_numbers_of : Array Value} {oc_numbers_of kV_numbers_of dc_numbers_of pm_numbers_of ct_numbers_of e_numbers_of : Value}
    {g_links c_links P_links : Addr} {od_links an_links dd_links : Option Addr} {sl_links sm_links : Array (Option Value)} {vs_links : Array Value} {oc_links kV_links dc_links pm_links ct_links e_links : Value}
    {g_written : Addr} {od_written an_written : Option Addr} {sl_written : Array (Option Value)} {oc_written kV_written dc_written pm_written cd_written ct_written : Value}
    {g_w_mend : Addr} {od_w_mend an_w_mend : Option Addr} {sl_w_mend : Array (Option Value)} {oc_w_mend kV_w_mend dc_w_mend pm_w_mend cd_w_mend ct_w_mend : Value}
    {g_w_items : Addr} {od_w_items an_w_items : Option Addr} {sl_w_items : Array (Option Value)} {oc_w_items kV_w_items dc_w_items pm_w_items cd_w_items ct_w_items : Value}
    {g_l_pen : Addr} {od_l_pen an_l_pen : Option Addr} {sl_l_pen : Array (Option Value)} {oc_l_pen kV_l_pen dc_l_pen pm_l_pen cd_l_pen ct_l_pen : Value}
    {g_l_draw : Addr} {od_l_draw an_l_draw : Option Addr} {sl_l_draw : Array (Option Value)} {oc_l_draw kV_l_draw dc_l_draw pm_l_draw cd_l_draw ct_l_draw : Value}
    {g_l_pick : Addr} {od_l_pick an_l_pick : Option Addr} {sl_l_pick : Array (Option Value)} {oc_l_pick kV_l_pick dc_l_pick pm_l_pick cd_l_pick ct_l_pick : Value}
    {g_l_name : Addr} {od_l_name an_l_name : Option Addr} {sl_l_name : Array (Option Value)} {oc_l_name kV_l_name dc_l_name pm_l_name cd_l_name ct_l_name : Value}
    {g_l_names : Addr} {od_l_names an_l_names : Option Addr} {sl_l_names : Array (Option Value)} {oc_l_names kV_l_names dc_l_names pm_l_names cd_l_names ct_l_names : Value}
    {g_l_links : Addr} {od_l_links an_l_links : Option Addr} {sl_l_links : Array (Option Value)} {oc_l_links kV_l_links dc_l_links pm_l_links cd_l_links ct_l_links : Value}
    {g_l_mend : Addr} {od_l_mend an_l_mend : Option Addr} {sl_l_mend : Array (Option Value)} {oc_l_mend kV_l_mend dc_l_mend pm_l_mend cd_l_mend ct_l_mend : Value}
    {g_l_readers : Addr} {od_l_readers an_l_readers : Option Addr} {sl_l_readers : Array (Option Value)} {oc_l_readers kV_l_readers dc_l_readers pm_l_readers cd_l_readers ct_l_readers : Value}
    {g_l_store : Addr} {od_l_store an_l_store : Option Addr} {sl_l_store : Array (Option Value)} {oc_l_store kV_l_store dc_l_store pm_l_store cd_l_store ct_l_store : Value}
    {g_l_zeros : Addr} {od_l_zeros an_l_zeros : Option Addr} {sl_l_zeros : Array (Option Value)} {oc_l_zeros kV_l_zeros dc_l_zeros pm_l_zeros cd_l_zeros ct_l_zeros : Value}
    {g_l_lwords : Addr} {od_l_lwords an_l_lwords : Option Addr} {sl_l_lwords : Array (Option Value)} {oc_l_lwords kV_l_lwords dc_l_lwords pm_l_lwords cd_l_lwords ct_l_lwords : Value}
    {g_l_rows : Addr} {od_l_rows an_l_rows : Option Addr} {sl_l_rows : Array (Option Value)} {oc_l_rows kV_l_rows dc_l_rows pm_l_rows cd_l_rows ct_l_rows : Value}
    {g_l_text : Addr} {od_l_text an_l_text : Option Addr} {sl_l_text : Array (Option Value)} {oc_l_text kV_l_text dc_l_text pm_l_text cd_l_text ct_l_text : Value}
    {g_l_tf : Addr} {od_l_tf an_l_tf : Option Addr} {sl_l_tf : Array (Option Value)} {oc_l_tf kV_l_tf dc_l_tf pm_l_tf cd_l_tf ct_l_tf : Value}
    {g_l_ne : Addr} {od_l_ne an_l_ne : Option Addr} {sl_l_ne : Array (Option Value)} {oc_l_ne kV_l_ne dc_l_ne pm_l_ne cd_l_ne ct_l_ne : Value}
    {g_l_other : Addr} {od_l_other an_l_other : Option Addr} {sl_l_other : Array (Option Value)} {oc_l_other kV_l_other dc_l_other pm_l_other cd_l_other ct_l_other : Value}
    {g_law c_law P_law : Addr} {od_law an_law dd_law : Option Addr} {sl_law sm_law : Array (Option Value)} {vs_law : Array Value} {oc_law kV_law dc_law pm_law ct_law e_law : Value}
    {CE CB CN : Addr}
    {nmCB qCB : Str} {NCB : Addr} {bsCB : List Value} {snCB : List Str} {subCB : List Value} {abCB : Bool} {colCB : Option Bool} {ddCB : Option Addr} {m0CB m1CB m2CB m3CB m5CB : Option Value}
    {fCB : Addr} {odiCB aniCB : Option Addr} {sliCB : Array (Option Value)} {ociCB kViCB dciCB pmiCB cdiCB ctiCB : Value}
    {nmCN qCN : Str} {NCN : Addr} {bsCN : List Value} {snCN : List Str} {subCN : List Value} {abCN : Bool} {colCN : Option Bool} {ddCN : Option Addr} {m0CN m1CN m2CN m3CN m5CN : Option Value}
    {fCN : Addr} {odiCN aniCN : Option Addr} {sliCN : Array (Option Value)} {ociCN kViCN dciCN pmiCN cdiCN ctiCN : Value}
    {CL CM CD CS : Addr}
    {g_L0 : Addr} {od_L0 an_L0 : Option Addr} {sl_L0 : Array (Option Value)} {oc_L0 kV_L0 dc_L0 pm_L0 cd_L0 ct_L0 : Value}
    {g_L1 : Addr} {od_L1 an_L1 : Option Addr} {sl_L1 : Array (Option Value)} {oc_L1 kV_L1 dc_L1 pm_L1 cd_L1 ct_L1 : Value}
    {g_L3 : Addr} {od_L3 an_L3 : Option Addr} {sl_L3 : Array (Option Value)} {oc_L3 kV_L3 dc_L3 pm_L3 cd_L3 ct_L3 : Value}
    {g_L4 : Addr} {od_L4 an_L4 : Option Addr} {sl_L4 : Array (Option Value)} {oc_L4 kV_L4 dc_L4 pm_L4 cd_L4 ct_L4 : Value}
    {g_L5 : Addr} {od_L5 an_L5 : Option Addr} {sl_L5 : Array (Option Value)} {oc_L5 kV_L5 dc_L5 pm_L5 cd_L5 ct_L5 : Value}
    {g_L6 : Addr} {od_L6 an_L6 : Option Addr} {sl_L6 : Array (Option Value)} {oc_L6 kV_L6 dc_L6 pm_L6 cd_L6 ct_L6 : Value}
    {g_L7 : Addr} {od_L7 an_L7 : Option Addr} {sl_L7 : Array (Option Value)} {oc_L7 kV_L7 dc_L7 pm_L7 cd_L7 ct_L7 : Value}
    {g_L8 : Addr} {od_L8 an_L8 : Option Addr} {sl_L8 : Array (Option Value)} {oc_L8 kV_L8 dc_L8 pm_L8 cd_L8 ct_L8 : Value}
    {g_M0 : Addr} {od_M0 an_M0 : Option Addr} {sl_M0 : Array (Option Value)} {oc_M0 kV_M0 dc_M0 pm_M0 cd_M0 ct_M0 : Value}
    {g_D0 : Addr} {od_D0 an_D0 : Option Addr} {sl_D0 : Array (Option Value)} {oc_D0 kV_D0 dc_D0 pm_D0 cd_D0 ct_D0 : Value}
    {g_D1 : Addr} {od_D1 an_D1 : Option Addr} {sl_D1 : Array (Option Value)} {oc_D1 kV_D1 dc_D1 pm_D1 cd_D1 ct_D1 : Value}
    {g_D2 : Addr} {od_D2 an_D2 : Option Addr} {sl_D2 : Array (Option Value)} {oc_D2 kV_D2 dc_D2 pm_D2 cd_D2 ct_D2 : Value}
    {g_D3 : Addr} {od_D3 an_D3 : Option Addr} {sl_D3 : Array (Option Value)} {oc_D3 kV_D3 dc_D3 pm_D3 cd_D3 ct_D3 : Value}
    {g_D4 : Addr} {od_D4 an_D4 : Option Addr} {sl_D4 : Array (Option Value)} {oc_D4 kV_D4 dc_D4 pm_D4 cd_D4 ct_D4 : Value}
    {g_D5 : Addr} {od_D5 an_D5 : Option Addr} {sl_D5 : Array (Option Value)} {oc_D5 kV_D5 dc_D5 pm_D5 cd_D5 ct_D5 : Value}
    {g_D6 : Addr} {od_D6 an_D6 : Option Addr} {sl_D6 : Array (Option Value)} {oc_D6 kV_D6 dc_D6 pm_D6 cd_D6 ct_D6 : Value}
    {g_D7 : Addr} {od_D7 an_D7 : Option Addr} {sl_D7 : Array (Option Value)} {oc_D7 kV_D7 dc_D7 pm_D7 cd_D7 ct_D7 : Value}
    {g_D8 : Addr} {od_D8 an_D8 : Option Addr} {sl_D8 : Array (Option Value)} {oc_D8 kV_D8 dc_D8 pm_D8 cd_D8 ct_D8 : Value}
    {g_D9 c_D9 P_D9 : Addr} {od_D9 an_D9 dd_D9 : Option Addr} {sl_D9 sm_D9 : Array (Option Value)} {vs_D9 : Array Value} {oc_D9 kV_D9 dc_D9 pm_D9 ct_D9 e_D9 : Value}
    {g_D10 : Addr} {od_D10 an_D10 : Option Addr} {sl_D10 : Array (Option Value)} {oc_D10 kV_D10 dc_D10 pm_D10 cd_D10 ct_D10 : Value}
    {g_D11 : Addr} {od_D11 an_D11 : Option Addr} {sl_D11 : Array (Option Value)} {oc_D11 kV_D11 dc_D11 pm_D11 cd_D11 ct_D11 : Value}
    {g_D12 : Addr} {od_D12 an_D12 : Option Addr} {sl_D12 : Array (Option Value)} {oc_D12 kV_D12 dc_D12 pm_D12 cd_D12 ct_D12 : Value}
    {g_D13 : Addr} {od_D13 an_D13 : Option Addr} {sl_D13 : Array (Option Value)} {oc_D13 kV_D13 dc_D13 pm_D13 cd_D13 ct_D13 : Value}
    {g_S0 : Addr} {od_S0 an_S0 : Option Addr} {sl_S0 : Array (Option Value)} {oc_S0 kV_S0 dc_S0 pm_S0 cd_S0 ct_S0 : Value}
    {g_S1 : Addr} {od_S1 an_S1 : Option Addr} {sl_S1 : Array (Option Value)} {oc_S1 kV_S1 dc_S1 pm_S1 cd_S1 ct_S1 : Value}
    {g_S2 : Addr} {od_S2 an_S2 : Option Addr} {sl_S2 : Array (Option Value)} {oc_S2 kV_S2 dc_S2 pm_S2 cd_S2 ct_S2 : Value}
    {tL tD tN tU tM tK : Tok}
    (n_lines_of : PySem.W.nsIn K mainGlobals "lines_of" = some (some (.ref g_lines_of)))
    (l_lines_of : K.lookup g_lines_of = some ⟨oc_lines_of, od_lines_of, .func (PySem.W.fnOf "lines_of" "lines_of" (defArgs s_lines_of) (defBody s_lines_of) (defScope s_lines_of) .none kV_lines_of dc_lines_of pm_lines_of an_lines_of cd_lines_of ct_lines_of), sl_lines_of⟩)
    (c_lines_of_ : PySem.W.codeIn K cd_lines_of "lines_of" = true)
    (k_lines_of : PySem.W.keepIn K (.ref g_lines_of) = true)
    (n_is_name : PySem.W.nsIn K mainGlobals "is_name" = some (some (.ref g_is_name)))
    (l_is_name : K.lookup g_is_name = some ⟨oc_is_name, od_is_name, .func (PySem.W.fnOf "is_name" "is_name" (defArgs s_is_name) (defBody s_is_name) (defScope s_is_name) .none kV_is_name dc_is_name pm_is_name an_is_name (.ref c_is_name) ct_is_name), sl_is_name⟩)
    (c_is_name_ : PySem.W.codeIn K (.ref c_is_name) "is_name" = true)
    (k_is_name : PySem.W.keepIn K (.ref g_is_name) = true)
    (lc_is_name : K.lookup c_is_name = some ⟨e_is_name, dd_is_name, .fields vs_is_name, sm_is_name⟩)
    (tp_is_name : vs_is_name[11]? = some (.ref P_is_name))
    (n_number_in : PySem.W.nsIn K mainGlobals "number_in" = some (some (.ref g_number_in)))
    (l_number_in : K.lookup g_number_in = some ⟨oc_number_in, od_number_in, .func (PySem.W.fnOf "number_in" "number_in" (defArgs s_number_in) (defBody s_number_in) (defScope s_number_in) .none kV_number_in dc_number_in pm_number_in an_number_in (.ref c_number_in) ct_number_in), sl_number_in⟩)
    (c_number_in_ : PySem.W.codeIn K (.ref c_number_in) "number_in" = true)
    (k_number_in : PySem.W.keepIn K (.ref g_number_in) = true)
    (lc_number_in : K.lookup c_number_in = some ⟨e_number_in, dd_number_in, .fields vs_number_in, sm_number_in⟩)
    (tp_number_in : vs_number_in[11]? = some (.ref P_number_in))
    (n_names_of : PySem.W.nsIn K mainGlobals "names_of" = some (some (.ref g_names_of)))
    (l_names_of : K.lookup g_names_of = some ⟨oc_names_of, od_names_of, .func (PySem.W.fnOf "names_of" "names_of" (defArgs s_names_of) (defBody s_names_of) (defScope s_names_of) .none kV_names_of dc_names_of pm_names_of an_names_of (.ref c_names_of) ct_names_of), sl_names_of⟩)
    (c_names_of_ : PySem.W.codeIn K (.ref c_names_of) "names_of" = true)
    (k_names_of : PySem.W.keepIn K (.ref g_names_of) = true)
    (lc_names_of : K.lookup c_names_of = some ⟨e_names_of, dd_names_of, .fields vs_names_of, sm_names_of⟩)
    (tp_names_of : vs_names_of[11]? = some (.ref P_names_of))
    (n_numbers_of : PySem.W.nsIn K mainGlobals "numbers_of" = some (some (.ref g_numbers_of)))
    (l_numbers_of : K.lookup g_numbers_of = some ⟨oc_numbers_of, od_numbers_of, .func (PySem.W.fnOf "numbers_of" "numbers_of" (defArgs s_numbers_of) (defBody s_numbers_of) (defScope s_numbers_of) .none kV_numbers_of dc_numbers_of pm_numbers_of an_numbers_of (.ref c_numbers_of) ct_numbers_of), sl_numbers_of⟩)
    (c_numbers_of_ : PySem.W.codeIn K (.ref c_numbers_of) "numbers_of" = true)
    (k_numbers_of : PySem.W.keepIn K (.ref g_numbers_of) = true)
    (lc_numbers_of : K.lookup c_numbers_of = some ⟨e_numbers_of, dd_numbers_of, .fields vs_numbers_of, sm_numbers_of⟩)
    (tp_numbers_of : vs_numbers_of[11]? = some (.ref P_numbers_of))
    (n_links : PySem.W.nsIn K mainGlobals "links_of" = some (some (.ref g_links)))
    (l_links : K.lookup g_links = some ⟨oc_links, od_links, .func (PySem.W.fnOf "links_of" "links_of" (defArgs s_links) (defBody s_links) (defScope s_links) .none kV_links dc_links pm_links an_links (.ref c_links) ct_links), sl_links⟩)
    (c_links_ : PySem.W.codeIn K (.ref c_links) "links_of" = true)
    (k_links : PySem.W.keepIn K (.ref g_links) = true)
    (lc_links : K.lookup c_links = some ⟨e_links, dd_links, .fields vs_links, sm_links⟩)
    (tp_links : vs_links[11]? = some (.ref P_links))
    (n_written : PySem.W.nsIn K mainGlobals "written" = some (some (.ref g_written)))
    (l_written : K.lookup g_written = some ⟨oc_written, od_written, .func (PySem.W.fnOf "written" "written" (defArgs s_written) (defBody s_written) (defScope s_written) .none kV_written dc_written pm_written an_written cd_written ct_written), sl_written⟩)
    (c_written_ : PySem.W.codeIn K cd_written "written" = true)
    (k_written : PySem.W.keepIn K (.ref g_written) = true)
    (n_w_mend : PySem.W.nsIn K mainGlobals "written_mend" = some (some (.ref g_w_mend)))
    (l_w_mend : K.lookup g_w_mend = some ⟨oc_w_mend, od_w_mend, .func (PySem.W.fnOf "written_mend" "written_mend" (defArgs s_w_mend) (defBody s_w_mend) (defScope s_w_mend) .none kV_w_mend dc_w_mend pm_w_mend an_w_mend cd_w_mend ct_w_mend), sl_w_mend⟩)
    (c_w_mend_ : PySem.W.codeIn K cd_w_mend "written_mend" = true)
    (k_w_mend : PySem.W.keepIn K (.ref g_w_mend) = true)
    (n_w_items : PySem.W.nsIn K mainGlobals "written_items" = some (some (.ref g_w_items)))
    (l_w_items : K.lookup g_w_items = some ⟨oc_w_items, od_w_items, .func (PySem.W.fnOf "written_items" "written_items" (defArgs s_w_items) (defBody s_w_items) (defScope s_w_items) .none kV_w_items dc_w_items pm_w_items an_w_items cd_w_items ct_w_items), sl_w_items⟩)
    (c_w_items_ : PySem.W.codeIn K cd_w_items "written_items" = true)
    (k_w_items : PySem.W.keepIn K (.ref g_w_items) = true)
    (n_l_pen : PySem.W.nsIn K mainGlobals "_law_pen" = some (some (.ref g_l_pen)))
    (l_l_pen : K.lookup g_l_pen = some ⟨oc_l_pen, od_l_pen, .func (PySem.W.fnOf "_law_pen" "_law_pen" (defArgs s_l_pen) (defBody s_l_pen) (defScope s_l_pen) .none kV_l_pen dc_l_pen pm_l_pen an_l_pen cd_l_pen ct_l_pen), sl_l_pen⟩)
    (c_l_pen_ : PySem.W.codeIn K cd_l_pen "_law_pen" = true)
    (k_l_pen : PySem.W.keepIn K (.ref g_l_pen) = true)
    (n_l_draw : PySem.W.nsIn K mainGlobals "_law_draw" = some (some (.ref g_l_draw)))
    (l_l_draw : K.lookup g_l_draw = some ⟨oc_l_draw, od_l_draw, .func (PySem.W.fnOf "_law_draw" "_law_draw" (defArgs s_l_draw) (defBody s_l_draw) (defScope s_l_draw) .none kV_l_draw dc_l_draw pm_l_draw an_l_draw cd_l_draw ct_l_draw), sl_l_draw⟩)
    (c_l_draw_ : PySem.W.codeIn K cd_l_draw "_law_draw" = true)
    (k_l_draw : PySem.W.keepIn K (.ref g_l_draw) = true)
    (n_l_pick : PySem.W.nsIn K mainGlobals "_law_pick" = some (some (.ref g_l_pick)))
    (l_l_pick : K.lookup g_l_pick = some ⟨oc_l_pick, od_l_pick, .func (PySem.W.fnOf "_law_pick" "_law_pick" (defArgs s_l_pick) (defBody s_l_pick) (defScope s_l_pick) .none kV_l_pick dc_l_pick pm_l_pick an_l_pick cd_l_pick ct_l_pick), sl_l_pick⟩)
    (c_l_pick_ : PySem.W.codeIn K cd_l_pick "_law_pick" = true)
    (k_l_pick : PySem.W.keepIn K (.ref g_l_pick) = true)
    (n_l_name : PySem.W.nsIn K mainGlobals "_law_name" = some (some (.ref g_l_name)))
    (l_l_name : K.lookup g_l_name = some ⟨oc_l_name, od_l_name, .func (PySem.W.fnOf "_law_name" "_law_name" (defArgs s_l_name) (defBody s_l_name) (defScope s_l_name) .none kV_l_name dc_l_name pm_l_name an_l_name cd_l_name ct_l_name), sl_l_name⟩)
    (c_l_name_ : PySem.W.codeIn K cd_l_name "_law_name" = true)
    (k_l_name : PySem.W.keepIn K (.ref g_l_name) = true)
    (n_l_names : PySem.W.nsIn K mainGlobals "_law_names" = some (some (.ref g_l_names)))
    (l_l_names : K.lookup g_l_names = some ⟨oc_l_names, od_l_names, .func (PySem.W.fnOf "_law_names" "_law_names" (defArgs s_l_names) (defBody s_l_names) (defScope s_l_names) .none kV_l_names dc_l_names pm_l_names an_l_names cd_l_names ct_l_names), sl_l_names⟩)
    (c_l_names_ : PySem.W.codeIn K cd_l_names "_law_names" = true)
    (k_l_names : PySem.W.keepIn K (.ref g_l_names) = true)
    (n_l_links : PySem.W.nsIn K mainGlobals "_law_some_links" = some (some (.ref g_l_links)))
    (l_l_links : K.lookup g_l_links = some ⟨oc_l_links, od_l_links, .func (PySem.W.fnOf "_law_some_links" "_law_some_links" (defArgs s_l_links) (defBody s_l_links) (defScope s_l_links) .none kV_l_links dc_l_links pm_l_links an_l_links cd_l_links ct_l_links), sl_l_links⟩)
    (c_l_links_ : PySem.W.codeIn K cd_l_links "_law_some_links" = true)
    (k_l_links : PySem.W.keepIn K (.ref g_l_links) = true)
    (n_l_mend : PySem.W.nsIn K mainGlobals "_law_some_mend" = some (some (.ref g_l_mend)))
    (l_l_mend : K.lookup g_l_mend = some ⟨oc_l_mend, od_l_mend, .func (PySem.W.fnOf "_law_some_mend" "_law_some_mend" (defArgs s_l_mend) (defBody s_l_mend) (defScope s_l_mend) .none kV_l_mend dc_l_mend pm_l_mend an_l_mend cd_l_mend ct_l_mend), sl_l_mend⟩)
    (c_l_mend_ : PySem.W.codeIn K cd_l_mend "_law_some_mend" = true)
    (k_l_mend : PySem.W.keepIn K (.ref g_l_mend) = true)
    (n_l_readers : PySem.W.nsIn K mainGlobals "_law_some_readers" = some (some (.ref g_l_readers)))
    (l_l_readers : K.lookup g_l_readers = some ⟨oc_l_readers, od_l_readers, .func (PySem.W.fnOf "_law_some_readers" "_law_some_readers" (defArgs s_l_readers) (defBody s_l_readers) (defScope s_l_readers) .none kV_l_readers dc_l_readers pm_l_readers an_l_readers cd_l_readers ct_l_readers), sl_l_readers⟩)
    (c_l_readers_ : PySem.W.codeIn K cd_l_readers "_law_some_readers" = true)
    (k_l_readers : PySem.W.keepIn K (.ref g_l_readers) = true)
    (n_l_store : PySem.W.nsIn K mainGlobals "_law_any_store" = some (some (.ref g_l_store)))
    (l_l_store : K.lookup g_l_store = some ⟨oc_l_store, od_l_store, .func (PySem.W.fnOf "_law_any_store" "_law_any_store" (defArgs s_l_store) (defBody s_l_store) (defScope s_l_store) .none kV_l_store dc_l_store pm_l_store an_l_store cd_l_store ct_l_store), sl_l_store⟩)
    (c_l_store_ : PySem.W.codeIn K cd_l_store "_law_any_store" = true)
    (k_l_store : PySem.W.keepIn K (.ref g_l_store) = true)
    (n_l_zeros : PySem.W.nsIn K mainGlobals "_law_zeros" = some (some (.ref g_l_zeros)))
    (l_l_zeros : K.lookup g_l_zeros = some ⟨oc_l_zeros, od_l_zeros, .func (PySem.W.fnOf "_law_zeros" "_law_zeros" (defArgs s_l_zeros) (defBody s_l_zeros) (defScope s_l_zeros) .none kV_l_zeros dc_l_zeros pm_l_zeros an_l_zeros cd_l_zeros ct_l_zeros), sl_l_zeros⟩)
    (c_l_zeros_ : PySem.W.codeIn K cd_l_zeros "_law_zeros" = true)
    (k_l_zeros : PySem.W.keepIn K (.ref g_l_zeros) = true)
    (n_l_lwords : PySem.W.nsIn K mainGlobals "_law_links_words" = some (some (.ref g_l_lwords)))
    (l_l_lwords : K.lookup g_l_lwords = some ⟨oc_l_lwords, od_l_lwords, .func (PySem.W.fnOf "_law_links_words" "_law_links_words" (defArgs s_l_lwords) (defBody s_l_lwords) (defScope s_l_lwords) .none kV_l_lwords dc_l_lwords pm_l_lwords an_l_lwords cd_l_lwords ct_l_lwords), sl_l_lwords⟩)
    (c_l_lwords_ : PySem.W.codeIn K cd_l_lwords "_law_links_words" = true)
    (k_l_lwords : PySem.W.keepIn K (.ref g_l_lwords) = true)
    (n_l_rows : PySem.W.nsIn K mainGlobals "_law_store_rows" = some (some (.ref g_l_rows)))
    (l_l_rows : K.lookup g_l_rows = some ⟨oc_l_rows, od_l_rows, .func (PySem.W.fnOf "_law_store_rows" "_law_store_rows" (defArgs s_l_rows) (defBody s_l_rows) (defScope s_l_rows) .none kV_l_rows dc_l_rows pm_l_rows an_l_rows cd_l_rows ct_l_rows), sl_l_rows⟩)
    (c_l_rows_ : PySem.W.codeIn K cd_l_rows "_law_store_rows" = true)
    (k_l_rows : PySem.W.keepIn K (.ref g_l_rows) = true)
    (n_l_text : PySem.W.nsIn K mainGlobals "_law_any_text" = some (some (.ref g_l_text)))
    (l_l_text : K.lookup g_l_text = some ⟨oc_l_text, od_l_text, .func (PySem.W.fnOf "_law_any_text" "_law_any_text" (defArgs s_l_text) (defBody s_l_text) (defScope s_l_text) .none kV_l_text dc_l_text pm_l_text an_l_text cd_l_text ct_l_text), sl_l_text⟩)
    (c_l_text_ : PySem.W.codeIn K cd_l_text "_law_any_text" = true)
    (k_l_text : PySem.W.keepIn K (.ref g_l_text) = true)
    (n_l_tf : PySem.W.nsIn K mainGlobals "_law_told_fields" = some (some (.ref g_l_tf)))
    (l_l_tf : K.lookup g_l_tf = some ⟨oc_l_tf, od_l_tf, .func (PySem.W.fnOf "_law_told_fields" "_law_told_fields" (defArgs s_l_tf) (defBody s_l_tf) (defScope s_l_tf) .none kV_l_tf dc_l_tf pm_l_tf an_l_tf cd_l_tf ct_l_tf), sl_l_tf⟩)
    (c_l_tf_ : PySem.W.codeIn K cd_l_tf "_law_told_fields" = true)
    (k_l_tf : PySem.W.keepIn K (.ref g_l_tf) = true)
    (n_l_ne : PySem.W.nsIn K mainGlobals "_law_name_error" = some (some (.ref g_l_ne)))
    (l_l_ne : K.lookup g_l_ne = some ⟨oc_l_ne, od_l_ne, .func (PySem.W.fnOf "_law_name_error" "_law_name_error" (defArgs s_l_ne) (defBody s_l_ne) (defScope s_l_ne) .none kV_l_ne dc_l_ne pm_l_ne an_l_ne cd_l_ne ct_l_ne), sl_l_ne⟩)
    (c_l_ne_ : PySem.W.codeIn K cd_l_ne "_law_name_error" = true)
    (k_l_ne : PySem.W.keepIn K (.ref g_l_ne) = true)
    (n_l_other : PySem.W.nsIn K mainGlobals "_law_other_store" = some (some (.ref g_l_other)))
    (l_l_other : K.lookup g_l_other = some ⟨oc_l_other, od_l_other, .func (PySem.W.fnOf "_law_other_store" "_law_other_store" (defArgs s_l_other) (defBody s_l_other) (defScope s_l_other) .none kV_l_other dc_l_other pm_l_other an_l_other cd_l_other ct_l_other), sl_l_other⟩)
    (c_l_other_ : PySem.W.codeIn K cd_l_other "_law_other_store" = true)
    (k_l_other : PySem.W.keepIn K (.ref g_l_other) = true)
    (n_law : PySem.W.nsIn K mainGlobals "law" = some (some (.ref g_law)))
    (l_law : K.lookup g_law = some ⟨oc_law, od_law, .func (PySem.W.fnOf "law" "law" (defArgs s_law) (defBody s_law) (defScope s_law) .none kV_law dc_law pm_law an_law (.ref c_law) ct_law), sl_law⟩)
    (c_law_ : PySem.W.codeIn K (.ref c_law) "law" = true)
    (k_law : PySem.W.keepIn K (.ref g_law) = true)
    (lc_law : K.lookup c_law = some ⟨e_law, dd_law, .fields vs_law, sm_law⟩)
    (tp_law : vs_law[11]? = some (.ref P_law))
    (aC_CL : PySem.W.nsIn K mainGlobals "Line" = some (some (.ref CL)))
    (aC_CM : PySem.W.nsIn K mainGlobals "Mend" = some (some (.ref CM)))
    (aC_CD : PySem.W.nsIn K mainGlobals "Draft" = some (some (.ref CD)))
    (aC_CS : PySem.W.nsIn K mainGlobals "Store" = some (some (.ref CS)))
    (a_L0 : PySem.W.findIn K (.ref CL) "__init__" = some (some (.ref g_L0)))
    (i_L0 : PySem.W.isFn K (.ref g_L0) = true)
    (l_L0 : K.lookup g_L0 = some ⟨oc_L0, od_L0, .func (PySem.W.fnOf "__init__" "Line.__init__" (defArgs (s_Line 0)) (defBody (s_Line 0)) (defScope (s_Line 0)) .none kV_L0 dc_L0 pm_L0 an_L0 cd_L0 ct_L0), sl_L0⟩)
    (c_L0_ : PySem.W.codeIn K cd_L0 "Line.__init__" = true)
    (k_L0 : PySem.W.keepIn K (.ref g_L0) = true)
    (a_L1 : PySem.W.findIn K (.ref CL) "take" = some (some (.ref g_L1)))
    (i_L1 : PySem.W.isFn K (.ref g_L1) = true)
    (l_L1 : K.lookup g_L1 = some ⟨oc_L1, od_L1, .func (PySem.W.fnOf "take" "Line.take" (defArgs (s_Line 1)) (defBody (s_Line 1)) (defScope (s_Line 1)) .none kV_L1 dc_L1 pm_L1 an_L1 cd_L1 ct_L1), sl_L1⟩)
    (c_L1_ : PySem.W.codeIn K cd_L1 "Line.take" = true)
    (k_L1 : PySem.W.keepIn K (.ref g_L1) = true)
    (a_L3 : PySem.W.findIn K (.ref CL) "take_this" = some (some (.ref g_L3)))
    (i_L3 : PySem.W.isFn K (.ref g_L3) = true)
    (l_L3 : K.lookup g_L3 = some ⟨oc_L3, od_L3, .func (PySem.W.fnOf "take_this" "Line.take_this" (defArgs (s_Line 3)) (defBody (s_Line 3)) (defScope (s_Line 3)) .none kV_L3 dc_L3 pm_L3 an_L3 cd_L3 ct_L3), sl_L3⟩)
    (c_L3_ : PySem.W.codeIn K cd_L3 "Line.take_this" = true)
    (k_L3 : PySem.W.keepIn K (.ref g_L3) = true)
    (a_L4 : PySem.W.findIn K (.ref CL) "take_name" = some (some (.ref g_L4)))
    (i_L4 : PySem.W.isFn K (.ref g_L4) = true)
    (l_L4 : K.lookup g_L4 = some ⟨oc_L4, od_L4, .func (PySem.W.fnOf "take_name" "Line.take_name" (defArgs (s_Line 4)) (defBody (s_Line 4)) (defScope (s_Line 4)) .none kV_L4 dc_L4 pm_L4 an_L4 cd_L4 ct_L4), sl_L4⟩)
    (c_L4_ : PySem.W.codeIn K cd_L4 "Line.take_name" = true)
    (k_L4 : PySem.W.keepIn K (.ref g_L4) = true)
    (a_L5 : PySem.W.findIn K (.ref CL) "take_number" = some (some (.ref g_L5)))
    (i_L5 : PySem.W.isFn K (.ref g_L5) = true)
    (l_L5 : K.lookup g_L5 = some ⟨oc_L5, od_L5, .func (PySem.W.fnOf "take_number" "Line.take_number" (defArgs (s_Line 5)) (defBody (s_Line 5)) (defScope (s_Line 5)) .none kV_L5 dc_L5 pm_L5 an_L5 cd_L5 ct_L5), sl_L5⟩)
    (c_L5_ : PySem.W.codeIn K cd_L5 "Line.take_number" = true)
    (k_L5 : PySem.W.keepIn K (.ref g_L5) = true)
    (a_L6 : PySem.W.findIn K (.ref CL) "is_over" = some (some (.ref g_L6)))
    (i_L6 : PySem.W.isFn K (.ref g_L6) = true)
    (l_L6 : K.lookup g_L6 = some ⟨oc_L6, od_L6, .func (PySem.W.fnOf "is_over" "Line.is_over" (defArgs (s_Line 6)) (defBody (s_Line 6)) (defScope (s_Line 6)) .none kV_L6 dc_L6 pm_L6 an_L6 cd_L6 ct_L6), sl_L6⟩)
    (c_L6_ : PySem.W.codeIn K cd_L6 "Line.is_over" = true)
    (k_L6 : PySem.W.keepIn K (.ref g_L6) = true)
    (a_L7 : PySem.W.findIn K (.ref CL) "is_next" = some (some (.ref g_L7)))
    (i_L7 : PySem.W.isFn K (.ref g_L7) = true)
    (l_L7 : K.lookup g_L7 = some ⟨oc_L7, od_L7, .func (PySem.W.fnOf "is_next" "Line.is_next" (defArgs (s_Line 7)) (defBody (s_Line 7)) (defScope (s_Line 7)) .none kV_L7 dc_L7 pm_L7 an_L7 cd_L7 ct_L7), sl_L7⟩)
    (c_L7_ : PySem.W.codeIn K cd_L7 "Line.is_next" = true)
    (k_L7 : PySem.W.keepIn K (.ref g_L7) = true)
    (a_L8 : PySem.W.findIn K (.ref CL) "finish" = some (some (.ref g_L8)))
    (i_L8 : PySem.W.isFn K (.ref g_L8) = true)
    (l_L8 : K.lookup g_L8 = some ⟨oc_L8, od_L8, .func (PySem.W.fnOf "finish" "Line.finish" (defArgs (s_Line 8)) (defBody (s_Line 8)) (defScope (s_Line 8)) .none kV_L8 dc_L8 pm_L8 an_L8 cd_L8 ct_L8), sl_L8⟩)
    (c_L8_ : PySem.W.codeIn K cd_L8 "Line.finish" = true)
    (k_L8 : PySem.W.keepIn K (.ref g_L8) = true)
    (a_M0 : PySem.W.findIn K (.ref CM) "__init__" = some (some (.ref g_M0)))
    (i_M0 : PySem.W.isFn K (.ref g_M0) = true)
    (l_M0 : K.lookup g_M0 = some ⟨oc_M0, od_M0, .func (PySem.W.fnOf "__init__" "Mend.__init__" (defArgs (s_Mend 0)) (defBody (s_Mend 0)) (defScope (s_Mend 0)) .none kV_M0 dc_M0 pm_M0 an_M0 cd_M0 ct_M0), sl_M0⟩)
    (c_M0_ : PySem.W.codeIn K cd_M0 "Mend.__init__" = true)
    (k_M0 : PySem.W.keepIn K (.ref g_M0) = true)
    (a_D0 : PySem.W.findIn K (.ref CD) "__init__" = some (some (.ref g_D0)))
    (i_D0 : PySem.W.isFn K (.ref g_D0) = true)
    (l_D0 : K.lookup g_D0 = some ⟨oc_D0, od_D0, .func (PySem.W.fnOf "__init__" "Draft.__init__" (defArgs (s_Draft 0)) (defBody (s_Draft 0)) (defScope (s_Draft 0)) .none kV_D0 dc_D0 pm_D0 an_D0 cd_D0 ct_D0), sl_D0⟩)
    (c_D0_ : PySem.W.codeIn K cd_D0 "Draft.__init__" = true)
    (k_D0 : PySem.W.keepIn K (.ref g_D0) = true)
    (a_D1 : PySem.W.findIn K (.ref CD) "read" = some (some (.ref g_D1)))
    (i_D1 : PySem.W.isFn K (.ref g_D1) = true)
    (l_D1 : K.lookup g_D1 = some ⟨oc_D1, od_D1, .func (PySem.W.fnOf "read" "Draft.read" (defArgs (s_Draft 1)) (defBody (s_Draft 1)) (defScope (s_Draft 1)) .none kV_D1 dc_D1 pm_D1 an_D1 cd_D1 ct_D1), sl_D1⟩)
    (c_D1_ : PySem.W.codeIn K cd_D1 "Draft.read" = true)
    (k_D1 : PySem.W.keepIn K (.ref g_D1) = true)
    (a_D2 : PySem.W.findIn K (.ref CD) "stands" = some (some (.ref g_D2)))
    (i_D2 : PySem.W.isFn K (.ref g_D2) = true)
    (l_D2 : K.lookup g_D2 = some ⟨oc_D2, od_D2, .func (PySem.W.fnOf "stands" "Draft.stands" (defArgs (s_Draft 2)) (defBody (s_Draft 2)) (defScope (s_Draft 2)) .none kV_D2 dc_D2 pm_D2 an_D2 cd_D2 ct_D2), sl_D2⟩)
    (c_D2_ : PySem.W.codeIn K cd_D2 "Draft.stands" = true)
    (k_D2 : PySem.W.keepIn K (.ref g_D2) = true)
    (a_D3 : PySem.W.findIn K (.ref CD) "may_have_node" = some (some (.ref g_D3)))
    (i_D3 : PySem.W.isFn K (.ref g_D3) = true)
    (l_D3 : K.lookup g_D3 = some ⟨oc_D3, od_D3, .func (PySem.W.fnOf "may_have_node" "Draft.may_have_node" (defArgs (s_Draft 3)) (defBody (s_Draft 3)) (defScope (s_Draft 3)) .none kV_D3 dc_D3 pm_D3 an_D3 cd_D3 ct_D3), sl_D3⟩)
    (c_D3_ : PySem.W.codeIn K cd_D3 "Draft.may_have_node" = true)
    (k_D3 : PySem.W.keepIn K (.ref g_D3) = true)
    (a_D4 : PySem.W.findIn K (.ref CD) "may_have_mend" = some (some (.ref g_D4)))
    (i_D4 : PySem.W.isFn K (.ref g_D4) = true)
    (l_D4 : K.lookup g_D4 = some ⟨oc_D4, od_D4, .func (PySem.W.fnOf "may_have_mend" "Draft.may_have_mend" (defArgs (s_Draft 4)) (defBody (s_Draft 4)) (defScope (s_Draft 4)) .none kV_D4 dc_D4 pm_D4 an_D4 cd_D4 ct_D4), sl_D4⟩)
    (c_D4_ : PySem.W.codeIn K cd_D4 "Draft.may_have_mend" = true)
    (k_D4 : PySem.W.keepIn K (.ref g_D4) = true)
    (a_D5 : PySem.W.findIn K (.ref CD) "read_node" = some (some (.ref g_D5)))
    (i_D5 : PySem.W.isFn K (.ref g_D5) = true)
    (l_D5 : K.lookup g_D5 = some ⟨oc_D5, od_D5, .func (PySem.W.fnOf "read_node" "Draft.read_node" (defArgs (s_Draft 5)) (defBody (s_Draft 5)) (defScope (s_Draft 5)) .none kV_D5 dc_D5 pm_D5 an_D5 cd_D5 ct_D5), sl_D5⟩)
    (c_D5_ : PySem.W.codeIn K cd_D5 "Draft.read_node" = true)
    (k_D5 : PySem.W.keepIn K (.ref g_D5) = true)
    (a_D6 : PySem.W.findIn K (.ref CD) "read_mend" = some (some (.ref g_D6)))
    (i_D6 : PySem.W.isFn K (.ref g_D6) = true)
    (l_D6 : K.lookup g_D6 = some ⟨oc_D6, od_D6, .func (PySem.W.fnOf "read_mend" "Draft.read_mend" (defArgs (s_Draft 6)) (defBody (s_Draft 6)) (defScope (s_Draft 6)) .none kV_D6 dc_D6 pm_D6 an_D6 cd_D6 ct_D6), sl_D6⟩)
    (c_D6_ : PySem.W.codeIn K cd_D6 "Draft.read_mend" = true)
    (k_D6 : PySem.W.keepIn K (.ref g_D6) = true)
    (a_D7 : PySem.W.findIn K (.ref CD) "read_pair" = some (some (.ref g_D7)))
    (i_D7 : PySem.W.isFn K (.ref g_D7) = true)
    (l_D7 : K.lookup g_D7 = some ⟨oc_D7, od_D7, .func (PySem.W.fnOf "read_pair" "Draft.read_pair" (defArgs (s_Draft 7)) (defBody (s_Draft 7)) (defScope (s_Draft 7)) .none kV_D7 dc_D7 pm_D7 an_D7 cd_D7 ct_D7), sl_D7⟩)
    (c_D7_ : PySem.W.codeIn K cd_D7 "Draft.read_pair" = true)
    (k_D7 : PySem.W.keepIn K (.ref g_D7) = true)
    (a_D8 : PySem.W.findIn K (.ref CD) "read_reader" = some (some (.ref g_D8)))
    (i_D8 : PySem.W.isFn K (.ref g_D8) = true)
    (l_D8 : K.lookup g_D8 = some ⟨oc_D8, od_D8, .func (PySem.W.fnOf "read_reader" "Draft.read_reader" (defArgs (s_Draft 8)) (defBody (s_Draft 8)) (defScope (s_Draft 8)) .none kV_D8 dc_D8 pm_D8 an_D8 cd_D8 ct_D8), sl_D8⟩)
    (c_D8_ : PySem.W.codeIn K cd_D8 "Draft.read_reader" = true)
    (k_D8 : PySem.W.keepIn K (.ref g_D8) = true)
    (a_D9 : PySem.W.findIn K (.ref CD) "taken_label" = some (some (.ref g_D9)))
    (i_D9 : PySem.W.isFn K (.ref g_D9) = true)
    (l_D9 : K.lookup g_D9 = some ⟨oc_D9, od_D9, .func (PySem.W.fnOf "taken_label" "Draft.taken_label" (defArgs (s_Draft 9)) (defBody (s_Draft 9)) (defScope (s_Draft 9)) .none kV_D9 dc_D9 pm_D9 an_D9 (.ref c_D9) ct_D9), sl_D9⟩)
    (c_D9_ : PySem.W.codeIn K (.ref c_D9) "Draft.taken_label" = true)
    (k_D9 : PySem.W.keepIn K (.ref g_D9) = true)
    (lc_D9 : K.lookup c_D9 = some ⟨e_D9, dd_D9, .fields vs_D9, sm_D9⟩)
    (tp_D9 : vs_D9[11]? = some (.ref P_D9))
    (a_D10 : PySem.W.findIn K (.ref CD) "taken_node" = some (some (.ref g_D10)))
    (i_D10 : PySem.W.isFn K (.ref g_D10) = true)
    (l_D10 : K.lookup g_D10 = some ⟨oc_D10, od_D10, .func (PySem.W.fnOf "taken_node" "Draft.taken_node" (defArgs (s_Draft 10)) (defBody (s_Draft 10)) (defScope (s_Draft 10)) .none kV_D10 dc_D10 pm_D10 an_D10 cd_D10 ct_D10), sl_D10⟩)
    (c_D10_ : PySem.W.codeIn K cd_D10 "Draft.taken_node" = true)
    (k_D10 : PySem.W.keepIn K (.ref g_D10) = true)
    (a_D11 : PySem.W.findIn K (.ref CD) "taken_items" = some (some (.ref g_D11)))
    (i_D11 : PySem.W.isFn K (.ref g_D11) = true)
    (l_D11 : K.lookup g_D11 = some ⟨oc_D11, od_D11, .func (PySem.W.fnOf "taken_items" "Draft.taken_items" (defArgs (s_Draft 11)) (defBody (s_Draft 11)) (defScope (s_Draft 11)) .none kV_D11 dc_D11 pm_D11 an_D11 cd_D11 ct_D11), sl_D11⟩)
    (c_D11_ : PySem.W.codeIn K cd_D11 "Draft.taken_items" = true)
    (k_D11 : PySem.W.keepIn K (.ref g_D11) = true)
    (a_D12 : PySem.W.findIn K (.ref CD) "taken_item" = some (some (.ref g_D12)))
    (i_D12 : PySem.W.isFn K (.ref g_D12) = true)
    (l_D12 : K.lookup g_D12 = some ⟨oc_D12, od_D12, .func (PySem.W.fnOf "taken_item" "Draft.taken_item" (defArgs (s_Draft 12)) (defBody (s_Draft 12)) (defScope (s_Draft 12)) .none kV_D12 dc_D12 pm_D12 an_D12 cd_D12 ct_D12), sl_D12⟩)
    (c_D12_ : PySem.W.codeIn K cd_D12 "Draft.taken_item" = true)
    (k_D12 : PySem.W.keepIn K (.ref g_D12) = true)
    (a_D13 : PySem.W.findIn K (.ref CD) "taken_place" = some (some (.ref g_D13)))
    (i_D13 : PySem.W.isFn K (.ref g_D13) = true)
    (l_D13 : K.lookup g_D13 = some ⟨oc_D13, od_D13, .func (PySem.W.fnOf "taken_place" "Draft.taken_place" (defArgs (s_Draft 13)) (defBody (s_Draft 13)) (defScope (s_Draft 13)) .none kV_D13 dc_D13 pm_D13 an_D13 cd_D13 ct_D13), sl_D13⟩)
    (c_D13_ : PySem.W.codeIn K cd_D13 "Draft.taken_place" = true)
    (k_D13 : PySem.W.keepIn K (.ref g_D13) = true)
    (a_S0 : PySem.W.findIn K (.ref CS) "__init__" = some (some (.ref g_S0)))
    (i_S0 : PySem.W.isFn K (.ref g_S0) = true)
    (l_S0 : K.lookup g_S0 = some ⟨oc_S0, od_S0, .func (PySem.W.fnOf "__init__" "Store.__init__" (defArgs (s_Store 0)) (defBody (s_Store 0)) (defScope (s_Store 0)) .none kV_S0 dc_S0 pm_S0 an_S0 cd_S0 ct_S0), sl_S0⟩)
    (c_S0_ : PySem.W.codeIn K cd_S0 "Store.__init__" = true)
    (k_S0 : PySem.W.keepIn K (.ref g_S0) = true)
    (a_S1 : PySem.W.findIn K (.ref CS) "is_new" = some (some (.ref g_S1)))
    (i_S1 : PySem.W.isFn K (.ref g_S1) = true)
    (l_S1 : K.lookup g_S1 = some ⟨oc_S1, od_S1, .func (PySem.W.fnOf "is_new" "Store.is_new" (defArgs (s_Store 1)) (defBody (s_Store 1)) (defScope (s_Store 1)) .none kV_S1 dc_S1 pm_S1 an_S1 cd_S1 ct_S1), sl_S1⟩)
    (c_S1_ : PySem.W.codeIn K cd_S1 "Store.is_new" = true)
    (k_S1 : PySem.W.keepIn K (.ref g_S1) = true)
    (a_S2 : PySem.W.findIn K (.ref CS) "mend_of" = some (some (.ref g_S2)))
    (i_S2 : PySem.W.isFn K (.ref g_S2) = true)
    (l_S2 : K.lookup g_S2 = some ⟨oc_S2, od_S2, .func (PySem.W.fnOf "mend_of" "Store.mend_of" (defArgs (s_Store 2)) (defBody (s_Store 2)) (defScope (s_Store 2)) .none kV_S2 dc_S2 pm_S2 an_S2 cd_S2 ct_S2), sl_S2⟩)
    (c_S2_ : PySem.W.codeIn K cd_S2 "Store.mend_of" = true)
    (k_S2 : PySem.W.keepIn K (.ref g_S2) = true)
    (hcD9 : PySem.W.codeHdIn K c_D9 P_D9 = true)
    (mtD9 : P_D9 ∈ ts)
    (pg_CL : PySem.W.plainGet K CL Str.empty = true)
    (hd_CL : PySem.W.hasDictIn K CL = true)
    (po_CL : PySem.W.plainOver K CL = true)
    (sa_CL : PySem.W.findIn K (.ref CL) "__setattr__" = some (some (.builtin "object.__setattr__")))
    (mk_CL : PySem.W.makesIn K CL = true)
    (kc_CL : PySem.W.keepIn K (.ref CL) = true)
    (no_CL_number : PySem.W.findIn K (.ref CL) "number" = some none)
    (no_CL_words : PySem.W.findIn K (.ref CL) "words" = some none)
    (no_CL_many : PySem.W.findIn K (.ref CL) "many" = some none)
    (pg_CM : PySem.W.plainGet K CM Str.empty = true)
    (hd_CM : PySem.W.hasDictIn K CM = true)
    (po_CM : PySem.W.plainOver K CM = true)
    (sa_CM : PySem.W.findIn K (.ref CM) "__setattr__" = some (some (.builtin "object.__setattr__")))
    (mk_CM : PySem.W.makesIn K CM = true)
    (kc_CM : PySem.W.keepIn K (.ref CM) = true)
    (no_CM_label : PySem.W.findIn K (.ref CM) "label" = some none)
    (no_CM_kind : PySem.W.findIn K (.ref CM) "kind" = some none)
    (no_CM_nodes : PySem.W.findIn K (.ref CM) "nodes" = some none)
    (no_CM_helpers : PySem.W.findIn K (.ref CM) "helpers" = some none)
    (no_CM_amounts : PySem.W.findIn K (.ref CM) "amounts" = some none)
    (no_CM_swap : PySem.W.findIn K (.ref CM) "swap" = some none)
    (pg_CD : PySem.W.plainGet K CD Str.empty = true)
    (hd_CD : PySem.W.hasDictIn K CD = true)
    (po_CD : PySem.W.plainOver K CD = true)
    (sa_CD : PySem.W.findIn K (.ref CD) "__setattr__" = some (some (.builtin "object.__setattr__")))
    (mk_CD : PySem.W.makesIn K CD = true)
    (kc_CD : PySem.W.keepIn K (.ref CD) = true)
    (no_CD_file : PySem.W.findIn K (.ref CD) "file" = some none)
    (no_CD_nodes : PySem.W.findIn K (.ref CD) "nodes" = some none)
    (no_CD_rooms : PySem.W.findIn K (.ref CD) "rooms" = some none)
    (no_CD_news : PySem.W.findIn K (.ref CD) "news" = some none)
    (no_CD_mends : PySem.W.findIn K (.ref CD) "mends" = some none)
    (no_CD_readers : PySem.W.findIn K (.ref CD) "readers" = some none)
    (pg_CS : PySem.W.plainGet K CS Str.empty = true)
    (hd_CS : PySem.W.hasDictIn K CS = true)
    (po_CS : PySem.W.plainOver K CS = true)
    (sa_CS : PySem.W.findIn K (.ref CS) "__setattr__" = some (some (.builtin "object.__setattr__")))
    (mk_CS : PySem.W.makesIn K CS = true)
    (kc_CS : PySem.W.keepIn K (.ref CS) = true)
    (no_CS_text : PySem.W.findIn K (.ref CS) "text" = some none)
    (no_CS_file : PySem.W.findIn K (.ref CS) "file" = some none)
    (no_CS_nodes : PySem.W.findIn K (.ref CS) "nodes" = some none)
    (no_CS_rooms : PySem.W.findIn K (.ref CS) "rooms" = some none)
    (no_CS_news : PySem.W.findIn K (.ref CS) "news" = some none)
    (no_CS_mends : PySem.W.findIn K (.ref CS) "mends" = some none)
    (no_CS_readers : PySem.W.findIn K (.ref CS) "readers" = some none)
    (q1 : PySem.W.findIn K (.ref CL) "read" = some none)
    (q2 : PySem.W.findIn K (.ref CM) "take" = some none)
    (q3 : PySem.W.findIn K (.ref CM) "read" = some none)
    (q4 : PySem.W.findIn K (.ref CM) "is_new" = some none)
    (q5 : PySem.W.findIn K (.ref CD) "is_new" = some none)
    (gL_ : PySem.W.nsIn K mainGlobals "LETTERS" = some (some (.str letters tL)))
    (gD_ : PySem.W.nsIn K mainGlobals "DIGITS" = some (some (.str digits tD)))
    (gN_ : PySem.W.nsIn K mainGlobals "LONGEST_NAME" = some (some (.int 12 tN)))
    (gU_ : PySem.W.nsIn K mainGlobals "LONGEST_NUMBER" = some (some (.int 4 tU)))
    (gM_ : PySem.W.nsIn K mainGlobals "MOST" = some (some (.int 40 tM)))
    (gK_ : PySem.W.nsIn K mainGlobals "MOST_NODES" = some (some (.int 7 tK)))
    (b_int : PySem.W.nsIn K mainGlobals "int" = some none)
    (b_list : PySem.W.nsIn K mainGlobals "list" = some none)
    (b_len : PySem.W.nsIn K mainGlobals "len" = some none)
    (b_range : PySem.W.nsIn K mainGlobals "range" = some none)
    (b_str : PySem.W.nsIn K mainGlobals "str" = some none)
    (b_min : PySem.W.nsIn K mainGlobals "min" = some none)
    (b_enumerate : PySem.W.nsIn K mainGlobals "enumerate" = some none)
    (b_isinstance : PySem.W.nsIn K mainGlobals "isinstance" = some none)
    (b_tuple : PySem.W.nsIn K mainGlobals "tuple" = some none)
    (b_zip : PySem.W.nsIn K mainGlobals "zip" = some none)
    (b_all : PySem.W.nsIn K mainGlobals "all" = some none)
    (b_any : PySem.W.nsIn K mainGlobals "any" = some none)
    (b_repr : PySem.W.nsIn K mainGlobals "repr" = some none)
    (b_dict : PySem.W.nsIn K mainGlobals "dict" = some none)
    (hn_ : PySem.W.specialIn K (.builtin "object.__class__") "__get__" = some (some (.builtin "getset_descriptor.__get__")))
    (ht_ : PySem.W.takesIn K (.builtin "object.__class__") = some true)
    (a_CB : PySem.W.nsIn K mainGlobals "BadName" = some (some (.ref CB)))
    (x_CB : K.lookup CB = some (excClassObj nmCB qCB CB NCB bsCB (.ref CE :: [.type "ValueError", .type "Exception", .type "BaseException", .type "object"]) true snCB subCB abCB colCB ddCB m0CB m1CB m2CB m3CB m5CB "ValueError.__new__"))
    (sa_CB : PySem.W.findIn K (.ref CB) "__setattr__" = some (some (.builtin "object.__setattr__")))
    (ga_CB : PySem.W.findIn K (.ref CB) "__getattribute__" = some (some (.builtin "BaseException.__getattribute__")))
    (gg_CB : PySem.W.findIn K (.ref CB) "__getattr__" = some none)
    (cc_CB : PySem.W.findIn K (.ref CB) "__class__" = some (some (.builtin "object.__class__")))
    (eC_CB : PySem.W.subIn K (.ref CB) (.type "BaseException") = some true)
    (tC_CB : PySem.W.typeIn K (.ref CB) = some (.type "type"))
    (kC_CB : PySem.W.keepIn K (.ref CB) = true)
    (hC_CB : PySem.W.hasDictIn K CB = true)
    (hm_CB : PySem.W.mroIn K CB (.type "object") = some true)
    (iC_CB : PySem.W.findIn K (.ref CB) "__init__" = some (some (.ref fCB)))
    (tI_CB : PySem.W.typeIn K (.ref fCB) = some (.type "function"))
    (li_CB : K.lookup fCB = some ⟨ociCB, odiCB, .func (PySem.W.fnOf "__init__" "BadName.__init__" (defArgs s_BadName) (defBody s_BadName) (defScope s_BadName) .none kViCB dciCB pmiCB aniCB cdiCB ctiCB), sliCB⟩)
    (ci_CB : PySem.W.codeIn K cdiCB "BadName.__init__" = true)
    (ki_CB : PySem.W.keepIn K (.ref fCB) = true)
    (no_CB : PySem.W.findIn K (.ref CB) "name" = some none)
    (a_CN : PySem.W.nsIn K mainGlobals "NoName" = some (some (.ref CN)))
    (x_CN : K.lookup CN = some (excClassObj nmCN qCN CN NCN bsCN (.ref CE :: [.type "ValueError", .type "Exception", .type "BaseException", .type "object"]) true snCN subCN abCN colCN ddCN m0CN m1CN m2CN m3CN m5CN "ValueError.__new__"))
    (sa_CN : PySem.W.findIn K (.ref CN) "__setattr__" = some (some (.builtin "object.__setattr__")))
    (ga_CN : PySem.W.findIn K (.ref CN) "__getattribute__" = some (some (.builtin "BaseException.__getattribute__")))
    (gg_CN : PySem.W.findIn K (.ref CN) "__getattr__" = some none)
    (cc_CN : PySem.W.findIn K (.ref CN) "__class__" = some (some (.builtin "object.__class__")))
    (eC_CN : PySem.W.subIn K (.ref CN) (.type "BaseException") = some true)
    (tC_CN : PySem.W.typeIn K (.ref CN) = some (.type "type"))
    (kC_CN : PySem.W.keepIn K (.ref CN) = true)
    (hC_CN : PySem.W.hasDictIn K CN = true)
    (hm_CN : PySem.W.mroIn K CN (.type "object") = some true)
    (iC_CN : PySem.W.findIn K (.ref CN) "__init__" = some (some (.ref fCN)))
    (tI_CN : PySem.W.typeIn K (.ref fCN) = some (.type "function"))
    (li_CN : K.lookup fCN = some ⟨ociCN, odiCN, .func (PySem.W.fnOf "__init__" "NoName.__init__" (defArgs s_NoName) (defBody s_NoName) (defScope s_NoName) .none kViCN dciCN pmiCN aniCN cdiCN ctiCN), sliCN⟩)
    (ci_CN : PySem.W.codeIn K cdiCN "NoName.__init__" = true)
    (ki_CN : PySem.W.keepIn K (.ref fCN) = true)
    (no_CN : PySem.W.findIn K (.ref CN) "name" = some none)
    (nd_ : [CE, CB, CN].Nodup)
    (nP_ : P_law ∉ ([P_is_name, P_number_in, P_names_of, P_numbers_of, P_links, P_D9] : List Addr))
    (ntb : PySem.W.noTabs K = true)
    : LawAtG l w K 11 63 "_law_script" mg fa h := by
  have e := hfa.symm.trans (PySem.W.mg_of X G n_law)
  cases e
  have B_int := PySem.W.mg_none_of X G b_int
  have B_list := PySem.W.mg_none_of X G b_list
  have B_len := PySem.W.mg_none_of X G b_len
  have B_range := PySem.W.mg_none_of X G b_range
  have B_str := PySem.W.mg_none_of X G b_str
  have B_min := PySem.W.mg_none_of X G b_min
  have B_enumerate := PySem.W.mg_none_of X G b_enumerate
  have B_isinstance := PySem.W.mg_none_of X G b_isinstance
  have B_tuple := PySem.W.mg_none_of X G b_tuple
  have B_zip := PySem.W.mg_none_of X G b_zip
  have B_all := PySem.W.mg_none_of X G b_all
  have B_any := PySem.W.mg_none_of X G b_any
  have F_lines_of := fun_mk (st := s_lines_of) l_lines_of c_lines_of_ k_lines_of
  have D_lines_of := F_lines_of.binds (ps := ["text"]) fun _ _ _ _ _ _ us hl => match us, hl with | [_], _ => rfl
  have m_lines_of := PySem.W.mg_of X G n_lines_of
  have F_is_name := fun_mk (st := s_is_name) l_is_name c_is_name_ k_is_name
  have D_is_name := F_is_name.binds (ps := ["value"]) fun _ _ _ _ _ _ us hl => match us, hl with | [_], _ => rfl
  have m_is_name := PySem.W.mg_of X G n_is_name
  have F_number_in := fun_mk (st := s_number_in) l_number_in c_number_in_ k_number_in
  have D_number_in := F_number_in.binds (ps := ["word", "least", "most"]) fun _ _ _ _ _ _ us hl => match us, hl with | [_, _, _], _ => rfl
  have m_number_in := PySem.W.mg_of X G n_number_in
  have F_names_of := fun_mk (st := s_names_of) l_names_of c_names_of_ k_names_of
  have D_names_of := F_names_of.binds (ps := ["row"]) fun _ _ _ _ _ _ us hl => match us, hl with | [_], _ => rfl
  have m_names_of := PySem.W.mg_of X G n_names_of
  have F_numbers_of := fun_mk (st := s_numbers_of) l_numbers_of c_numbers_of_ k_numbers_of
  have D_numbers_of := F_numbers_of.binds (ps := ["row"]) fun _ _ _ _ _ _ us hl => match us, hl with | [_], _ => rfl
  have m_numbers_of := PySem.W.mg_of X G n_numbers_of
  have F_links := fun_mk (st := s_links) l_links c_links_ k_links
  have D_links := F_links.binds (ps := ["mend"]) fun _ _ _ _ _ _ us hl => match us, hl with | [_], _ => rfl
  have m_links := PySem.W.mg_of X G n_links
  have F_written := fun_mk (st := s_written) l_written c_written_ k_written
  have D_written := F_written.binds (ps := ["store"]) fun _ _ _ _ _ _ us hl => match us, hl with | [_], _ => rfl
  have m_written := PySem.W.mg_of X G n_written
  have F_w_mend := fun_mk (st := s_w_mend) l_w_mend c_w_mend_ k_w_mend
  have D_w_mend := F_w_mend.binds (ps := ["mend"]) fun _ _ _ _ _ _ us hl => match us, hl with | [_], _ => rfl
  have m_w_mend := PySem.W.mg_of X G n_w_mend
  have F_w_items := fun_mk (st := s_w_items) l_w_items c_w_items_ k_w_items
  have D_w_items := F_w_items.binds (ps := ["row"]) fun _ _ _ _ _ _ us hl => match us, hl with | [_], _ => rfl
  have m_w_items := PySem.W.mg_of X G n_w_items
  have F_l_pen := fun_mk (st := s_l_pen) l_l_pen c_l_pen_ k_l_pen
  have D_l_pen := F_l_pen.binds (ps := ["_law_script"]) fun _ _ _ _ _ _ us hl => match us, hl with | [_], _ => rfl
  have m_l_pen := PySem.W.mg_of X G n_l_pen
  have F_l_draw := fun_mk (st := s_l_draw) l_l_draw c_l_draw_ k_l_draw
  have D_l_draw := F_l_draw.binds (ps := ["_law_pen_here", "_law_many"]) fun _ _ _ _ _ _ us hl => match us, hl with | [_, _], _ => rfl
  have m_l_draw := PySem.W.mg_of X G n_l_draw
  have F_l_pick := fun_mk (st := s_l_pick) l_l_pick c_l_pick_ k_l_pick
  have D_l_pick := F_l_pick.binds (ps := ["_law_pen_here", "_law_some"]) fun _ _ _ _ _ _ us hl => match us, hl with | [_, _], _ => rfl
  have m_l_pick := PySem.W.mg_of X G n_l_pick
  have F_l_name := fun_mk (st := s_l_name) l_l_name c_l_name_ k_l_name
  have D_l_name := F_l_name.binds (ps := ["_law_pen_here", "_law_used"]) fun _ _ _ _ _ _ us hl => match us, hl with | [_, _], _ => rfl
  have m_l_name := PySem.W.mg_of X G n_l_name
  have F_l_names := fun_mk (st := s_l_names) l_l_names c_l_names_ k_l_names
  have D_l_names := F_l_names.binds (ps := ["_law_pen_here", "_law_many"]) fun _ _ _ _ _ _ us hl => match us, hl with | [_, _], _ => rfl
  have m_l_names := PySem.W.mg_of X G n_l_names
  have F_l_links := fun_mk (st := s_l_links) l_l_links c_l_links_ k_l_links
  have D_l_links := F_l_links.binds (ps := ["_law_pen_here", "_law_free"]) fun _ _ _ _ _ _ us hl => match us, hl with | [_, _], _ => rfl
  have m_l_links := PySem.W.mg_of X G n_l_links
  have F_l_mend := fun_mk (st := s_l_mend) l_l_mend c_l_mend_ k_l_mend
  have D_l_mend := F_l_mend.binds (ps := ["_law_pen_here", "_law_nodes", "_law_label"]) fun _ _ _ _ _ _ us hl => match us, hl with | [_, _, _], _ => rfl
  have m_l_mend := PySem.W.mg_of X G n_l_mend
  have F_l_readers := fun_mk (st := s_l_readers) l_l_readers c_l_readers_ k_l_readers
  have D_l_readers := F_l_readers.binds (ps := ["_law_pen_here", "_law_nodes", "_law_many"]) fun _ _ _ _ _ _ us hl => match us, hl with | [_, _, _], _ => rfl
  have m_l_readers := PySem.W.mg_of X G n_l_readers
  have F_l_store := fun_mk (st := s_l_store) l_l_store c_l_store_ k_l_store
  have D_l_store := F_l_store.binds (ps := ["_law_pen_here", "_law_many", "_law_mends", "_law_room"]) fun _ _ _ _ _ _ us hl => match us, hl with | [_, _, _, _], _ => rfl
  have m_l_store := PySem.W.mg_of X G n_l_store
  have F_l_zeros := fun_mk (st := s_l_zeros) l_l_zeros c_l_zeros_ k_l_zeros
  have D_l_zeros := F_l_zeros.binds (ps := ["_law_number", "_law_zeros_here"]) fun _ _ _ _ _ _ us hl => match us, hl with | [_, _], _ => rfl
  have m_l_zeros := PySem.W.mg_of X G n_l_zeros
  have F_l_lwords := fun_mk (st := s_l_lwords) l_l_lwords c_l_lwords_ k_l_lwords
  have D_l_lwords := F_l_lwords.binds (ps := ["_law_row", "_law_zeros_here"]) fun _ _ _ _ _ _ us hl => match us, hl with | [_, _], _ => rfl
  have m_l_lwords := PySem.W.mg_of X G n_l_lwords
  have F_l_rows := fun_mk (st := s_l_rows) l_l_rows c_l_rows_ k_l_rows
  have D_l_rows := F_l_rows.binds (ps := ["_law_store", "_law_zeros_here"]) fun _ _ _ _ _ _ us hl => match us, hl with | [_, _], _ => rfl
  have m_l_rows := PySem.W.mg_of X G n_l_rows
  have F_l_text := fun_mk (st := s_l_text) l_l_text c_l_text_ k_l_text
  have D_l_text := F_l_text.binds (ps := ["_law_store"]) fun _ _ _ _ _ _ us hl => match us, hl with | [_], _ => rfl
  have m_l_text := PySem.W.mg_of X G n_l_text
  have F_l_tf := fun_mk (st := s_l_tf) l_l_tf c_l_tf_ k_l_tf
  have D_l_tf := F_l_tf.binds (ps := ["_law_mend"]) fun _ _ _ _ _ _ us hl => match us, hl with | [_], _ => rfl
  have m_l_tf := PySem.W.mg_of X G n_l_tf
  have F_l_ne := fun_mk (st := s_l_ne) l_l_ne c_l_ne_ k_l_ne
  have D_l_ne := F_l_ne.binds (ps := ["_law_call"]) fun _ _ _ _ _ _ us hl => match us, hl with | [_], _ => rfl
  have m_l_ne := PySem.W.mg_of X G n_l_ne
  have F_l_other := fun_mk (st := s_l_other) l_l_other c_l_other_ k_l_other
  have D_l_other := F_l_other.binds (ps := ["_law_pen_here", "_law_store"]) fun _ _ _ _ _ _ us hl => match us, hl with | [_, _], _ => rfl
  have m_l_other := PySem.W.mg_of X G n_l_other
  have B_repr := PySem.W.mg_none_of X G b_repr
  have B_dict := PySem.W.mg_none_of X G b_dict
  have F_CB := fun_mk (st := s_BadName) li_CB ci_CB ki_CB
  have D_CB := F_CB.binds (ps := ["self", "name"]) fun _ _ _ _ _ _ us hl => match us, hl with | [_, _], _ => rfl
  have r_CB := row_mk x_CB tC_CB
  have xc_CB := xc_mk x_CB sa_CB ga_CB gg_CB cc_CB eC_CB tC_CB kC_CB hC_CB hm_CB hn_ ht_
  have F_CN := fun_mk (st := s_NoName) li_CN ci_CN ki_CN
  have D_CN := F_CN.binds (ps := ["self", "name"]) fun _ _ _ _ _ _ us hl => match us, hl with | [_, _], _ => rfl
  have r_CN := row_mk x_CN tC_CN
  have xc_CN := xc_mk x_CN sa_CN ga_CN gg_CN cc_CN eC_CN tC_CN kC_CN hC_CN hm_CN hn_ ht_
  have F_law := fun_mk (st := s_law) l_law c_law_ k_law
  have F_L0 := fun_mk (st := (s_Line 0)) l_L0 c_L0_ k_L0
  have D_L0 := F_L0.binds (ps := ["self", "number", "text"]) fun _ _ _ _ _ _ us hl => match us, hl with | [_, _, _], _ => rfl
  have F_L1 := fun_mk (st := (s_Line 1)) l_L1 c_L1_ k_L1
  have D_L1 := F_L1.binds (ps := ["self"]) fun _ _ _ _ _ _ us hl => match us, hl with | [_], _ => rfl
  have F_L3 := fun_mk (st := (s_Line 3)) l_L3 c_L3_ k_L3
  have D_L3 := F_L3.binds (ps := ["self", "word"]) fun _ _ _ _ _ _ us hl => match us, hl with | [_, _], _ => rfl
  have F_L4 := fun_mk (st := (s_Line 4)) l_L4 c_L4_ k_L4
  have D_L4 := F_L4.binds (ps := ["self"]) fun _ _ _ _ _ _ us hl => match us, hl with | [_], _ => rfl
  have F_L5 := fun_mk (st := (s_Line 5)) l_L5 c_L5_ k_L5
  have D_L5 := F_L5.binds (ps := ["self", "least", "most"]) fun _ _ _ _ _ _ us hl => match us, hl with | [_, _, _], _ => rfl
  have F_L6 := fun_mk (st := (s_Line 6)) l_L6 c_L6_ k_L6
  have D_L6 := F_L6.binds (ps := ["self"]) fun _ _ _ _ _ _ us hl => match us, hl with | [_], _ => rfl
  have F_L7 := fun_mk (st := (s_Line 7)) l_L7 c_L7_ k_L7
  have D_L7 := F_L7.binds (ps := ["self", "word"]) fun _ _ _ _ _ _ us hl => match us, hl with | [_, _], _ => rfl
  have F_L8 := fun_mk (st := (s_Line 8)) l_L8 c_L8_ k_L8
  have D_L8 := F_L8.binds (ps := ["self"]) fun _ _ _ _ _ _ us hl => match us, hl with | [_], _ => rfl
  have F_M0 := fun_mk (st := (s_Mend 0)) l_M0 c_M0_ k_M0
  have D_M0 := F_M0.binds (ps := ["self", "label", "kind", "nodes", "helpers", "amounts", "swap"]) fun _ _ _ _ _ _ us hl => match us, hl with | [_, _, _, _, _, _, _], _ => rfl
  have F_D0 := fun_mk (st := (s_Draft 0)) l_D0 c_D0_ k_D0
  have D_D0 := F_D0.binds (ps := ["self", "text"]) fun _ _ _ _ _ _ us hl => match us, hl with | [_, _], _ => rfl
  have F_D1 := fun_mk (st := (s_Draft 1)) l_D1 c_D1_ k_D1
  have D_D1 := F_D1.binds (ps := ["self", "line"]) fun _ _ _ _ _ _ us hl => match us, hl with | [_, _], _ => rfl
  have F_D2 := fun_mk (st := (s_Draft 2)) l_D2 c_D2_ k_D2
  have D_D2 := F_D2.binds (ps := ["self"]) fun _ _ _ _ _ _ us hl => match us, hl with | [_], _ => rfl
  have F_D3 := fun_mk (st := (s_Draft 3)) l_D3 c_D3_ k_D3
  have D_D3 := F_D3.binds (ps := ["self"]) fun _ _ _ _ _ _ us hl => match us, hl with | [_], _ => rfl
  have F_D4 := fun_mk (st := (s_Draft 4)) l_D4 c_D4_ k_D4
  have D_D4 := F_D4.binds (ps := ["self"]) fun _ _ _ _ _ _ us hl => match us, hl with | [_], _ => rfl
  have F_D5 := fun_mk (st := (s_Draft 5)) l_D5 c_D5_ k_D5
  have D_D5 := F_D5.binds (ps := ["self", "line", "is_new"]) fun _ _ _ _ _ _ us hl => match us, hl with | [_, _, _], _ => rfl
  have F_D6 := fun_mk (st := (s_Draft 6)) l_D6 c_D6_ k_D6
  have D_D6 := F_D6.binds (ps := ["self", "line"]) fun _ _ _ _ _ _ us hl => match us, hl with | [_, _], _ => rfl
  have F_D7 := fun_mk (st := (s_Draft 7)) l_D7 c_D7_ k_D7
  have D_D7 := F_D7.binds (ps := ["self", "line"]) fun _ _ _ _ _ _ us hl => match us, hl with | [_, _], _ => rfl
  have F_D8 := fun_mk (st := (s_Draft 8)) l_D8 c_D8_ k_D8
  have D_D8 := F_D8.binds (ps := ["self", "line"]) fun _ _ _ _ _ _ us hl => match us, hl with | [_, _], _ => rfl
  have F_D9 := fun_mk (st := (s_Draft 9)) l_D9 c_D9_ k_D9
  have D_D9 := F_D9.binds (ps := ["self", "line"]) fun _ _ _ _ _ _ us hl => match us, hl with | [_, _], _ => rfl
  have F_D10 := fun_mk (st := (s_Draft 10)) l_D10 c_D10_ k_D10
  have D_D10 := F_D10.binds (ps := ["self", "line", "barred"]) fun _ _ _ _ _ _ us hl => match us, hl with | [_, _, _], _ => rfl
  have F_D11 := fun_mk (st := (s_Draft 11)) l_D11 c_D11_ k_D11
  have D_D11 := F_D11.binds (ps := ["self", "line", "mended", "close"]) fun _ _ _ _ _ _ us hl => match us, hl with | [_, _, _, _], _ => rfl
  have F_D12 := fun_mk (st := (s_Draft 12)) l_D12 c_D12_ k_D12
  have D_D12 := F_D12.binds (ps := ["self", "line", "barred"]) fun _ _ _ _ _ _ us hl => match us, hl with | [_, _, _], _ => rfl
  have F_D13 := fun_mk (st := (s_Draft 13)) l_D13 c_D13_ k_D13
  have D_D13 := F_D13.binds (ps := ["self", "line", "barred"]) fun _ _ _ _ _ _ us hl => match us, hl with | [_, _, _], _ => rfl
  have F_S0 := fun_mk (st := (s_Store 0)) l_S0 c_S0_ k_S0
  have D_S0 := F_S0.binds (ps := ["self", "text"]) fun _ _ _ _ _ _ us hl => match us, hl with | [_, _], _ => rfl
  have F_S1 := fun_mk (st := (s_Store 1)) l_S1 c_S1_ k_S1
  have D_S1 := F_S1.binds (ps := ["self", "name"]) fun _ _ _ _ _ _ us hl => match us, hl with | [_, _], _ => rfl
  have F_S2 := fun_mk (st := (s_Store 2)) l_S2 c_S2_ k_S2
  have D_S2 := F_S2.binds (ps := ["self", "label"]) fun _ _ _ _ _ _ us hl => match us, hl with | [_, _], _ => rfl
  have m_CL := PySem.W.mg_of X G aC_CL
  have m_CM := PySem.W.mg_of X G aC_CM
  have m_CD := PySem.W.mg_of X G aC_CD
  have m_CS := PySem.W.mg_of X G aC_CS
  obtain ⟨ch_is_name, ct0_is_name⟩ := tabs "is_name" c_is_name P_is_name (by simp) (tabIn_mk n_is_name l_is_name rfl lc_is_name tp_is_name)
  obtain ⟨ch_number_in, ct0_number_in⟩ := tabs "number_in" c_number_in P_number_in (by simp) (tabIn_mk n_number_in l_number_in rfl lc_number_in tp_number_in)
  obtain ⟨ch_names_of, ct0_names_of⟩ := tabs "names_of" c_names_of P_names_of (by simp) (tabIn_mk n_names_of l_names_of rfl lc_names_of tp_names_of)
  obtain ⟨ch_numbers_of, ct0_numbers_of⟩ := tabs "numbers_of" c_numbers_of P_numbers_of (by simp) (tabIn_mk n_numbers_of l_numbers_of rfl lc_numbers_of tp_numbers_of)
  obtain ⟨ch_links, ct0_links⟩ := tabs "links_of" c_links P_links (by simp) (tabIn_mk n_links l_links rfl lc_links tp_links)
  obtain ⟨ch_law, ct0_law⟩ := tabs "law" c_law P_law (by simp) (tabIn_mk n_law l_law rfl lc_law tp_law)
  have ch_D9 := PySem.W.codeHd_of_K X hcD9
  have ct0_D9 := tabm _ mtD9
  refine ⟨PySem.W.fnOf "law" "law" (defArgs s_law) (defBody s_law) (defScope s_law) .none kV_law dc_law pm_law an_law (.ref c_law) ct_law, [(c_is_name, P_is_name), (c_number_in, P_number_in), (c_names_of, P_names_of), (c_numbers_of, P_numbers_of), (c_links, P_links), (c_D9, P_D9), (c_law, P_law)], spLaw K [P_is_name, P_number_in, P_names_of, P_numbers_of, P_links, P_D9] P_law, List.forall_mem_cons.mpr ⟨ct0_is_name, List.forall_mem_cons.mpr ⟨ct0_number_in, List.forall_mem_cons.mpr ⟨ct0_names_of, List.forall_mem_cons.mpr ⟨ct0_numbers_of, List.forall_mem_cons.mpr ⟨ct0_links, List.forall_mem_cons.mpr ⟨ct0_D9, List.forall_mem_cons.mpr ⟨ct0_law, fun _ h => (List.not_mem_nil h).elim⟩⟩⟩⟩⟩⟩⟩, List.forall_mem_cons.mpr ⟨no_tab X ntb ct0_is_name, List.forall_mem_cons.mpr ⟨no_tab X ntb ct0_number_in, List.forall_mem_cons.mpr ⟨no_tab X ntb ct0_names_of, List.forall_mem_cons.mpr ⟨no_tab X ntb ct0_numbers_of, List.forall_mem_cons.mpr ⟨no_tab X ntb ct0_links, List.forall_mem_cons.mpr ⟨no_tab X ntb ct0_D9, List.forall_mem_cons.mpr ⟨no_tab X ntb ct0_law, fun _ h => (List.not_mem_nil h).elim⟩⟩⟩⟩⟩⟩⟩, List.forall_mem_cons.mpr ⟨ch_is_name, List.forall_mem_cons.mpr ⟨ch_number_in, List.forall_mem_cons.mpr ⟨ch_names_of, List.forall_mem_cons.mpr ⟨ch_numbers_of, List.forall_mem_cons.mpr ⟨ch_links, List.forall_mem_cons.mpr ⟨ch_D9, List.forall_mem_cons.mpr ⟨ch_law, fun _ h => (List.not_mem_nil h).elim⟩⟩⟩⟩⟩⟩⟩, fun s v => .of_eq rfl, fun H a ns hlen _ hH hS => ⟨a, ns, rfl, hS, hlen, fun P hP => ?_, hH (c_law, P_law) (by simp), fun _ => rfl⟩, fun base _ _ TB => ?_⟩
  · have tb : ∀ p ∈ ([(c_is_name, P_is_name), (c_number_in, P_number_in), (c_names_of, P_names_of), (c_numbers_of, P_numbers_of), (c_links, P_links), (c_D9, P_D9), (c_law, P_law)] : List (Addr × Addr)), GxR.TabG H p.2 := fun p hp => ⟨#[], hH p hp, True.intro⟩
    simp only [List.mem_cons, List.not_mem_nil, or_false] at hP
    rcases hP with rfl | rfl | rfl | rfl | rfl | rfl
    · exact tb (c_is_name, _) (by simp)
    · exact tb (c_number_in, _) (by simp)
    · exact tb (c_names_of, _) (by simp)
    · exact tb (c_numbers_of, _) (by simp)
    · exact tb (c_links, _) (by simp)
    · exact tb (c_D9, _) (by simp)
  have TB_is_name : GxR.TabB base mg c_is_name P_is_name := by
    have t := TB (c_is_name, P_is_name) (by simp)
    exact ⟨t.code, t.bm, t.gP⟩
  have IN_is_name : P_is_name ∈ ([P_is_name, P_number_in, P_names_of, P_numbers_of, P_links, P_D9] : List Addr) := by simp
  have TB_number_in : GxR.TabB base mg c_number_in P_number_in := by
    have t := TB (c_number_in, P_number_in) (by simp)
    exact ⟨t.code, t.bm, t.gP⟩
  have IN_number_in : P_number_in ∈ ([P_is_name, P_number_in, P_names_of, P_numbers_of, P_links, P_D9] : List Addr) := by simp
  have TB_names_of : GxR.TabB base mg c_names_of P_names_of := by
    have t := TB (c_names_of, P_names_of) (by simp)
    exact ⟨t.code, t.bm, t.gP⟩
  have IN_names_of : P_names_of ∈ ([P_is_name, P_number_in, P_names_of, P_numbers_of, P_links, P_D9] : List Addr) := by simp
  have TB_numbers_of : GxR.TabB base mg c_numbers_of P_numbers_of := by
    have t := TB (c_numbers_of, P_numbers_of) (by simp)
    exact ⟨t.code, t.bm, t.gP⟩
  have IN_numbers_of : P_numbers_of ∈ ([P_is_name, P_number_in, P_names_of, P_numbers_of, P_links, P_D9] : List Addr) := by simp
  have TB_links : GxR.TabB base mg c_links P_links := by
    have t := TB (c_links, P_links) (by simp)
    exact ⟨t.code, t.bm, t.gP⟩
  have IN_links : P_links ∈ ([P_is_name, P_number_in, P_names_of, P_numbers_of, P_links, P_D9] : List Addr) := by simp
  have TB_D9 : GxR.TabB base mg c_D9 P_D9 := by
    have t := TB (c_D9, P_D9) (by simp)
    exact ⟨t.code, t.bm, t.gP⟩
  have IN_D9 : P_D9 ∈ ([P_is_name, P_number_in, P_names_of, P_numbers_of, P_links, P_D9] : List Addr) := by simp
  have gL := PySem.W.mg_of X G gL_
  have gD := PySem.W.mg_of X G gD_
  have gN := PySem.W.mg_of X G gN_
  have gU := PySem.W.mg_of X G gU_
  have gM := PySem.W.mg_of X G gM_
  have gK := PySem.W.mg_of X G gK_
  have LC : LineC K CL := ⟨⟨pg_CL, hd_CL, po_CL, sa_CL⟩, no_CL_number, no_CL_words, no_CL_many⟩
  have MC : MendC K CM := ⟨⟨pg_CM, hd_CM, po_CM, sa_CM⟩, no_CM_label, no_CM_kind, no_CM_nodes, no_CM_helpers, no_CM_amounts, no_CM_swap⟩
  have DC : DraftC K mg CD := ⟨⟨pg_CD, hd_CD, po_CD, sa_CD⟩, no_CD_file, no_CD_nodes, no_CD_rooms, no_CD_news, no_CD_mends, no_CD_readers, ⟨_, gM⟩, ⟨_, gK⟩⟩
  have SC : StoreC K CS := ⟨⟨pg_CS, hd_CS, po_CS, sa_CS⟩, no_CS_text, no_CS_file, no_CS_nodes, no_CS_rooms, no_CS_news, no_CS_mends, no_CS_readers⟩
  have ne : CD ≠ CL := fun z => by
    rw [z, q1] at a_D1
    cases a_D1
  have nm : CM ≠ CL := fun z => by
    rw [← z, q2] at a_L1
    cases a_L1
  have ndm : CD ≠ CM := fun z => by
    rw [z, q3] at a_D1
    cases a_D1
  have nsm : CS ≠ CM := fun z => by
    rw [z, q4] at a_S1
    cases a_S1
  have nsd : CS ≠ CD := fun z => by
    rw [z, q5] at a_S1
    cases a_S1
  have G_l_pen := ok_pen (P := l.prog) (w := w) (mg := mg) (base := base) F_l_pen B_int B_list
  have X_l_pen : Fx l.prog w K mg base "_law_pen" 1 ["_law_script"] (spPen K) := ⟨_, _, G_l_pen, m_l_pen, F_l_pen.kp, D_l_pen⟩
  have G_l_draw := ok_draw (P := l.prog) (w := w) (mg := mg) (base := base) F_l_draw B_int B_len
  have I_l_draw := G_l_draw.imp (sp' := spDr [P_is_name, P_number_in, P_names_of, P_numbers_of, P_links, P_D9]) fun _ _ _ _ h => dr_of h
  have X_l_draw : Fx l.prog w K mg base "_law_draw" 1 ["_law_pen_here", "_law_many"] (spDr [P_is_name, P_number_in, P_names_of, P_numbers_of, P_links, P_D9]) := ⟨_, _, I_l_draw, m_l_draw, F_l_draw.kp, D_l_draw⟩
  have G_l_pick := ok_pick (P := l.prog) (w := w) (mg := mg) (base := base) F_l_pick B_len G_l_draw m_l_draw F_l_draw.kp D_l_draw
  have I_l_pick := G_l_pick.imp (sp' := spPk [P_is_name, P_number_in, P_names_of, P_numbers_of, P_links, P_D9] K) fun _ _ _ _ h => pk_of h
  have X_l_pick : Fx l.prog w K mg base "_law_pick" 2 ["_law_pen_here", "_law_some"] (spPk [P_is_name, P_number_in, P_names_of, P_numbers_of, P_links, P_D9] K) := ⟨_, _, I_l_pick, m_l_pick, F_l_pick.kp, D_l_pick⟩
  have X_l_name : Fx l.prog w K mg base "_law_name" 3 ["_law_pen_here", "_law_used"] (spName [P_is_name, P_number_in, P_names_of, P_numbers_of, P_links, P_D9]) := ⟨_, _, ok_l_name F_l_name B_range B_len B_str X_l_draw X_l_pick, m_l_name, F_l_name.kp, D_l_name⟩
  have X_l_names : Fx l.prog w K mg base "_law_names" 4 ["_law_pen_here", "_law_many"] (spNames [P_is_name, P_number_in, P_names_of, P_numbers_of, P_links, P_D9]) := ⟨_, _, ok_l_names F_l_names B_range X_l_name, m_l_names, F_l_names.kp, D_l_names⟩
  have X_l_links : Fx l.prog w K mg base "_law_some_links" 3 ["_law_pen_here", "_law_free"] (spLinks [P_is_name, P_number_in, P_names_of, P_numbers_of, P_links, P_D9] K) := ⟨_, _, ok_l_links F_l_links B_range B_len B_list B_min X_l_draw X_l_pick, m_l_links, F_l_links.kp, D_l_links⟩
  have X_l_mend : Fx l.prog w K mg base "_law_some_mend" 4 ["_law_pen_here", "_law_nodes", "_law_label"] (spMend [P_is_name, P_number_in, P_names_of, P_numbers_of, P_links, P_D9]) := ⟨_, _, ok_l_mend F_l_mend B_len X_l_draw X_l_pick X_l_links, m_l_mend, F_l_mend.kp, D_l_mend⟩
  have X_l_readers : Fx l.prog w K mg base "_law_some_readers" 3 ["_law_pen_here", "_law_nodes", "_law_many"] (spReaders [P_is_name, P_number_in, P_names_of, P_numbers_of, P_links, P_D9]) := ⟨_, _, ok_l_readers F_l_readers B_range B_len B_list X_l_draw X_l_pick, m_l_readers, F_l_readers.kp, D_l_readers⟩
  have X_l_store : Fx l.prog w K mg base "_law_any_store" 5 ["_law_pen_here", "_law_many", "_law_mends", "_law_room"] (spStore [P_is_name, P_number_in, P_names_of, P_numbers_of, P_links, P_D9]) := ⟨_, _, ok_l_store F_l_store B_range B_len B_enumerate X_l_draw X_l_pick X_l_name X_l_names X_l_mend X_l_readers, m_l_store, F_l_store.kp, D_l_store⟩
  have X_l_zeros : Fx l.prog w K mg base "_law_zeros" 1 ["_law_number", "_law_zeros_here"] (spZeros) := ⟨_, _, ok_l_zeros F_l_zeros B_len B_str, m_l_zeros, F_l_zeros.kp, D_l_zeros⟩
  have X_l_lwords : Fx l.prog w K mg base "_law_links_words" 2 ["_law_row", "_law_zeros_here"] (spLWords [P_is_name, P_number_in, P_names_of, P_numbers_of, P_links, P_D9]) := ⟨_, _, ok_l_lwords F_l_lwords X_l_zeros, m_l_lwords, F_l_lwords.kp, D_l_lwords⟩
  have X_l_rows : Fx l.prog w K mg base "_law_store_rows" 3 ["_law_store", "_law_zeros_here"] (spRows [P_is_name, P_number_in, P_names_of, P_numbers_of, P_links, P_D9]) := ⟨_, _, ok_l_rows F_l_rows X_l_zeros X_l_lwords, m_l_rows, F_l_rows.kp, D_l_rows⟩
  have X_l_text : Fx l.prog w K mg base "_law_any_text" 4 ["_law_store"] (spAnyText [P_is_name, P_number_in, P_names_of, P_numbers_of, P_links, P_D9]) := ⟨_, _, ok_l_text F_l_text X_l_rows, m_l_text, F_l_text.kp, D_l_text⟩
  have X_lines_of : Fx l.prog w K mg base "lines_of" 1 ["text"] (spLines [P_is_name, P_number_in, P_names_of, P_numbers_of, P_links, P_D9]) := ⟨_, _, ok_lines_of F_lines_of B_isinstance B_str, m_lines_of, F_lines_of.kp, D_lines_of⟩
  have X_is_name : Fx l.prog w K mg base "is_name" 2 ["value"] (spIsName [P_is_name, P_number_in, P_names_of, P_numbers_of, P_links, P_D9]) := ⟨_, _, ok_is_name F_is_name rfl TB_is_name IN_is_name B_all B_isinstance B_str B_len gL gD gN, m_is_name, F_is_name.kp, D_is_name⟩
  have X_number_in : Fx l.prog w K mg base "number_in" 2 ["word", "least", "most"] (spNumIn [P_is_name, P_number_in, P_names_of, P_numbers_of, P_links, P_D9]) := ⟨_, _, ok_number_in F_number_in rfl TB_number_in IN_number_in B_all B_int B_len gD gU, m_number_in, F_number_in.kp, D_number_in⟩
  have X_L1 : Mx l.prog w K mg base CL "take" 1 ["self"] (spTake CL) := ⟨_, _, ok_take F_L1 LC B_len, ⟨a_L1, i_L1, k_L1⟩, D_L1⟩
  have X_L0 : MkX l.prog w K mg base "Line" CL 1 ["self", "number", "text"] (spLineInit CL) := ⟨_, _, ok_line_init F_L0 LC, ⟨mk_CL, a_L0, i_L0, kc_CL⟩, D_L0, m_CL⟩
  have X_L3 : Mx l.prog w K mg base CL "take_this" 2 ["self", "word"] (spThis CL) := ⟨_, _, ok_this F_L3 LC X_L1, ⟨a_L3, i_L3, k_L3⟩, D_L3⟩
  have X_L4 : Mx l.prog w K mg base CL "take_name" 3 ["self"] (spTakeName CL [P_is_name, P_number_in, P_names_of, P_numbers_of, P_links, P_D9]) := ⟨_, _, ok_take_name F_L4 LC X_L1 X_is_name, ⟨a_L4, i_L4, k_L4⟩, D_L4⟩
  have X_L5 : Mx l.prog w K mg base CL "take_number" 3 ["self", "least", "most"] (spTakeNum CL [P_is_name, P_number_in, P_names_of, P_numbers_of, P_links, P_D9]) := ⟨_, _, ok_take_num F_L5 LC X_L1 X_number_in, ⟨a_L5, i_L5, k_L5⟩, D_L5⟩
  have X_L6 : Mx l.prog w K mg base CL "is_over" 1 ["self"] (spOver CL) := ⟨_, _, ok_over F_L6 LC B_len, ⟨a_L6, i_L6, k_L6⟩, D_L6⟩
  have X_L7 : Mx l.prog w K mg base CL "is_next" 2 ["self", "word"] (spNext CL) := ⟨_, _, ok_next F_L7 LC X_L6, ⟨a_L7, i_L7, k_L7⟩, D_L7⟩
  have X_L8 : Mx l.prog w K mg base CL "finish" 2 ["self"] (spFinish CL) := ⟨_, _, ok_finish F_L8 LC X_L6, ⟨a_L8, i_L8, k_L8⟩, D_L8⟩
  have X_names_of : Fx l.prog w K mg base "names_of" 3 ["row"] (spCol [P_is_name, P_number_in, P_names_of, P_numbers_of, P_links, P_D9] fun q => .str q.1) := ⟨_, _, ok_names_of F_names_of rfl TB_names_of IN_names_of B_tuple, m_names_of, F_names_of.kp, D_names_of⟩
  have X_numbers_of : Fx l.prog w K mg base "numbers_of" 3 ["row"] (spCol [P_is_name, P_number_in, P_names_of, P_numbers_of, P_links, P_D9] fun q => q.2) := ⟨_, _, ok_numbers_of F_numbers_of rfl TB_numbers_of IN_numbers_of B_tuple, m_numbers_of, F_numbers_of.kp, D_numbers_of⟩
  have X_M0 : MkX l.prog w K mg base "Mend" CM 1 ["self", "label", "kind", "nodes", "helpers", "amounts", "swap"] (spMendInit CM) := ⟨_, _, ok_mend_init F_M0 MC, ⟨mk_CM, a_M0, i_M0, kc_CM⟩, D_M0, m_CM⟩
  have X_D9 : Mx l.prog w K mg base CD "taken_label" 4 ["self", "line"] (spLabel CD CM CL [P_is_name, P_number_in, P_names_of, P_numbers_of, P_links, P_D9]) := ⟨_, _, ok_label F_D9 rfl TB_D9 IN_D9 B_any DC MC LC ne nm X_L4, ⟨a_D9, i_D9, k_D9⟩, D_D9⟩
  have X_D10 : Mx l.prog w K mg base CD "taken_node" 2 ["self", "line", "barred"] (spNode CD CL K) := ⟨_, _, ok_node F_D10 DC LC ne X_L1, ⟨a_D10, i_D10, k_D10⟩, D_D10⟩
  have X_D12 : Mx l.prog w K mg base CD "taken_item" 3 ["self", "line", "barred"] (spItem CD CL [P_is_name, P_number_in, P_names_of, P_numbers_of, P_links, P_D9]) := ⟨_, _, ok_item F_D12 DC LC ne X_L1 X_number_in, ⟨a_D12, i_D12, k_D12⟩, D_D12⟩
  have X_D13 : Mx l.prog w K mg base CD "taken_place" 3 ["self", "line", "barred"] (spPlace CD CL [P_is_name, P_number_in, P_names_of, P_numbers_of, P_links, P_D9]) := ⟨_, _, ok_place F_D13 DC LC ne X_L1 X_number_in, ⟨a_D13, i_D13, k_D13⟩, D_D13⟩
  have X_D11 : Mx l.prog w K mg base CD "taken_items" 4 ["self", "line", "mended", "close"] (spItems CD CL [P_is_name, P_number_in, P_names_of, P_numbers_of, P_links, P_D9]) := ⟨_, _, ok_items F_D11 DC LC ne X_L1 X_L6 X_L7 X_D12 X_names_of, ⟨a_D11, i_D11, k_D11⟩, D_D11⟩
  have X_D5 : Mx l.prog w K mg base CD "read_node" 4 ["self", "line", "is_new"] (spReadNode CD CM CL [P_is_name, P_number_in, P_names_of, P_numbers_of, P_links, P_D9]) := ⟨_, _, ok_read_node F_D5 DC LC ne nm ndm X_L4 X_L5, ⟨a_D5, i_D5, k_D5⟩, D_D5⟩
  have X_D8 : Mx l.prog w K mg base CD "read_reader" 4 ["self", "line"] (spReadReader CD CM CL [P_is_name, P_number_in, P_names_of, P_numbers_of, P_links, P_D9]) := ⟨_, _, ok_read_reader F_D8 DC LC ne nm B_tuple X_L6 X_D13 X_names_of, ⟨a_D8, i_D8, k_D8⟩, D_D8⟩
  have X_D6 : Mx l.prog w K mg base CD "read_mend" 5 ["self", "line"] (spReadMend CD CM CL [P_is_name, P_number_in, P_names_of, P_numbers_of, P_links, P_D9] false) := ⟨_, _, ok_read_mend F_D6 DC LC ne nm X_D9 X_D10 X_L3 X_D11 X_M0 X_names_of X_numbers_of, ⟨a_D6, i_D6, k_D6⟩, D_D6⟩
  have X_D7 : Mx l.prog w K mg base CD "read_pair" 5 ["self", "line"] (spReadMend CD CM CL [P_is_name, P_number_in, P_names_of, P_numbers_of, P_links, P_D9] true) := ⟨_, _, ok_read_pair F_D7 DC LC ne nm X_D9 X_D10 X_L3 X_L5 X_D11 X_M0 X_names_of X_numbers_of, ⟨a_D7, i_D7, k_D7⟩, D_D7⟩
  have X_D2 : Mx l.prog w K mg base CD "stands" 1 ["self"] (spStands CD CM) := ⟨_, _, ok_stands F_D2 DC B_len, ⟨a_D2, i_D2, k_D2⟩, D_D2⟩
  have X_D3 : Mx l.prog w K mg base CD "may_have_node" 1 ["self"] (spMayNode CD CM) := ⟨_, _, ok_may_node F_D3 DC B_len, ⟨a_D3, i_D3, k_D3⟩, D_D3⟩
  have X_D4 : Mx l.prog w K mg base CD "may_have_mend" 2 ["self"] (spMayMend CD CM) := ⟨_, _, ok_may_mend F_D4 DC B_len X_D2, ⟨a_D4, i_D4, k_D4⟩, D_D4⟩
  have X_D1 : Mx l.prog w K mg base CD "read" 6 ["self", "line"] (spRead CD CM CL [P_is_name, P_number_in, P_names_of, P_numbers_of, P_links, P_D9]) := ⟨_, _, ok_read F_D1 DC LC ne nm ndm X_L1 X_L5 X_L8 X_D2 X_D3 X_D4 X_D5 X_D6 X_D7 X_D8, ⟨a_D1, i_D1, k_D1⟩, D_D1⟩
  have X_D0 : MkX l.prog w K mg base "Draft" CD 7 ["self", "text"] (spDraftInit CD CM [P_is_name, P_number_in, P_names_of, P_numbers_of, P_links, P_D9]) := ⟨_, _, ok_draft_init F_D0 DC LC ne B_enumerate B_len X_lines_of X_L0 X_D1, ⟨mk_CD, a_D0, i_D0, kc_CD⟩, D_D0, m_CD⟩
  have X_S0 : MkX l.prog w K mg base "Store" CS 9 ["self", "text"] (spStoreInit CS CM [P_is_name, P_number_in, P_names_of, P_numbers_of, P_links, P_D9]) := ⟨_, _, ok_store_init F_S0 SC DC nsm nsd B_tuple X_D0, ⟨mk_CS, a_S0, i_S0, kc_CS⟩, D_S0, m_CS⟩
  have len_nd := List.nodup_cons.mp nd_
  have M_CB : MkE l.prog w K mg base "BadName" CB ["self", "name"] ["name"] := ⟨xc_CB, fun f hf => by simp only [List.mem_singleton] at hf; subst hf; exact no_CB, PySem.W.mg_of X G a_CB, fCB, _, iC_CB, tI_CB, ok_err1 (p4 := ⟨0, 0, 0, 0⟩) F_CB sc_BadName rfl (by first | exact .inl rfl | exact .inr (.inl rfl) | exact .inr (.inr rfl)) (by first | exact .inl rfl | exact .inr (.inl rfl) | exact .inr (.inr rfl)) (by decide) (by decide), D_CB⟩
  have T_CB : Bad K mg "BadName" CB := ⟨xc_CB, PySem.W.mg_of X G a_CB, exm_row r_CB eC_CB⟩
  have M_CN : MkE l.prog w K mg base "NoName" CN ["self", "name"] ["name"] := ⟨xc_CN, fun f hf => by simp only [List.mem_singleton] at hf; subst hf; exact no_CN, PySem.W.mg_of X G a_CN, fCN, _, iC_CN, tI_CN, ok_err1 (p4 := ⟨0, 0, 0, 0⟩) F_CN sc_NoName rfl (by first | exact .inl rfl | exact .inr (.inl rfl) | exact .inr (.inr rfl)) (by first | exact .inl rfl | exact .inr (.inl rfl) | exact .inr (.inr rfl)) (by decide) (by decide), D_CN⟩
  have T_CN : Bad K mg "NoName" CN := ⟨xc_CN, PySem.W.mg_of X G a_CN, exm_row r_CN eC_CN⟩
  have NX : NE K mg CB CN := ⟨T_CB, T_CN, no_CB, no_CN, exm_ne r_CN r_CB eC_CB (fun z => (List.nodup_cons.mp len_nd.2).1 (by rw [z]; simp)) (fun z => len_nd.1 (by rw [z]; simp)), B_repr⟩
  have X_S1B : Mx l.prog w K mg base CS "is_new" 1 ["self", "name"] (spIsNew CS CM) := ⟨_, _, ok_is_new F_S1 SC B_isinstance B_str, ⟨a_S1, i_S1, k_S1⟩, D_S1⟩
  have X_S1 : MxX l.prog w K mg base CS "is_new" 3 ["self", "name"] (spIsNewX K CS CM CB CN) := ⟨_, _, ok_is_newX F_S1 SC B_isinstance B_str M_CB M_CN, ⟨a_S1, i_S1, k_S1⟩, D_S1⟩
  have X_S2 : MxX l.prog w K mg base CS "mend_of" 3 ["self", "label"] (spMendOfX K CS CM CB CN) := ⟨_, _, ok_mend_ofX F_S2 SC MC B_isinstance B_str M_CB M_CN, ⟨a_S2, i_S2, k_S2⟩, D_S2⟩
  have X_w_items : Fx l.prog w K mg base "written_items" 1 ["row"] (spWItems [P_is_name, P_number_in, P_names_of, P_numbers_of, P_links, P_D9]) := ⟨_, _, ok_w_items F_w_items , m_w_items, F_w_items.kp, D_w_items⟩
  have X_links : Fx l.prog w K mg base "links_of" 4 ["mend"] (spLinksOf CM [P_is_name, P_number_in, P_names_of, P_numbers_of, P_links, P_D9]) := ⟨_, _, ok_links_of F_links rfl TB_links IN_links MC B_tuple B_zip, m_links, F_links.kp, D_links⟩
  have X_w_mend : Fx l.prog w K mg base "written_mend" 5 ["mend"] (spWMend CM [P_is_name, P_number_in, P_names_of, P_numbers_of, P_links, P_D9]) := ⟨_, _, ok_w_mend F_w_mend MC X_links X_w_items, m_w_mend, F_w_mend.kp, D_w_mend⟩
  have X_written : Fx l.prog w K mg base "written" 6 ["store"] (spWritten CS CM [P_is_name, P_number_in, P_names_of, P_numbers_of, P_links, P_D9]) := ⟨_, _, ok_written F_written SC B_zip X_S1B X_w_mend X_w_items, m_written, F_written.kp, D_written⟩
  have X_l_tf : Fx l.prog w K mg base "_law_told_fields" 1 ["_law_mend"] (spToldF CM [P_is_name, P_number_in, P_names_of, P_numbers_of, P_links, P_D9]) := ⟨_, _, ok_l_tf F_l_tf MC, m_l_tf, F_l_tf.kp, D_l_tf⟩
  have X_l_other : Fx l.prog w K mg base "_law_other_store" 3 ["_law_pen_here", "_law_store"] (spOther [P_is_name, P_number_in, P_names_of, P_numbers_of, P_links, P_D9]) := ⟨_, _, ok_l_other F_l_other B_dict B_len X_l_draw X_l_pick, m_l_other, F_l_other.kp, D_l_other⟩
  have LL : LW l.prog w K mg base [P_is_name, P_number_in, P_names_of, P_numbers_of, P_links, P_D9] CS CM CB CN := ⟨B_range, B_repr, X_l_pen, X_l_pick, X_l_store, X_l_rows, X_S0, X_M0, X_S1, X_S2, X_l_tf, X_l_text, X_l_other, X_written, ⟨_, _, F_l_ne, m_l_ne, F_l_ne.kp, D_l_ne⟩, NX⟩
  exact ok_law F_law rfl (TB (c_law, P_law) (by simp)) nP_ SC LL
end Z
set_option Elab.async false
set_option linter.all false
set_option maxRecDepth 100000
set_option maxHeartbeats 4000000
open PySem PySem.W PyProof.Rows
local macro_rules | `(tactic| o_head ($f $k $a $e $t)) => if t.raw.getKind == `«term_::_» then `(tactic| o_head (PySem.W.kmHook $k $a $e [310, 490])) else Lean.Macro.throwUnsupported
set_option maxRecDepth 100000 in
set_option maxHeartbeats 0 in
theorem PySem.Challenge.cw_anymend_k07_whole_names_and_forms_holds : PySem.Challenge.rw_anymend_k07_whole_names_and_forms.Holds := by
  w_on; o_law; k_head; (case hw => w_witness2)
  k_fill
  refine Z.walkGT (l := PySem.Challenge.rw_anymend_k07_whole_names_and_forms) (n := 63) (k := 11) (x := "_law_script") ["is_name", "number_in", "names_of", "numbers_of", "links_of", "law"] [310, 490] rfl (by decide) rfl ⟨rfl, by decide, by decide⟩ (by decide +kernel) (fun w h Y => PySem.W.km_in_of Y) (fun w h Y => PySem.W.km_tabs_of Y) ?F
  case F =>
    intro w mg fa h KX G hmg tabs tabm
    refine' Z.all_mk KX G hmg tabs tabm ?n_lines_of ?l_lines_of ?c_lines_of_ ?k_lines_of ?n_is_name ?l_is_name ?c_is_name_ ?k_is_name ?lc_is_name ?tp_is_name ?n_number_in ?l_number_in ?c_number_in_ ?k_number_in ?lc_number_in ?tp_number_in ?n_names_of ?l_names_of ?c_names_of_ ?k_names_of ?lc_names_of ?tp_names_of ?n_numbers_of ?l_numbers_of ?c_numbers_of_ ?k_numbers_of ?lc_numbers_of ?tp_numbers_of ?n_links ?l_links ?c_links_ ?k_links ?lc_links ?tp_links ?n_written ?l_written ?c_written_ ?k_written ?n_w_mend ?l_w_mend ?c_w_mend_ ?k_w_mend ?n_w_items ?l_w_items ?c_w_items_ ?k_w_items ?n_l_pen ?l_l_pen ?c_l_pen_ ?k_l_pen ?n_l_draw ?l_l_draw ?c_l_draw_ ?k_l_draw ?n_l_pick ?l_l_pick ?c_l_pick_ ?k_l_pick ?n_l_name ?l_l_name ?c_l_name_ ?k_l_name ?n_l_names ?l_l_names ?c_l_names_ ?k_l_names ?n_l_links ?l_l_links ?c_l_links_ ?k_l_links ?n_l_mend ?l_l_mend ?c_l_mend_ ?k_l_mend ?n_l_readers ?l_l_readers ?c_l_readers_ ?k_l_readers ?n_l_store ?l_l_store ?c_l_store_ ?k_l_store ?n_l_zeros ?l_l_zeros ?c_l_zeros_ ?k_l_zeros ?n_l_lwords ?l_l_lwords ?c_l_lwords_ ?k_l_lwords ?n_l_rows ?l_l_rows ?c_l_rows_ ?k_l_rows ?n_l_text ?l_l_text ?c_l_text_ ?k_l_text ?n_l_tf ?l_l_tf ?c_l_tf_ ?k_l_tf ?n_l_ne ?l_l_ne ?c_l_ne_ ?k_l_ne ?n_l_other ?l_l_other ?c_l_other_ ?k_l_other ?n_law ?l_law ?c_law_ ?k_law ?lc_law ?tp_law ?aC_CL ?aC_CM ?aC_CD ?aC_CS ?a_L0 ?i_L0 ?l_L0 ?c_L0_ ?k_L0 ?a_L1 ?i_L1 ?l_L1 ?c_L1_ ?k_L1 ?a_L3 ?i_L3 ?l_L3 ?c_L3_ ?k_L3 ?a_L4 ?i_L4 ?l_L4 ?c_L4_ ?k_L4 ?a_L5 ?i_L5 ?l_L5 ?c_L5_ ?k_L5 ?a_L6 ?i_L6 ?l_L6 ?c_L6_ ?k_L6 ?a_L7 ?i_L7 ?l_L7 ?c_L7_ ?k_L7 ?a_L8 ?i_L8 ?l_L8 ?c_L8_ ?k_L8 ?a_M0 ?i_M0 ?l_M0 ?c_M0_ ?k_M0 ?a_D0 ?i_D0 ?l_D0 ?c_D0_ ?k_D0 ?a_D1 ?i_D1 ?l_D1 ?c_D1_ ?k_D1 ?a_D2 ?i_D2 ?l_D2 ?c_D2_ ?k_D2 ?a_D3 ?i_D3 ?l_D3 ?c_D3_ ?k_D3 ?a_D4 ?i_D4 ?l_D4 ?c_D4_ ?k_D4 ?a_D5 ?i_D5 ?l_D5 ?c_D5_ ?k_D5 ?a_D6 ?i_D6 ?l_D6 ?c_D6_ ?k_D6 ?a_D7 ?i_D7 ?l_D7 ?c_D7_ ?k_D7 ?a_D8 ?i_D8 ?l_D8 ?c_D8_ ?k_D8 ?a_D9 ?i_D9 ?l_D9 ?c_D9_ ?k_D9 ?lc_D9 ?tp_D9 ?a_D10 ?i_D10 ?l_D10 ?c_D10_ ?k_D10 ?a_D11 ?i_D11 ?l_D11 ?c_D11_ ?k_D11 ?a_D12 ?i_D12 ?l_D12 ?c_D12_ ?k_D12 ?a_D13 ?i_D13 ?l_D13 ?c_D13_ ?k_D13 ?a_S0 ?i_S0 ?l_S0 ?c_S0_ ?k_S0 ?a_S1 ?i_S1 ?l_S1 ?c_S1_ ?k_S1 ?a_S2 ?i_S2 ?l_S2 ?c_S2_ ?k_S2 ?hcD9 ?mtD9 ?pg_CL ?hd_CL ?po_CL ?sa_CL ?mk_CL ?kc_CL ?no_CL_number ?no_CL_words ?no_CL_many ?pg_CM ?hd_CM ?po_CM ?sa_CM ?mk_CM ?kc_CM ?no_CM_label ?no_CM_kind ?no_CM_nodes ?no_CM_helpers ?no_CM_amounts ?no_CM_swap ?pg_CD ?hd_CD ?po_CD ?sa_CD ?mk_CD ?kc_CD ?no_CD_file ?no_CD_nodes ?no_CD_rooms ?no_CD_news ?no_CD_mends ?no_CD_readers ?pg_CS ?hd_CS ?po_CS ?sa_CS ?mk_CS ?kc_CS ?no_CS_text ?no_CS_file ?no_CS_nodes ?no_CS_rooms ?no_CS_news ?no_CS_mends ?no_CS_readers ?q1 ?q2 ?q3 ?q4 ?q5 ?gL_ ?gD_ ?gN_ ?gU_ ?gM_ ?gK_ ?b_int ?b_list ?b_len ?b_range ?b_str ?b_min ?b_enumerate ?b_isinstance ?b_tuple ?b_zip ?b_all ?b_any ?b_repr ?b_dict ?hn_ ?ht_ ?a_CB ?x_CB ?sa_CB ?ga_CB ?gg_CB ?cc_CB ?eC_CB ?tC_CB ?kC_CB ?hC_CB ?hm_CB ?iC_CB ?tI_CB ?li_CB ?ci_CB ?ki_CB ?no_CB ?a_CN ?x_CN ?sa_CN ?ga_CN ?gg_CN ?cc_CN ?eC_CN ?tC_CN ?kC_CN ?hC_CN ?hm_CN ?iC_CN ?tI_CN ?li_CN ?ci_CN ?ki_CN ?no_CN ?nd_ ?nP_ ?ntb
    (case n_lines_of => k_is)
    (case l_lines_of => k_is)
    (case c_lines_of_ => k_is)
    (case k_lines_of => k_is)
    (case n_is_name => k_is)
    (case l_is_name => k_is)
    (case c_is_name_ => k_is)
    (case k_is_name => k_is)
    (case lc_is_name => k_is)
    (case tp_is_name => rfl)
    (case n_number_in => k_is)
    (case l_number_in => k_is)
    (case c_number_in_ => k_is)
    (case k_number_in => k_is)
    (case lc_number_in => k_is)
    (case tp_number_in => rfl)
    (case n_names_of => k_is)
    (case l_names_of => k_is)
    (case c_names_of_ => k_is)
    (case k_names_of => k_is)
    (case lc_names_of => k_is)
    (case tp_names_of => rfl)
    (case n_numbers_of => k_is)
    (case l_numbers_of => k_is)
    (case c_numbers_of_ => k_is)
    (case k_numbers_of => k_is)
    (case lc_numbers_of => k_is)
    (case tp_numbers_of => rfl)
    (case n_links => k_is)
    (case l_links => k_is)
    (case c_links_ => k_is)
    (case k_links => k_is)
    (case lc_links => k_is)
    (case tp_links => rfl)
    (case n_written => k_is)
    (case l_written => k_is)
    (case c_written_ => k_is)
    (case k_written => k_is)
    (case n_w_mend => k_is)
    (case l_w_mend => k_is)
    (case c_w_mend_ => k_is)
    (case k_w_mend => k_is)
    (case n_w_items => k_is)
    (case l_w_items => k_is)
    (case c_w_items_ => k_is)
    (case k_w_items => k_is)
    (case n_l_pen => k_is)
    (case l_l_pen => k_is)
    (case c_l_pen_ => k_is)
    (case k_l_pen => k_is)
    (case n_l_draw => k_is)
    (case l_l_draw => k_is)
    (case c_l_draw_ => k_is)
    (case k_l_draw => k_is)
    (case n_l_pick => k_is)
    (case l_l_pick => k_is)
    (case c_l_pick_ => k_is)
    (case k_l_pick => k_is)
    (case n_l_name => k_is)
    (case l_l_name => k_is)
    (case c_l_name_ => k_is)
    (case k_l_name => k_is)
    (case n_l_names => k_is)
    (case l_l_names => k_is)
    (case c_l_names_ => k_is)
    (case k_l_names => k_is)
    (case n_l_links => k_is)
    (case l_l_links => k_is)
    (case c_l_links_ => k_is)
    (case k_l_links => k_is)
    (case n_l_mend => k_is)
    (case l_l_mend => k_is)
    (case c_l_mend_ => k_is)
    (case k_l_mend => k_is)
    (case n_l_readers => k_is)
    (case l_l_readers => k_is)
    (case c_l_readers_ => k_is)
    (case k_l_readers => k_is)
    (case n_l_store => k_is)
    (case l_l_store => k_is)
    (case c_l_store_ => k_is)
    (case k_l_store => k_is)
    (case n_l_zeros => k_is)
    (case l_l_zeros => k_is)
    (case c_l_zeros_ => k_is)
    (case k_l_zeros => k_is)
    (case n_l_lwords => k_is)
    (case l_l_lwords => k_is)
    (case c_l_lwords_ => k_is)
    (case k_l_lwords => k_is)
    (case n_l_rows => k_is)
    (case l_l_rows => k_is)
    (case c_l_rows_ => k_is)
    (case k_l_rows => k_is)
    (case n_l_text => k_is)
    (case l_l_text => k_is)
    (case c_l_text_ => k_is)
    (case k_l_text => k_is)
    (case n_l_tf => k_is)
    (case l_l_tf => k_is)
    (case c_l_tf_ => k_is)
    (case k_l_tf => k_is)
    (case n_l_ne => k_is)
    (case l_l_ne => k_is)
    (case c_l_ne_ => k_is)
    (case k_l_ne => k_is)
    (case n_l_other => k_is)
    (case l_l_other => k_is)
    (case c_l_other_ => k_is)
    (case k_l_other => k_is)
    (case n_law => k_is)
    (case l_law => k_is)
    (case c_law_ => k_is)
    (case k_law => k_is)
    (case lc_law => k_is)
    (case tp_law => rfl)
    (case aC_CL => k_is)
    (case aC_CM => k_is)
    (case aC_CD => k_is)
    (case aC_CS => k_is)
    (case a_L0 => k_is)
    (case i_L0 => k_is)
    (case l_L0 => k_is)
    (case c_L0_ => k_is)
    (case k_L0 => k_is)
    (case a_L1 => k_is)
    (case i_L1 => k_is)
    (case l_L1 => k_is)
    (case c_L1_ => k_is)
    (case k_L1 => k_is)
    (case a_L3 => k_is)
    (case i_L3 => k_is)
    (case l_L3 => k_is)
    (case c_L3_ => k_is)
    (case k_L3 => k_is)
    (case a_L4 => k_is)
    (case i_L4 => k_is)
    (case l_L4 => k_is)
    (case c_L4_ => k_is)
    (case k_L4 => k_is)
    (case a_L5 => k_is)
    (case i_L5 => k_is)
    (case l_L5 => k_is)
    (case c_L5_ => k_is)
    (case k_L5 => k_is)
    (case a_L6 => k_is)
    (case i_L6 => k_is)
    (case l_L6 => k_is)
    (case c_L6_ => k_is)
    (case k_L6 => k_is)
    (case a_L7 => k_is)
    (case i_L7 => k_is)
    (case l_L7 => k_is)
    (case c_L7_ => k_is)
    (case k_L7 => k_is)
    (case a_L8 => k_is)
    (case i_L8 => k_is)
    (case l_L8 => k_is)
    (case c_L8_ => k_is)
    (case k_L8 => k_is)
    (case a_M0 => k_is)
    (case i_M0 => k_is)
    (case l_M0 => k_is)
    (case c_M0_ => k_is)
    (case k_M0 => k_is)
    (case a_D0 => k_is)
    (case i_D0 => k_is)
    (case l_D0 => k_is)
    (case c_D0_ => k_is)
    (case k_D0 => k_is)
    (case a_D1 => k_is)
    (case i_D1 => k_is)
    (case l_D1 => k_is)
    (case c_D1_ => k_is)
    (case k_D1 => k_is)
    (case a_D2 => k_is)
    (case i_D2 => k_is)
    (case l_D2 => k_is)
    (case c_D2_ => k_is)
    (case k_D2 => k_is)
    (case a_D3 => k_is)
    (case i_D3 => k_is)
    (case l_D3 => k_is)
    (case c_D3_ => k_is)
    (case k_D3 => k_is)
    (case a_D4 => k_is)
    (case i_D4 => k_is)
    (case l_D4 => k_is)
    (case c_D4_ => k_is)
    (case k_D4 => k_is)
    (case a_D5 => k_is)
    (case i_D5 => k_is)
    (case l_D5 => k_is)
    (case c_D5_ => k_is)
    (case k_D5 => k_is)
    (case a_D6 => k_is)
    (case i_D6 => k_is)
    (case l_D6 => k_is)
    (case c_D6_ => k_is)
    (case k_D6 => k_is)
    (case a_D7 => k_is)
    (case i_D7 => k_is)
    (case l_D7 => k_is)
    (case c_D7_ => k_is)
    (case k_D7 => k_is)
    (case a_D8 => k_is)
    (case i_D8 => k_is)
    (case l_D8 => k_is)
    (case c_D8_ => k_is)
    (case k_D8 => k_is)
    (case a_D9 => k_is)
    (case i_D9 => k_is)
    (case l_D9 => k_is)
    (case c_D9_ => k_is)
    (case k_D9 => k_is)
    (case lc_D9 => k_is)
    (case tp_D9 => rfl)
    (case a_D10 => k_is)
    (case i_D10 => k_is)
    (case l_D10 => k_is)
    (case c_D10_ => k_is)
    (case k_D10 => k_is)
    (case a_D11 => k_is)
    (case i_D11 => k_is)
    (case l_D11 => k_is)
    (case c_D11_ => k_is)
    (case k_D11 => k_is)
    (case a_D12 => k_is)
    (case i_D12 => k_is)
    (case l_D12 => k_is)
    (case c_D12_ => k_is)
    (case k_D12 => k_is)
    (case a_D13 => k_is)
    (case i_D13 => k_is)
    (case l_D13 => k_is)
    (case c_D13_ => k_is)
    (case k_D13 => k_is)
    (case a_S0 => k_is)
    (case i_S0 => k_is)
    (case l_S0 => k_is)
    (case c_S0_ => k_is)
    (case k_S0 => k_is)
    (case a_S1 => k_is)
    (case i_S1 => k_is)
    (case l_S1 => k_is)
    (case c_S1_ => k_is)
    (case k_S1 => k_is)
    (case a_S2 => k_is)
    (case i_S2 => k_is)
    (case l_S2 => k_is)
    (case c_S2_ => k_is)
    (case k_S2 => k_is)
    (case hcD9 => kernel_rfl)
    (case mtD9 => decide)
    (case pg_CL => k_is)
    (case hd_CL => k_is)
    (case po_CL => k_is)
    (case sa_CL => k_is)
    (case mk_CL => k_is)
    (case kc_CL => k_is)
    (case no_CL_number => k_is)
    (case no_CL_words => k_is)
    (case no_CL_many => k_is)
    (case pg_CM => k_is)
    (case hd_CM => k_is)
    (case po_CM => k_is)
    (case sa_CM => k_is)
    (case mk_CM => k_is)
    (case kc_CM => k_is)
    (case no_CM_label => k_is)
    (case no_CM_kind => k_is)
    (case no_CM_nodes => k_is)
    (case no_CM_helpers => k_is)
    (case no_CM_amounts => k_is)
    (case no_CM_swap => k_is)
    (case pg_CD => k_is)
    (case hd_CD => k_is)
    (case po_CD => k_is)
    (case sa_CD => k_is)
    (case mk_CD => k_is)
    (case kc_CD => k_is)
    (case no_CD_file => k_is)
    (case no_CD_nodes => k_is)
    (case no_CD_rooms => k_is)
    (case no_CD_news => k_is)
    (case no_CD_mends => k_is)
    (case no_CD_readers => k_is)
    (case pg_CS => k_is)
    (case hd_CS => k_is)
    (case po_CS => k_is)
    (case sa_CS => k_is)
    (case mk_CS => k_is)
    (case kc_CS => k_is)
    (case no_CS_text => k_is)
    (case no_CS_file => k_is)
    (case no_CS_nodes => k_is)
    (case no_CS_rooms => k_is)
    (case no_CS_news => k_is)
    (case no_CS_mends => k_is)
    (case no_CS_readers => k_is)
    (case q1 => k_is)
    (case q2 => k_is)
    (case q3 => k_is)
    (case q4 => k_is)
    (case q5 => k_is)
    (case gL_ => k_is)
    (case gD_ => k_is)
    (case gN_ => k_is)
    (case gU_ => k_is)
    (case gM_ => k_is)
    (case gK_ => k_is)
    (case b_int => k_is)
    (case b_list => k_is)
    (case b_len => k_is)
    (case b_range => k_is)
    (case b_str => k_is)
    (case b_min => k_is)
    (case b_enumerate => k_is)
    (case b_isinstance => k_is)
    (case b_tuple => k_is)
    (case b_zip => k_is)
    (case b_all => k_is)
    (case b_any => k_is)
    (case b_repr => k_is)
    (case b_dict => k_is)
    (case hn_ => k_is)
    (case ht_ => k_is)
    (case a_CB => k_is)
    (case x_CB => k_is)
    (case sa_CB => k_is)
    (case ga_CB => k_is)
    (case gg_CB => k_is)
    (case cc_CB => k_is)
    (case eC_CB => k_is)
    (case tC_CB => k_is)
    (case kC_CB => k_is)
    (case hC_CB => k_is)
    (case hm_CB => k_is)
    (case iC_CB => k_is)
    (case tI_CB => k_is)
    (case li_CB => k_is)
    (case ci_CB => k_is)
    (case ki_CB => k_is)
    (case no_CB => k_is)
    (case a_CN => k_is)
    (case x_CN => k_is)
    (case sa_CN => k_is)
    (case ga_CN => k_is)
    (case gg_CN => k_is)
    (case cc_CN => k_is)
    (case eC_CN => k_is)
    (case tC_CN => k_is)
    (case kC_CN => k_is)
    (case hC_CN => k_is)
    (case hm_CN => k_is)
    (case iC_CN => k_is)
    (case tI_CN => k_is)
    (case li_CN => k_is)
    (case ci_CN => k_is)
    (case ki_CN => k_is)
    (case no_CN => k_is)
    (case nd_ => decide)
    (case nP_ => decide)
    (case ntb => kernel_rfl)
