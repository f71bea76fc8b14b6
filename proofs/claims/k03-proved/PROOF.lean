import PyProof.Rows.All
import Wide.All
import OpenK.AllK
import Wide.FinOn
import HandS.AnyAll
import HandS.GenList
import HandS.Words
import HandS.ForMost
import HandS.IsInst
import HandS.Deep
import HandS.TupAny
import HandS.TupMul
import KE.GoesEnum
import HandS.StrMore
import HandS.TupLe
import HandS.Dict
import HandS.DictComp
import KE.KDictDisplayH
import HandS.TupLen
import HandS.SetKeys
import KE.KeyNested
import HandS.Style
import HandS.ForExc
import KE.DataMinMax
import KE.SortData
import HandS.Walk
import PyProof.ReprLen
import PyProof.ReprRoads
import HandS.ExcIs
import HandS.Lambda
import KE.KNestM
import HandS.HeadWalk
import PySem.Challenge.RW_allboughs_k03_whole_least_woods
set_option Elab.async false
set_option linter.all false
set_option maxRecDepth 100000
set_option maxHeartbeats 1000000
/-! Gx0: the frame of a generator expression as a context of its own. -/
namespace Gx
open PySem PySem.Spec PyProof.Rows L2 GenW

/-- the code of the expression behind its start -/
abbrev loopOf (tg iter elt : Expr) (scope : Scope) (pos : Pos) (it : Addr) (env : Env) : Code :=
  .compLoop (.GeneratorExp elt [⟨tg, iter, [], 0⟩] scope pos) 0 (.ref it) .none env
abbrev beginOf (tg iter elt : Expr) (scope : Scope) (pos : Pos) (it : Addr) (env : Env) : Code :=
  .compStart (.GeneratorExp elt [⟨tg, iter, [], 0⟩] scope pos) 0 (.ref it) .none env
abbrev caught (X : Cx) (scope : Scope) : List (Str × Addr) := cloFrom X.env.cells scope.names []

def inner (X : Cx) (scope : Scope) (code : Value) (N : List Str) (A : Around) (s : Shared) (H : Hp) (ex : List Addr) : Cx where
  prog := X.prog
  w := X.w
  K := X.K
  mg := X.mg
  base := X.base
  A := A
  N := N
  s_0 := s
  H_0 := H
  env := genEnv scope (caught X scope) s.heap.objs.size code builtinsNs X.env
  outer := X.stack
  stack := genEnv scope (caught X scope) s.heap.objs.size code builtinsNs X.env :: X.stack
  ex := ex
  fn := fun _ => false
  calm := true
  pn := []
  xe := fun _ _ => False

/-- what is written of the expression's scope; js: for each of its names the place in the def's names, if it is caught there -/
structure ScopeOk (X : Cx) (scope : Scope) (N : List Str) (js : List (Option Nat)) : Prop where
  kind : scope.kind = .function
  co : scope.isCoroutine = false
  cell : ∀ y ∈ scope.names, y.2 ≠ .cell
  dot : scope.names.lookup (".0" : Str) = some NameKind.local
  free : ∀ y ∈ scope.names, y.2 = .free → ∃ c, X.env.cells.lookup y.1 = some c
  len : js.length = N.length
  cap : ∀ (i j : Nat), js[i]? = some (some j) → ∃ x, N[i]? = some x ∧ X.N[j]? = some x ∧ scope.names.lookup x = some .free ∧ (X.env.scope.names.lookup x = some .cell ∨ X.env.scope.names.lookup x = some .free)
/-- the expression's own slots at its start -/
def begun (js : List (Option Nat)) (σ : L2.St) : L2.St := js.map fun o => o.bind fun j => (σ[j]?).join

theorem caught_get {X : Cx} {scope : Scope} {x : Str} {c : Addr} (S : ∀ y ∈ scope.names, y.2 = .free → ∃ c, X.env.cells.lookup y.1 = some c) (h : (caught X scope).lookup x = some c) : X.env.cells.lookup x = some c := by
  rcases cloFrom_mem (PySem.mem_of_lookup h) with z | ⟨z, e⟩
  · cases z
  · obtain ⟨c', hc⟩ := S _ z rfl
    have hc2 : X.env.cells.lookup x = some c' := hc
    rw [e, hc2]
    rfl
theorem caught_has {X : Cx} {scope : Scope} {x : Str} (S : ∀ y ∈ scope.names, y.2 = .free → ∃ c, X.env.cells.lookup y.1 = some c) (h : scope.names.lookup x = some .free) : ∃ c, (caught X scope).lookup x = some c ∧ X.env.cells.lookup x = some c := by
  obtain ⟨c, hc⟩ := mem_lookup (cloFrom_has (cells := X.env.cells) (acc := []) (PySem.mem_of_lookup h))
  exact ⟨c, hc, caught_get S hc⟩

section
variable {X : Cx} {pins : List (Addr × Obj)} {σ : L2.St} {H : Hp} {s s5 : Shared} {scope : Scope} {N : List Str} {js : List (Option Nat)} {A : Around} {fp : List Addr} {a : Addr} {go : Obj} {code : Value}

theorem fp_apart (I : Inv X pins σ H s) (hf : ∀ b ∈ fp, FpOk X pins H b) : ∀ b ∈ fp, b ∉ frs X.stack := fun b hb hm => by
  obtain ⟨_, h2, h3, _⟩ := hf b hb
  rcases List.mem_cons.mp (I.stkSub b hm) with z | z
  · exact h2 z
  · exact h3 z

theorem start_inv (S : ScopeOk X scope N js) (I : Inv X pins σ H s) (hA : A.handled = none) (hfr : A.frames = some (genEnv scope (caught X scope) s.heap.objs.size code builtinsNs X.env :: X.stack))
    (hf : ∀ b ∈ fp, FpOk X pins H b) (hlt : ∀ b ∈ fp, b < s.heap.objs.size) (keep : ∀ b o, s.heap.get? b = some o → s5.heap.get? b = some o) (hos : s5.os = s.os) (hba : AllBare s5.gens)
    (m : Str → Option Value) (hns : s5.heap.Ns s.heap.objs.size m) (ha : s.heap.objs.size < a) (hgo : s5.heap.get? a = some go) (hgc : ∀ v, go.data ≠ .cell v) :
    Inv (inner X scope code N A s H fp) [(a, go)] (begun js σ) H s5 := by
  have cg := fun {x : Str} {c : Addr} (h : (caught X scope).lookup x = some c) => caught_get S.free h
  refine ⟨⟨I.ok.mod, S.kind, I.ok.glob, rfl, Nat.le_refl _, fun x y c h1 h2 => I.ok.inj x y c (cg h1) (cg h2), fun x hx => ?_, fun x c h _ => ?_, fun _ => hA, hfr, .inr ⟨rfl, rfl⟩, fun b hb => ⟨Nat.ne_of_lt (hlt b hb), fun x c h => (hf b hb).2.2.2.2.1 x c (cg h)⟩,
    I.bs, Nat.le_trans I.ok.bsz I.sz, fun b o e hb => ?_, fun b hb => fp_apart I hf b hb, I.stack, I.stkFree⟩,
    hos, hba, Un.kept keep, ⟨m, hns, fun i x v h1 h2 h3 => ?_⟩, fun x c h => ?_, I.hok.fresh (Nat.le_refl _), fun x c h => I.freeC x c (cg h), fun p hp => ?_, I.hok.kept keep, ?_⟩
  · have hx' : scope.names.lookup x = some .cell ∨ scope.names.lookup x = some .free := hx
    rcases hx' with z | z
    · exact absurd rfl (S.cell _ (PySem.mem_of_lookup z))
    · obtain ⟨c, hc, _⟩ := caught_has S.free z
      exact ⟨c, hc⟩
  · cases h
  · obtain ⟨_, _, _, h4, _⟩ := hf b hb
    rcases h4 with z | z
    · exact I.ok.noex b o e z
    · exact absurd (Nat.lt_of_lt_of_le (Heap.lt_size e) (Nat.le_trans I.ok.bsz z)) (Nat.lt_irrefl _)
  · have h1 : N[i]? = some x := h1
    unfold begun at h2
    rw [List.getElem?_map] at h2
    cases hj : js[i]? with
    | none => rw [hj] at h2; cases h2
    | some o =>
      cases o with
      | none => rw [hj] at h2; cases h2
      | some j =>
        rw [hj] at h2
        have h2 : (σ[j]?).join = some v := Option.some.inj h2
        obtain ⟨x', e1, e2, e3, e4⟩ := S.cap i j hj
        rw [h1] at e1
        cases e1
        have hσ : σ[j]? = some (some v) := by
          cases q : σ[j]? with
          | none => rw [q] at h2; cases h2
          | some o2 =>
            cases o2 with
            | none => rw [q] at h2; cases h2
            | some v2 => rw [q] at h2; cases h2; rfl
        obtain ⟨mo, _, look⟩ := I.loc
        obtain ⟨u, ru, lk⟩ := look j x v e2 hσ (e4.elim (fun z => .inr (.inl z)) fun z => .inr (.inr z))
        refine ⟨u, ru, .inr ⟨.inr e3, ?_⟩⟩
        rcases lk with ⟨z, _⟩ | ⟨_, c, hc, cell⟩
        · have z : X.env.scope.names.lookup x = some .local := z
          rcases e4 with w | w
          · rw [w] at z; cases z
          · rw [w] at z; cases z
        · obtain ⟨c', hc', hx'⟩ := caught_has S.free e3
          rw [hc] at hx'
          cases hx'
          obtain ⟨ob, ho, hd⟩ := cell
          exact ⟨c, hc', ob, keep _ _ ho, hd⟩
  · obtain ⟨v, ob, ho, hd⟩ := I.cell x c (cg h)
    exact ⟨v, ob, keep _ _ ho, hd⟩
  · have hp' : p ∈ ([] : List (Addr × Obj)) ++ [(a, go)] := hp
    rw [List.nil_append] at hp'
    rw [List.mem_singleton.mp hp']
    refine ⟨hgo, I.hok.fresh (Nat.le_of_lt ha), Nat.ne_of_gt ha, fun hm => ?_, hgc⟩
    have hm' : a ∈ frs X.stack := hm
    rcases List.mem_cons.mp (I.stkSub a hm') with z | z
    · exact absurd (Nat.lt_trans I.lt (by rw [← z]; exact ha)) (Nat.lt_irrefl _)
    · exact I.nofs (Nat.le_of_lt ha) z
  · show (begun js σ).length = N.length
    unfold begun
    rw [List.length_map]
    exact S.len

/-- the iterator's objects, in the expression's own frame -/
theorem start_fp (S : ScopeOk X scope N js) (I : Inv X pins σ H s) (hf : ∀ b ∈ fp, FpOk X pins H b) (hlt : ∀ b ∈ fp, b < s.heap.objs.size) (ha : s.heap.objs.size < a) {H' : Hp} (hn : ∀ b ∈ fp, H' b = none) : ∀ b ∈ fp, FpOk (inner X scope code N A s H fp) [(a, go)] H' b := fun b hb =>
  ⟨hn b hb, Nat.ne_of_lt (hlt b hb), fp_apart I hf b hb, .inl hb, fun x c h => (hf b hb).2.2.2.2.1 x c (caught_get S.free h), fun p hp => by
    have hp' : p ∈ ([] : List (Addr × Obj)) ++ [(a, go)] := hp
    rw [List.nil_append] at hp'
    rw [List.mem_singleton.mp hp']
    exact Nat.ne_of_gt (Nat.lt_trans (hlt b hb) ha)⟩

/-- back in the def -/
theorem back_inv {σ' : L2.St} {H' : Hp} {s' : Shared} {gp : List (Addr × Obj)} (I : Inv X pins σ H s) (hf : ∀ b ∈ fp, FpOk X pins H b) (J : Inv (inner X scope code N A s H fp) gp σ' H' s') : Inv X pins σ H' s' :=
  I.call' (ch := fp) J.os J.base J.hok J.bare fun b hb => let ⟨_, h2, _, h4, h5, h6⟩ := hf b hb; ⟨h4, h2, h5, h6⟩
end
end Gx


set_option Elab.async false
set_option linter.all false
set_option maxRecDepth 100000
set_option maxHeartbeats 1000000
/-! Gx1: all and any over a generator expression whose elements may call. -/
namespace Gx
open PySem PySem.Spec PyProof.Rows L2 GenW

/-- what the consumer does while the generator sleeps -/
structure Idle (s s' : Shared) : Prop where
  os : s'.os = s.os
  bare : AllBare s'.gens
  keep : ∀ b o, s.heap.get? b = some o → s'.heap.get? b = some o
theorem Idle.refl {s : Shared} (h : AllBare s.gens) : Idle s s := ⟨rfl, h, fun _ _ e => e⟩

section
variable {Y : Cx} {a : Addr} {go : Obj}
def At (Y : Cx) (a : Addr) (go : Obj) (R : Hp → Prop) (s : Shared) : Prop := ∃ σ H, Inv Y [(a, go)] σ H s ∧ R H
theorem inv_idle {pins : List (Addr × Obj)} {σ : L2.St} {H : Hp} {s s' : Shared} (I : Inv Y pins σ H s) (z : Idle s s') : Inv Y pins σ H s' :=
  I.call' (ch := []) z.os (Un.kept z.keep) (I.hok.kept z.keep) z.bare fun b hb => by simp at hb
theorem At.idle {R : Hp → Prop} {s s' : Shared} (h : At Y a go R s) (z : Idle s s') : At Y a go R s' := by
  obtain ⟨σ, H, I, q⟩ := h
  exact ⟨σ, H, inv_idle I z, q⟩
theorem pin_go {σ : L2.St} {H : Hp} {s : Shared} (I : Inv Y [(a, go)] σ H s) : s.heap.get? a = some go :=
  (I.pin (a, go) (List.mem_append_right _ (List.mem_singleton.mpr rfl))).1

/-- the protocol: truths go out; behind the one that stops nothing more is asked -/
def Says (Y : Cx) (a : Addr) (go : Obj) (z : Bool) (QZ : Hp → Prop) : Protocol := fun n s₀ v s kap =>
  ∃ b, v = .bool b ∧ (∃ σ H, Inv Y [(a, go)] σ H s ∧ (b = z → QZ H)) ∧ (b ≠ z → ∀ s', Idle s s' → kap (.send .none) s')
def Ends (Y : Cx) (a : Addr) (go : Obj) (QT : Hp → Prop) : GenEnd := fun n s₀ r s₁ =>
  ((r = .ok (.ret .none) ∨ r = .ok .next) ∧ At Y a go QT s₁) ∨ ∃ e, r = .error e ∧ False
end

section
variable {Y : Cx} {tg iter elt : Expr} {scope : Scope} {pos : Pos} {it a : Addr} {go : Obj} {B : Around} {g : TG} {te : TE} {J : It} {fp : List Addr} {tn : Nat → Heap → Prop} {z : Bool} {QZ QT : Hp → Prop} {W : Nat → Nat → L2.St → Hp → Prop}

theorem seg_loop (hA : Y.A = B.over (loopOf tg iter elt scope pos it Y.env) []) (hco : Y.env.scope.isCoroutine = false) (hcalm : Y.calm = true) (hxe : Y.xe = fun _ _ => False)
    (hg : PG Y tg g) (he : PE Y elt te) (T : Turn Y.prog Y.w Y.K tg J fp it tn) (hf : ∀ {H' : Hp}, (∀ b ∈ fp, H' b = none) → ∀ b ∈ fp, FpOk Y [(a, go)] H' b)
    (turn : ∀ i m σ H, W i m σ H → (J.stop i H ∧ QT H) ∨ (J.go i H ∧ ∀ x H', J.yld i H x H' → g x σ H' fun σ2 H2 => te σ2 H2 fun v H3 => ∃ b, v = .bl b ∧ (b = z → QZ H3) ∧ (b ≠ z → ∃ m', m' < m ∧ W (i + 1) m' σ2 H3))) :
    ∀ (m i n : Nat) (s₀ s : Shared) (σ : L2.St) (H : Hp), m < n → Inv Y [(a, go)] σ H s → tn i s.heap → (∀ b ∈ fp, H b = none) → W i m σ H →
      Seg (model Y.prog Y.w) B (Ends Y a go QT) (Says Y a go z QZ) n s₀ (loopOf tg iter elt scope pos it Y.env) ((model Y.prog Y.w).den (loopOf tg iter elt scope pos it Y.env)) [] s := by
  have no : ∀ {e : Value} {s : Shared}, Y.xe e s → False := fun {e s} h => by rw [hxe] at h; exact h
  intro m
  induction m using Nat.strongRecOn with
  | ind m ih =>
    intro i n s₀ s σ H hn I st hfn w
    obtain ⟨n, rfl⟩ : ∃ k, n = k + 1 := ⟨n - 1, by omega⟩
    show Seg _ B _ _ _ s₀ _ ((compTurn (.GeneratorExp elt [⟨tg, iter, [], 0⟩] scope pos) 0 (.ref it) .none Y.env).onRaise (leaving Y.env)) [] s
    rw [compTurn_gen, Sem.onRaise_eq_wrap]
    refine seg_bind_wrap (wpAny_standAt ?_)
    rcases turn i m σ H w with ⟨stop, qt⟩ | ⟨goes, step⟩
    · refine seg_bind_wrap ?_
      rw [← hA]
      refine wpAny_mono (T.done Y rfl rfl rfl hcalm i _ s σ H (fun _ _ => False) I (hf hfn) st stop) (fun r s1 ⟨hr, I1⟩ => ?_) fun _ _ q => q.elim
      subst hr
      exact seg_end (.ok .next) (.inl ⟨.inr rfl, σ, H, I1, qt⟩)
    · refine seg_bind_wrap ?_
      rw [← hA]
      refine wpAny_mono (T.item Y rfl rfl rfl hcalm i _ s σ H (fun _ _ => False) I (hf hfn) st goes) (fun r s1 ⟨u, hr, h1⟩ => ?_) fun _ _ q => q.elim
      subst hr
      refine seg_bind_wrap ?_
      rw [← hA]
      refine wpAny_mono h1 (fun _ s2 ⟨x, H2, I2, rx, yx, st2, fn2⟩ => ?_) fun _ _ q => q.elim
      have I2' := I2.pinned (hf fn2) (T.obj _ _ st2)
      refine seg_bind_wrap ?_
      rw [← hA]
      refine wpAny_mono (hg.run _ s2 σ H2 x u _ I2' rx (step x H2 yx)) (fun _ s3 ⟨σ3, H3, I3, q3⟩ => ?_) fun _ _ q => (no q).elim
      refine seg_bind_wrap ?_
      simp only [List.forIn_nil]
      refine wpAny_pure ?_
      simp only [if_true]
      have hy : ∀ v, yieldOut Y.env v = yieldValue v := fun v => by simp only [yieldOut, hco, Bool.false_eq_true, if_false]
      simp only [hy]
      rw [Sem.bind_eq_wrap', Sem.bind_eq_wrap', Sem.wrap_wrap, Sem.wrap_wrap]
      refine seg_wrap ?_
      rw [← hA]
      refine wpAny_mono (he.run _ s3 σ3 H3 _ I3 q3) (fun y s4 ⟨v, H4, I4, rv, b, ev, qz, qn⟩ => ?_) fun _ _ q => (no q).elim
      subst ev
      have ey : y = Value.bool b := rv
      subst ey
      have tn4 : ∀ {s' : Shared}, (∀ b o, s4.heap.get? b = some o → s'.heap.get? b = some o) → tn (i + 1) s'.heap := fun {s'} k => T.keep _ _ _ st2 fun b hb o e =>
        k b o (I4.pin (b, o) (List.mem_append_right _ (List.mem_append_right _ (mem_pinsAt hb e)))).1
      have fn4 : ∀ b ∈ fp, H4 b = none := fun b hb => by
        obtain ⟨o, e, d⟩ := T.obj _ _ st2 b hb
        exact (I4.pin (b, o) (List.mem_append_right _ (List.mem_append_right _ (mem_pinsAt hb e)))).2.1
      refine seg_at (seg_yield rfl rfl rfl ⟨b, rfl, ⟨σ3, H4, I4.unpinned, qz⟩, fun hb s' zz => ?_⟩)
      obtain ⟨m', hm, w'⟩ := qn hb
      exact seg_again rfl (ih m' hm (i + 1) n s' s' σ3 H4 (by omega) (inv_idle I4.unpinned zz) (tn4 zz.keep) fn4 w')

theorem seg_begin {n : Nat} {s₀ s : Shared} (htn : tn 0 s.heap) (T : Turn Y.prog Y.w Y.K tg J fp it tn)
    (loop : Seg (model Y.prog Y.w) B (Ends Y a go QT) (Says Y a go z QZ) n s₀ (loopOf tg iter elt scope pos it Y.env) ((model Y.prog Y.w).den (loopOf tg iter elt scope pos it Y.env)) [] s) :
    Seg (model Y.prog Y.w) B (Ends Y a go QT) (Says Y a go z QZ) n s₀ (beginOf tg iter elt scope pos it Y.env) ((model Y.prog Y.w).den (beginOf tg iter elt scope pos it Y.env)) [] s := by
  show Seg _ B _ _ _ s₀ _ ((compStart (.GeneratorExp elt [⟨tg, iter, [], 0⟩] scope pos) 0 (.ref it) .none Y.env).onRaise (leaving Y.env)) [] s
  unfold compStart
  rw [Sem.onRaise_eq_wrap]
  show Seg _ B _ _ _ s₀ _ ((ask >>= _).wrap _ _ _ _) [] s
  refine seg_bind_wrap (wpAny_askSetting ?_)
  split
  · exact seg_again rfl loop
  · first
      | exact seg_bind_wrap (wpAny_rule (seg_bind_wrap (wpAny_standAt (seg_bind_wrap (T.self _ 0 s _ _ htn (seg_again rfl loop))))))
      | (refine seg_bind_wrap (wpAny_rule ?_); show Seg _ B _ _ _ s₀ _ ((standAt iter.pos >>= _).wrap _ _ _ _) [] s; exact seg_bind_wrap (wpAny_standAt (seg_bind_wrap (T.self _ 0 s _ _ htn (seg_again rfl loop)))))

/-- all's loop over it -/
theorem drain_all {A : Around} {R : Result → Shared → Prop} {gi : Nat} (hh : A.handled = none) (hd : A.depth < recursionLimit) (hgo : ∀ h : Heap, h.get? a = some go → h.IsGen a gi)
    (hend : ∀ s s', At Y a go QT s → Idle s s' → R (.ok (.ret (.bool true))) s') (hstop : ∀ s s', At Y a go QZ s → Idle s s' → R (.ok (.ret (.bool false))) s') :
    ∀ (n : Nat) (s : Shared), s.heap.IsGen a gi → s.heap.NoLimit → AllBare s.gens → (∃ gs, s.gens[gi]? = some gs ∧ gs.Goes (model Y.prog Y.w) A.in1.in1 (Ends Y a go QT) (Says Y a go false QZ) n (.send .none) (s.setGen gi .running)) →
      codeAny (model Y.prog Y.w) A (.builtin "all.loop" ⟨[.ref a], []⟩) R s := by
  intro n
  induction n with
  | zero =>
    intro s hg hl hb ⟨gs, hgs, hgoes⟩
    refine codeAny_builtin F.entry_all_loop ?_
    rw [Around.under_plainId F.plain_all_loop _]
    show wpAny _ A.in1 (pyNext (.ref a) >>= _) _ _ s
    refine wpAny_bind (next_genG (A := A.in1) (F := fun _ _ s₁ => At Y a go QT s₁) (Er := fun _ _ => False) hh hl hd hg hgs hgoes (fun v s₁ gs' hbare hv => ?_) (fun s₁ hp h' hk => ?_) fun e s₁ he => he.elim)
    · obtain ⟨b, rfl, ⟨σ, H, I, qz⟩, hk⟩ := hv
      cases b with
      | true => exact (hk (by decide) s₁ (Idle.refl I.bare)).elim
      | false =>
        refine wpAny_bind (wpAny_holding (wpAny_truthy_bool ?_))
        refine wpAny_bind (wpAny_letGo ?_)
        simp only [Bool.false_eq_true, if_false]
        refine wpAny_bind (wpAny_rule (wpAny_pure ?_))
        exact hstop s₁ _ ⟨σ, H, I, qz rfl⟩ ⟨rfl, allBare_setGen I.bare hbare, fun _ _ e => e⟩
    · have hb1 : AllBare s₁.gens := let ⟨_, _, I, _⟩ := hp; I.bare
      refine wpAny_bind (wpAny_rule (wpAny_pure ?_))
      exact hend s₁ _ hp ⟨rfl, allBare_setGen hb1 rfl, hk⟩
  | succ n ih =>
    intro s hg hl hb ⟨gs, hgs, hgoes⟩
    have hgl : gi < s.gens.size := (Array.getElem?_eq_some_iff.mp hgs).1
    refine codeAny_builtin F.entry_all_loop ?_
    rw [Around.under_plainId F.plain_all_loop _]
    show wpAny _ A.in1 (pyNext (.ref a) >>= _) _ _ s
    refine wpAny_bind (wpAny_gsz (n := gi + 1) hgl (next_genG (A := A.in1) (F := fun _ _ s₁ => At Y a go QT s₁) (Er := fun _ _ => False) hh hl hd hg hgs hgoes (fun v s₁ gs' hbare hv => ?_) (fun s₁ hp h' hk => ?_) fun e s₁ he => he.elim))
    · intro hsz
      obtain ⟨b, rfl, ⟨σ, H, I, qz⟩, hk⟩ := hv
      refine wpAny_bind (wpAny_holding (wpAny_truthy_bool ?_))
      refine wpAny_bind (wpAny_letGo ?_)
      have hsz1 : gi < s₁.gens.size := by
        have q : (s₁.setGen gi gs').gens.size = s₁.gens.size := setGen_size _ _ _
        have hsz' : gi + 1 ≤ (s₁.setGen gi gs').gens.size := hsz
        omega
      cases b with
      | true =>
        simp only [if_true]
        refine wpAny_pure ⟨plainId_quiet F.plain_all_loop _, ih (s₁.setGen gi gs') (hgo s₁.heap (pin_go I)) I.nolimit (allBare_setGen I.bare hbare) ⟨gs', setGen_at hsz1, ?_⟩⟩
        exact hk (by decide) _ ⟨rfl, allBare_setGen (s := s₁.setGen gi gs') (allBare_setGen I.bare hbare) rfl, fun _ _ e => e⟩
      | false =>
        simp only [Bool.false_eq_true, if_false]
        refine wpAny_bind (wpAny_rule (wpAny_pure ?_))
        exact hstop s₁ _ ⟨σ, H, I, qz rfl⟩ ⟨rfl, allBare_setGen I.bare hbare, fun _ _ e => e⟩
    · intro hsz
      have hb1 : AllBare s₁.gens := let ⟨_, _, I, _⟩ := hp; I.bare
      refine wpAny_bind (wpAny_rule (wpAny_pure ?_))
      exact hend s₁ _ hp ⟨rfl, allBare_setGen hb1 rfl, hk⟩

/-- any's loop over it -/
theorem drain_any {A : Around} {R : Result → Shared → Prop} {gi : Nat} (hh : A.handled = none) (hd : A.depth < recursionLimit) (hgo : ∀ h : Heap, h.get? a = some go → h.IsGen a gi)
    (hend : ∀ s s', At Y a go QT s → Idle s s' → R (.ok (.ret (.bool false))) s') (hstop : ∀ s s', At Y a go QZ s → Idle s s' → R (.ok (.ret (.bool true))) s') :
    ∀ (n : Nat) (s : Shared), s.heap.IsGen a gi → s.heap.NoLimit → AllBare s.gens → (∃ gs, s.gens[gi]? = some gs ∧ gs.Goes (model Y.prog Y.w) A.in1.in1 (Ends Y a go QT) (Says Y a go true QZ) n (.send .none) (s.setGen gi .running)) →
      codeAny (model Y.prog Y.w) A (.builtin "any.loop" ⟨[.ref a], []⟩) R s := by
  intro n
  induction n with
  | zero =>
    intro s hg hl hb ⟨gs, hgs, hgoes⟩
    refine codeAny_builtin F.entry_any_loop ?_
    rw [Around.under_plainId F.plain_any_loop _]
    show wpAny _ A.in1 (pyNext (.ref a) >>= _) _ _ s
    refine wpAny_bind (next_genG (A := A.in1) (F := fun _ _ s₁ => At Y a go QT s₁) (Er := fun _ _ => False) hh hl hd hg hgs hgoes (fun v s₁ gs' hbare hv => ?_) (fun s₁ hp h' hk => ?_) fun e s₁ he => he.elim)
    · obtain ⟨b, rfl, ⟨σ, H, I, qz⟩, hk⟩ := hv
      cases b with
      | false => exact (hk (by decide) s₁ (Idle.refl I.bare)).elim
      | true =>
        refine wpAny_bind (wpAny_holding (wpAny_truthy_bool ?_))
        refine wpAny_bind (wpAny_letGo ?_)
        simp only [if_true]
        refine wpAny_bind (wpAny_rule (wpAny_pure ?_))
        exact hstop s₁ _ ⟨σ, H, I, qz rfl⟩ ⟨rfl, allBare_setGen I.bare hbare, fun _ _ e => e⟩
    · have hb1 : AllBare s₁.gens := let ⟨_, _, I, _⟩ := hp; I.bare
      refine wpAny_bind (wpAny_rule (wpAny_pure ?_))
      exact hend s₁ _ hp ⟨rfl, allBare_setGen hb1 rfl, hk⟩
  | succ n ih =>
    intro s hg hl hb ⟨gs, hgs, hgoes⟩
    have hgl : gi < s.gens.size := (Array.getElem?_eq_some_iff.mp hgs).1
    refine codeAny_builtin F.entry_any_loop ?_
    rw [Around.under_plainId F.plain_any_loop _]
    show wpAny _ A.in1 (pyNext (.ref a) >>= _) _ _ s
    refine wpAny_bind (wpAny_gsz (n := gi + 1) hgl (next_genG (A := A.in1) (F := fun _ _ s₁ => At Y a go QT s₁) (Er := fun _ _ => False) hh hl hd hg hgs hgoes (fun v s₁ gs' hbare hv => ?_) (fun s₁ hp h' hk => ?_) fun e s₁ he => he.elim))
    · intro hsz
      obtain ⟨b, rfl, ⟨σ, H, I, qz⟩, hk⟩ := hv
      refine wpAny_bind (wpAny_holding (wpAny_truthy_bool ?_))
      refine wpAny_bind (wpAny_letGo ?_)
      have hsz1 : gi < s₁.gens.size := by
        have q : (s₁.setGen gi gs').gens.size = s₁.gens.size := setGen_size _ _ _
        have hsz' : gi + 1 ≤ (s₁.setGen gi gs').gens.size := hsz
        omega
      cases b with
      | false =>
        simp only [Bool.false_eq_true, if_false]
        refine wpAny_pure ⟨plainId_quiet F.plain_any_loop _, ih (s₁.setGen gi gs') (hgo s₁.heap (pin_go I)) I.nolimit (allBare_setGen I.bare hbare) ⟨gs', setGen_at hsz1, ?_⟩⟩
        exact hk (by decide) _ ⟨rfl, allBare_setGen (s := s₁.setGen gi gs') (allBare_setGen I.bare hbare) rfl, fun _ _ e => e⟩
      | true =>
        simp only [if_true]
        refine wpAny_bind (wpAny_rule (wpAny_pure ?_))
        exact hstop s₁ _ ⟨σ, H, I, qz rfl⟩ ⟨rfl, allBare_setGen I.bare hbare, fun _ _ e => e⟩
    · intro hsz
      have hb1 : AllBare s₁.gens := let ⟨_, _, I, _⟩ := hp; I.bare
      refine wpAny_bind (wpAny_rule (wpAny_pure ?_))
      exact hend s₁ _ hp ⟨rfl, allBare_setGen hb1 rfl, hk⟩
end
end Gx


set_option Elab.async false
set_option linter.all false
set_option maxRecDepth 100000
set_option maxHeartbeats 1000000
/-! Gx2: the rules pe_allG, pe_anyG. -/
namespace Gx
open PySem PySem.Spec PyProof.Rows L2 GenW GxR

/-- what all (z = false) and any (z = true) of a generator expression ask -/
def tQuant (z : Bool) (P : Addr) (js : List (Option Nat)) (wi : TI) (g : TG) (te : TE) : TE := fun σ H Q => wi σ H fun J H1 => TabG H1 P ∧ ∀ H2, Tabbed P H1 H2 →
  ∃ W : Nat → Nat → L2.St → Hp → Prop, (∃ m, W 0 m (begun js σ) H2) ∧ ∀ i m σ' H', W i m σ' H' → (J.stop i H' ∧ Q (.bl (!z)) H') ∨
    (J.go i H' ∧ ∀ x H3, J.yld i H' x H3 → g x σ' H3 fun σ2 H4 => te σ2 H4 fun v H5 => ∃ b, v = .bl b ∧ (b = z → Q (.bl z) H5) ∧ (b ≠ z → ∃ m', m' < m ∧ W (i + 1) m' σ2 H5))

section
variable {X : Cx} {pins : List (Addr × Obj)} {σ : L2.St} {H : Hp} {s : Shared} {scope : Scope} {N : List Str} {js : List (Option Nat)} {tg iter elt : Expr} {gpos : Pos} {wi : TI} {g : TG} {te : TE} {k : Nat} {c P : Addr}

theorem room_in {A : Around} {k : Nat} {cd : Code} (r : Room (k + 1) A) (h1 : cd.weight ≤ 1) (h2 : cd.cUnits ≤ 3) : Room k (A.in1.in1.over cd []) :=
  ⟨r.hd, by
    have := r.dp
    show A.depth + 0 + cd.weight + 3 * k + 5 < recursionLimit
    omega, by
    have := r.un
    show A.units + 1 + 1 + 0 + cd.cUnits + 16 * k + 200 < cLine
    omega⟩

/-- the generator stands, ready to be drained -/
theorem made_all {z : Bool} {Q : VK} {Q' : Value → Shared → Prop}
    (hr : Room (k + 1) X.A) (TB : TabB X.base X.mg c P) (hcode : X.env.code = .ref c) (S : ScopeOk X scope N js) (hi : PI X tg iter wi)
    (hb : ∀ (code : Value) (A : Around) (s : Shared) (H : Hp) (ex : List Addr), Room k A → PG (inner X scope code N A s H ex) tg g ∧ PE (inner X scope code N A s H ex) elt te)
    (hs : ∀ v, genFold iter X.env v = pure v) (I : Inv X pins σ H s) (h : tQuant z P js wi g te σ H Q)
    (hQ : ∀ (a gi : Nat) (s5 : Shared) (Y : Cx) (go : Obj) (n : Nat), Y.prog = X.prog → Y.w = X.w → s5.heap.IsGen a gi → s5.heap.NoLimit → AllBare s5.gens → (∀ h : Heap, h.get? a = some go → h.IsGen a gi) →
      (∀ s6, Idle s5 s6 → ∃ gs, s6.gens[gi]? = s5.gens[gi]? → s6.gens[gi]? = some gs ∧ gs.Goes (model X.prog X.w) X.A.in1.in1 (Ends Y a go fun H' => Q (.bl (!z)) H') (Says Y a go z fun H' => Q (.bl z) H') n (.send .none) (s6.setGen gi .running)) →
      (∀ (R : Hp → Prop) s1 s2, At Y a go R s1 → Idle s1 s2 → ∃ H', Inv X pins σ H' s2 ∧ R H') → Q' (.ref a) s5) :
    wpAny (model X.prog X.w) X.A (eval (.GeneratorExp elt [⟨tg, iter, [], 0⟩] scope gpos) X.env) Q' X.xe s := by
  refine wpAny_GeneratorExp_make S.co (closure_ok S.free) S.cell S.dot S.kind (by have := hr.dp; omega) ?_ hs
  refine thn (hi.run pins s σ H _ I h) fun xv s1 h1 => thn h1 fun itv s2 h2 => ?_
  obtain ⟨it, fp, tn, J, H2, e, I2, T, st2, f2, ⟨ps, hP, ht⟩, q⟩ := h2
  subst e
  have hPs : s2.heap.get? P = some { cls := .none, data := .fields ps } := I2.hok P _ hP
  have lim2 : s2.heap.NoLimit := I2.nolimit
  refine ⟨lim2, ?_⟩
  have fpP : ∀ b ∈ fp, b ≠ P := fun b hb e => by
    have := (f2 b hb).1
    rw [e, hP] at this
    cases this
  have cont : ∀ (code : Value) (h3 : Heap) (tk : Nat) (ps' : Array Value), Heap.ExtBut P s2.heap h3 → h3.get? P = some { cls := .none, data := .fields ps' } → (∃ more, ps' = ps ++ more) → TriplesOk ps'.toList →
      wpAny (model X.prog X.w) X.A (builtinsFor X.env.globals X.env.builtins) (fun bi s₄ =>
        ∀ h', h'.Ns s₄.heap.objs.size (fun y => if y = ".0" then some (Value.ref it) else none) → Heap.SameBut s₄.heap.objs.size (s₄.heap.push { cls := .type "frame", data := .dict #[] }) h' →
          Q' (.ref h'.objs.size) { s₄ with
            gens := s₄.gens.push (.fresh (.compStart (.GeneratorExp elt [⟨tg, iter, [], 0⟩] scope gpos) 0 (.ref it) .none (genEnv scope (caught X scope) s₄.heap.objs.size code bi X.env))),
            toks := s₄.toks + 1 + 1 + 1,
            heap := h'.push { cls := .type "generator", data := .fields #[.int s₄.gens.size 0, .str "<genexpr>" (s₄.toks + 1), .str (X.env.qual ++ "<genexpr>") (s₄.toks + 1 + 1)] } }) X.xe { s2 with heap := h3, toks := tk } := by
    intro code h3 tk ps' hx hP3 hmore ht3
    obtain ⟨more, rfl⟩ := hmore
    obtain ⟨bm, ob, e1, e2, e3, e4, e5, e6, e7, e8⟩ := TB.bm
    have keep3 : ∀ b u, b ≠ P → s2.heap.get? b = some u → h3.get? b = some u := fun b u hb e => hx b u hb e
    have I3 : Inv X pins σ (upd H2 P (.tbl (ps ++ more))) { s2 with heap := h3, toks := tk } := inv_tab (more := more) (h' := h3) (g' := s2.gens) (d' := s2.drawn) (t' := tk) I2 hP keep3 hP3 I2.bare
    refine wpAny_builtinsFor (m := X.mg) (by rw [I2.ok.glob]; exact (I2.mod.glob.keeps I2.bk).extBut hx TB.gP) e1 e2 (keep3 _ _ e4 (I2.bk _ _ e5)) e6 e7 e8 ?_
    intro h' hns' hsb
    have sz' : h'.objs.size = h3.objs.size + 1 := by rw [hsb.1, Heap.size_push]
    have kp' : ∀ b o, h3.get? b = some o → h'.get? b = some o := fun b o e => hsb.extBut b o (Nat.ne_of_lt (Heap.lt_size e)) (Heap.get?_push_of_some _ e)
    have main : ∀ (go : Obj) (nm qn : Value) (tk2 : Nat), go.cls = .type "generator" → go.data = .fields #[.int s2.gens.size 0, nm, qn] → go.slots = #[] → (∀ h : Heap, (h.push go).get? h.objs.size = some go) →
        Q' (.ref h'.objs.size) { s2 with gens := s2.gens.push (.fresh (.compStart (.GeneratorExp elt [⟨tg, iter, [], 0⟩] scope gpos) 0 (.ref it) .none (genEnv scope (caught X scope) h3.objs.size code builtinsNs X.env))), toks := tk2, heap := h'.push go } := by
      intro go nm qn tk2 hgc hgd hgs hgp
      have hgen : ∀ h : Heap, h.get? h'.objs.size = some go → h.IsGen h'.objs.size s2.gens.size := fun h e => ⟨go, nm, qn, e, hgc, hgd, hgs⟩
      have hpushed : (h'.push go).get? h'.objs.size = some go := hgp _
      have kp5 : ∀ b o, h3.get? b = some o → (h'.push go).get? b = some o := fun b o e => Heap.get?_push_of_some _ (kp' b o e)
      have hlt : ∀ b ∈ fp, b < h3.objs.size := fun b hb => by
        obtain ⟨o, eo, _⟩ := T.obj _ _ st2 b hb
        exact Heap.lt_size (keep3 b o (fpP b hb) eo)
      have f3 : ∀ b ∈ fp, FpOk X pins (upd H2 P (.tbl (ps ++ more))) b := fun b hb => ⟨by rw [upd_ne (fpP b hb)]; exact (f2 b hb).1, (f2 b hb).2⟩
      have halt : h3.objs.size < h'.objs.size := by rw [sz']; exact Nat.lt_succ_self _
      have ab5 : AllBare (s2.gens.push (.fresh (.compStart (.GeneratorExp elt [⟨tg, iter, [], 0⟩] scope gpos) 0 (.ref it) .none (genEnv scope (caught X scope) h3.objs.size code builtinsNs X.env)))) := AllBare.push I2.bare rfl
      let B : Around := X.A.in1.in1
      let cd : Code := loopOf tg iter elt scope gpos it (genEnv scope (caught X scope) h3.objs.size code builtinsNs X.env)
      let A5 : Around := B.over cd []
      let s3 : Shared := { s2 with heap := h3, toks := tk }
      have rm : Room k A5 := room_in hr (Nat.le_refl _) (Nat.le_refl _)
      have hfr : A5.frames = some (genEnv scope (caught X scope) h3.objs.size code builtinsNs X.env :: X.stack) := by
        show pushEnvs cd.envs (pushEnvs [] X.A.frames) = _
        rw [I2.ok.frames]
        rfl
      obtain ⟨hPG, hPE⟩ := hb code A5 s3 (upd H2 P (.tbl (ps ++ more))) fp rm
      let Y : Cx := inner X scope code N A5 s3 (upd H2 P (.tbl (ps ++ more))) fp
      obtain ⟨W, ⟨m0, w0⟩, turn⟩ := q _ ⟨⟨ps ++ more, upd_same, ht3⟩, fun b hb => upd_ne hb⟩
      refine hQ h'.objs.size s2.gens.size _ Y go (m0 + 1) rfl rfl (hgen _ hpushed) (lim2.extBut hx (fun e => ?_) |>.keeps kp5) ab5 hgen (fun s6 z6 => ⟨.fresh (.compStart (.GeneratorExp elt [⟨tg, iter, [], 0⟩] scope gpos) 0 (.ref it) .none (genEnv scope (caught X scope) h3.objs.size code builtinsNs X.env)), fun hsame => ?_⟩) fun R s1' s2' hAt hz => ?_
      · obtain ⟨_, hns0, _⟩ := lim2
        obtain ⟨o', es, ep, ho, hd, _⟩ := hns0
        rw [e, hPs] at ho
        cases ho
        cases hd
      · refine ⟨hsame.trans (Array.getElem?_push_size ..), rfl, ?_⟩
        have z7 : Idle { s2 with gens := s2.gens.push (.fresh (.compStart (.GeneratorExp elt [⟨tg, iter, [], 0⟩] scope gpos) 0 (.ref it) .none (genEnv scope (caught X scope) h3.objs.size code builtinsNs X.env))), toks := tk2, heap := h'.push go } (s6.setGen s2.gens.size .running) :=
          ⟨z6.os, allBare_setGen z6.bare rfl, z6.keep⟩
        have J5 : Inv Y [(h'.objs.size, go)] (begun js σ) (upd H2 P (.tbl (ps ++ more))) { s2 with gens := s2.gens.push (.fresh (.compStart (.GeneratorExp elt [⟨tg, iter, [], 0⟩] scope gpos) 0 (.ref it) .none (genEnv scope (caught X scope) h3.objs.size code builtinsNs X.env))), toks := tk2, heap := h'.push go } :=
          start_inv (s := s3) S I3 rm.hd hfr f3 hlt kp5 rfl ab5 _ (hns'.push go) halt hpushed (fun v e => by rw [hgd] at e; cases e)
        have J6 := inv_idle J5 z7
        have st6 : tn 0 (s6.setGen s2.gens.size .running).heap := T.keep _ _ _ st2 fun b hb o e => z7.keep b o (kp5 b o (keep3 b o (fpP b hb) e))
        refine seg_begin (Y := Y) (J := J) (fp := fp) (tn := tn) st6 T ?_
        exact seg_loop (Y := Y) (W := W) rfl S.co rfl rfl hPG hPE T (fun hn => start_fp (s := s3) S I3 f3 hlt halt hn) turn m0 0 (m0 + 1) _ _ _ _ (Nat.lt_succ_self _) J6 st6 (fun b hb => (f3 b hb).1) w0
      · obtain ⟨σ', H', J', r⟩ := hAt
        have J'' := inv_idle J' hz
        exact ⟨H', back_inv (s := s3) I3 f3 J'', r⟩
    exact main _ _ _ _ rfl rfl rfl fun h => Heap.get?_push_size _ rfl
  have cd : PySem.W.CodeHd s2.heap c P := TB.code.keeps fun b u e => I2.bk b u e
  cases hf : codeAmong gpos ps.toList with
  | none =>
    refine wpAny_genexprCodeX hcode (cd.code hPs ht) (cd.tab hPs) hf fun c' h' tk hx hge hlt hco' _ htab' _ => ?_
    obtain ⟨o1, vs, f1, tf, fl, tg', inF, tx, tt, op, _, _, _, _, _, _, _, _, _, htr, _⟩ := hco'
    exact cont _ h' tk _ hx htab'.2 ⟨_, rfl⟩ htr
  | some cv =>
    refine wpAny_genexprCode_hit hcode (cd.code hPs ht) hf ?_
    exact cont cv s2.heap s2.toks ps (Heap.ExtBut.refl _ _) hPs ⟨#[], by simp⟩ ht

theorem pe_allG {p pos : Pos}
    (hr : Room (k + 1) X.A) (hg : Gl X "all") (hm : X.mg "all" = none) (hbt : bootBuiltins "all" = some (.builtin "all")) (TB : TabB X.base X.mg c P) (hcode : X.env.code = .ref c) (S : ScopeOk X scope N js) (hi : PI X tg iter wi)
    (hb : ∀ (code : Value) (A : Around) (s : Shared) (H : Hp) (ex : List Addr), Room k A → PG (inner X scope code N A s H ex) tg g ∧ PE (inner X scope code N A s H ex) elt te)
    (hs : ∀ v, genFold iter X.env v = pure v)
    (he : starEach [.GeneratorExp elt [⟨tg, iter, [], 0⟩] scope gpos] X.env = (false, eval (.GeneratorExp elt [⟨tg, iter, [], 0⟩] scope gpos) X.env) :: starEach [] X.env := by rfl) :
    PE X (.Call (.Name "all" p) [.GeneratorExp elt [⟨tg, iter, [], 0⟩] scope gpos] [] pos) (tQuant false P js wi g te) := by
  refine ⟨fun pins s σ H Q I h => ?_⟩
  refine wpAny_Call_Name_kw (ld_blt I hg hm hbt ?_)
  refine PyProof.Rows.callWith_builtin1 ?_ he (by rfl)
  rw [he]
  show wpAny _ _ (spliced ((false, eval (.GeneratorExp elt [⟨tg, iter, [], 0⟩] scope gpos) X.env) :: backTo pos (starEach [] X.env))) _ _ s
  refine Calls.spliced_cons (made_all hr TB hcode S hi hb hs I h fun a gi s5 Y go n e1 e2 hgen hlim hbare hgo hgoes hback => ?_)
  refine Calls.spliced_nil ?_
  refine call_function_tree F.kind_all F.plain_all F.entry_all (F.args_all1 _) ?_
  unfold Builtin.«all»
  refine wpAny_bind (m := oneArg "all" _) (wpAny_pure ?_)
  refine wpAny_bind (wpAny_pyIter_gen hgen ?_)
  obtain ⟨gs, hgs⟩ := hgoes s5 (Idle.refl hbare)
  obtain ⟨hg1, hg2⟩ := hgs rfl
  refine wpAny_pure ⟨plainId_quiet F.plain_all_loop _, ?_⟩
  rw [← e1, ← e2] at hg2 ⊢
  refine drain_all (Y := Y) hr.hd (by have := hr.dp; omega) hgo (fun s1 s2 hAt hz => ?_) (fun s1 s2 hAt hz => ?_) n s5 hgen hlim hbare ⟨gs, hg1, hg2⟩
  · obtain ⟨H', J, q⟩ := hback _ s1 s2 hAt hz
    exact ⟨.bl true, H', J, rfl, q⟩
  · obtain ⟨H', J, q⟩ := hback _ s1 s2 hAt hz
    exact ⟨.bl false, H', J, rfl, q⟩

theorem pe_anyG {p pos : Pos}
    (hr : Room (k + 1) X.A) (hg : Gl X "any") (hm : X.mg "any" = none) (hbt : bootBuiltins "any" = some (.builtin "any")) (TB : TabB X.base X.mg c P) (hcode : X.env.code = .ref c) (S : ScopeOk X scope N js) (hi : PI X tg iter wi)
    (hb : ∀ (code : Value) (A : Around) (s : Shared) (H : Hp) (ex : List Addr), Room k A → PG (inner X scope code N A s H ex) tg g ∧ PE (inner X scope code N A s H ex) elt te)
    (hs : ∀ v, genFold iter X.env v = pure v)
    (he : starEach [.GeneratorExp elt [⟨tg, iter, [], 0⟩] scope gpos] X.env = (false, eval (.GeneratorExp elt [⟨tg, iter, [], 0⟩] scope gpos) X.env) :: starEach [] X.env := by rfl) :
    PE X (.Call (.Name "any" p) [.GeneratorExp elt [⟨tg, iter, [], 0⟩] scope gpos] [] pos) (tQuant true P js wi g te) := by
  refine ⟨fun pins s σ H Q I h => ?_⟩
  refine wpAny_Call_Name_kw (ld_blt I hg hm hbt ?_)
  refine PyProof.Rows.callWith_builtin1 ?_ he (by rfl)
  rw [he]
  show wpAny _ _ (spliced ((false, eval (.GeneratorExp elt [⟨tg, iter, [], 0⟩] scope gpos) X.env) :: backTo pos (starEach [] X.env))) _ _ s
  refine Calls.spliced_cons (made_all hr TB hcode S hi hb hs I h fun a gi s5 Y go n e1 e2 hgen hlim hbare hgo hgoes hback => ?_)
  refine Calls.spliced_nil ?_
  refine call_function_tree F.kind_any F.plain_any F.entry_any (F.args_any1 _) ?_
  unfold Builtin.«any»
  refine wpAny_bind (m := oneArg "any" _) (wpAny_pure ?_)
  refine wpAny_bind (wpAny_pyIter_gen hgen ?_)
  obtain ⟨gs, hgs⟩ := hgoes s5 (Idle.refl hbare)
  obtain ⟨hg1, hg2⟩ := hgs rfl
  refine wpAny_pure ⟨plainId_quiet F.plain_any_loop _, ?_⟩
  rw [← e1, ← e2] at hg2 ⊢
  refine drain_any (Y := Y) hr.hd (by have := hr.dp; omega) hgo (fun s1 s2 hAt hz => ?_) (fun s1 s2 hAt hz => ?_) n s5 hgen hlim hbare ⟨gs, hg1, hg2⟩
  · obtain ⟨H', J, q⟩ := hback _ s1 s2 hAt hz
    exact ⟨.bl false, H', J, rfl, q⟩
  · obtain ⟨H', J, q⟩ := hback _ s1 s2 hAt hz
    exact ⟨.bl true, H', J, rfl, q⟩
end
end Gx


set_option Elab.async false
set_option linter.all false
set_option maxRecDepth 100000
set_option maxHeartbeats 1000000
/-! Tk0: what an expression is worth, as data: EE, ET, EA; heaps that grow, tables that may change. -/
namespace Tk
open PySem PySem.Spec PyProof.Rows L2 GxR

/-- the tables that nobody but their own def writes -/
class LamTab where
  is : Addr → Prop
variable [LamTab]
/-- the heap has grown; tables of code objects may be others, but those that LamTab names stay -/
structure Le (H H' : Hp) : Prop where
  keep : ∀ a o, H a = some o → (∀ ps, o = .tbl ps → LamTab.is a) → H' a = some o
  tab : ∀ P, TabG H P → TabG H' P
  there : ∀ a, H' a = none → H a = none
theorem Le.refl (H : Hp) : Le H H := ⟨fun _ _ h _ => h, fun _ h => h, fun _ h => h⟩
theorem Le.trans {H H1 H2 : Hp} (a : Le H H1) (b : Le H1 H2) : Le H H2 :=
  ⟨fun x o h n => b.keep x o (a.keep x o h n) n, fun P h => b.tab P (a.tab P h), fun x h => a.there x (b.there x h)⟩
theorem Le.new {H : Hp} {p : Addr} {o : HO} (h : H p = none) : Le H (upd H p o) :=
  ⟨fun a u e _ => by rw [upd_ne (ne_of_none e h)]; exact e, fun P ⟨ps, e, t⟩ => ⟨ps, by rw [upd_ne (ne_of_none e h)]; exact e, t⟩,
   fun a e => by
    by_cases z : a = p
    · rw [z]; exact h
    · rw [upd_ne z] at e; exact e⟩
/-- an object that H does not know may change -/
theorem Le.mut {H H' : Hp} {p : Addr} {o : HO} (e : Le H H') (h : H p = none) : Le H (upd H' p o) :=
  ⟨fun a u q n => by rw [upd_ne (ne_of_none q h)]; exact e.keep a u q n, fun P t => by
    obtain ⟨ps, q, r⟩ := e.tab P t
    have hP : P ≠ p := by
      obtain ⟨ps0, q0, _⟩ := t
      exact ne_of_none q0 h
    exact ⟨ps, by rw [upd_ne hP]; exact q, r⟩, fun a q => by
    by_cases z : a = p
    · rw [z]; exact h
    · rw [upd_ne z] at q; exact e.there a q⟩
theorem Le.tabbed {P : Addr} {H H' : Hp} (g : TabG H P) (t : Tabbed P H H') (hs : ¬ LamTab.is P) : Le H H' := by
  obtain ⟨ps, e, _⟩ := g
  obtain ⟨t1, t2⟩ := t
  refine ⟨fun a o q n => ?_, fun Q hQ => ?_, fun a q => ?_⟩
  · rw [t2 a fun z => hs (by rw [← z]; exact n ps (by rw [z, e] at q; exact (Option.some.inj q).symm))]
    exact q
  · by_cases z : Q = P
    · rw [z]; exact t1
    · obtain ⟨ps', q, r⟩ := hQ
      exact ⟨ps', by rw [t2 Q z]; exact q, r⟩
  · by_cases z : a = P
    · rw [z] at q
      obtain ⟨ps', q', _⟩ := t1
      rw [q] at q'
      cases q'
    · rw [← t2 a z]; exact q

def Tbs (T : List Addr) (H : Hp) : Prop := ∀ P ∈ T, TabG H P ∧ ¬ LamTab.is P
theorem Tbs.le {T : List Addr} {H H' : Hp} (t : Tbs T H) (e : Le H H') : Tbs T H' := fun P hP => ⟨e.tab P (t P hP).1, (t P hP).2⟩

theorem Rd.le {H H' : Hp} {a : Addr} {u : HO} (e : Le H H') (n : ∀ ps, u ≠ .tbl ps) (h : Rd H a u) : Rd H' a u := by
  rcases h with h | ⟨o, h⟩
  · exact .inl (e.keep a _ h fun ps z => (n ps z).elim)
  · exact .inr ⟨o, e.keep a _ h fun ps z => by cases z⟩
theorem sqL_le {K : PySem.W.Frag} {H H' : Hp} {a : Addr} {xs : List V} (e : Le H H') (h : SqL K H a xs) : SqL K H' a xs := by
  rcases h with h | h
  · exact .inl (Rd.le e (fun ps z => by cases z) h)
  · exact .inr h
theorem sqT_le {K : PySem.W.Frag} {H H' : Hp} {a : Addr} {xs : List V} (e : Le H H') (h : SqT K H a xs) : SqT K H' a xs := by
  rcases h with h | h
  · exact .inl (Rd.le e (fun ps z => by cases z) h)
  · exact .inr h

/-! ### data -/
mutual
inductive Dt (K : PySem.W.Frag) (H : Hp) : V → PyData → Prop
  | non : Dt K H .non .none
  | bl (b : Bool) : Dt K H (.bl b) (.bool b)
  | int (i : Int) : Dt K H (.int i) (.int i)
  | str (x : Str) : Dt K H (.str x) (.str x)
  | lst {a : Addr} {xs : List V} {ds : List PyData} : SqL K H a xs → TyX K H (.ref a) (.type "list") → Ds K H xs ds → Dt K H (.ref a) (.list ds)
  | tup {a : Addr} {xs : List V} {ds : List PyData} : SqT K H a xs → TyX K H (.ref a) (.type "tuple") → Ds K H xs ds → Dt K H (.ref a) (.tuple ds)
  | dct {a : Addr} : H a = some (.dK []) → Dt K H (.ref a) (.dict [])
inductive Ds (K : PySem.W.Frag) (H : Hp) : List V → List PyData → Prop
  | nil : Ds K H [] []
  | cons {v : V} {vs : List V} {d : PyData} {ds : List PyData} : Dt K H v d → Ds K H vs ds → Ds K H (v :: vs) (d :: ds)
end

section
variable {K : PySem.W.Frag} {H H' : Hp}
theorem tyX_le {v : V} {t : Value} (e : Le H H') (h : TyX K H v t) : TyX K H' v t := by
  have k := fun a o (q : H a = some o) n => e.keep a o q n
  cases h with
  | base h =>
    refine .base ?_
    cases h with
    | non => exact .non
    | bl x => exact .bl x
    | int i => exact .int i
    | str x => exact .str x
    | flt x => exact .flt x
    | lst q => exact .lst (k _ _ q fun ps z => by cases z)
    | frz q => exact .frz (k _ _ q fun ps z => by cases z)
    | tup q => exact .tup (k _ _ q fun ps z => by cases z)
    | dK q => exact .dK (k _ _ q fun ps z => by cases z)
    | dT q => exact .dT (k _ _ q fun ps z => by cases z)
    | ins q a b c d f => exact .ins (k _ _ q fun ps z => by cases z) a b c d f
  | byt b => exact .byt b
  | set q => exact .set (k _ _ q fun ps z => by cases z)
  | kList a b => exact .kList a b
  | kTuple a b => exact .kTuple a b
  | kDict a b => exact .kDict a b
  | fTuple q => exact .fTuple (k _ _ q fun ps z => by cases z)
  | fDict q => exact .fDict (k _ _ q fun ps z => by cases z)
mutual
theorem Dt.le (e : Le H H') : ∀ {v : V} {d : PyData}, Dt K H v d → Dt K H' v d
  | _, _, .non => .non
  | _, _, .bl b => .bl b
  | _, _, .int i => .int i
  | _, _, .str x => .str x
  | _, _, .lst s t h => .lst (sqL_le e s) (tyX_le e t) (Ds.le e h)
  | _, _, .tup s t h => .tup (sqT_le e s) (tyX_le e t) (Ds.le e h)
  | _, _, .dct h => .dct (e.keep _ _ h fun ps z => by cases z)
theorem Ds.le (e : Le H H') : ∀ {vs : List V} {ds : List PyData}, Ds K H vs ds → Ds K H' vs ds
  | _, _, .nil => .nil
  | _, _, .cons h t => .cons (Dt.le e h) (Ds.le e t)
end
theorem Ds.length : ∀ {vs : List V} {ds : List PyData}, Ds K H vs ds → vs.length = ds.length
  | _, _, .nil => rfl
  | _, _, .cons _ t => congrArg Nat.succ t.length
theorem Ds.get : ∀ {vs : List V} {ds : List PyData}, Ds K H vs ds → ∀ {i : Nat} {d : PyData}, ds[i]? = some d → ∃ v, vs[i]? = some v ∧ Dt K H v d
  | _, _, .cons h t, 0, d, e => by
    rw [List.getElem?_cons_zero] at e
    cases e
    exact ⟨_, rfl, h⟩
  | _, _, .cons h t, i + 1, d, e => by
    rw [List.getElem?_cons_succ] at e
    obtain ⟨v, h1, h2⟩ := t.get e
    exact ⟨v, by rw [List.getElem?_cons_succ]; exact h1, h2⟩
theorem Ds.getV : ∀ {vs : List V} {ds : List PyData}, Ds K H vs ds → ∀ {i : Nat} {v : V}, vs[i]? = some v → ∃ d, ds[i]? = some d ∧ Dt K H v d
  | _, _, .cons h t, 0, d, e => by
    rw [List.getElem?_cons_zero] at e
    cases e
    exact ⟨_, rfl, h⟩
  | _, _, .cons h t, i + 1, d, e => by
    rw [List.getElem?_cons_succ] at e
    obtain ⟨v, h1, h2⟩ := t.getV e
    exact ⟨v, by rw [List.getElem?_cons_succ]; exact h1, h2⟩
theorem Ds.append : ∀ {vs ws : List V} {ds es : List PyData}, Ds K H vs ds → Ds K H ws es → Ds K H (vs ++ ws) (ds ++ es)
  | _, _, _, _, .nil, s => s
  | _, _, _, _, .cons h t, s => .cons h (t.append s)
theorem Ds.take : ∀ {vs : List V} {ds : List PyData} (n : Nat), Ds K H vs ds → Ds K H (vs.take n) (ds.take n)
  | _, _, 0, _ => by rw [List.take_zero, List.take_zero]; exact .nil
  | _, _, _ + 1, .nil => by rw [List.take_nil, List.take_nil]; exact .nil
  | _, _, n + 1, .cons h t => by rw [List.take_succ_cons, List.take_succ_cons]; exact .cons h (t.take n)
theorem Ds.drop : ∀ {vs : List V} {ds : List PyData} (n : Nat), Ds K H vs ds → Ds K H (vs.drop n) (ds.drop n)
  | _, _, 0, h => h
  | _, _, _ + 1, .nil => by rw [List.drop_nil, List.drop_nil]; exact .nil
  | _, _, n + 1, .cons h t => by rw [List.drop_succ_cons, List.drop_succ_cons]; exact t.drop n
theorem Ds.snoc {vs : List V} {ds : List PyData} {v : V} {d : PyData} (h : Ds K H vs ds) (h2 : Dt K H v d) : Ds K H (vs ++ [v]) (ds ++ [d]) := h.append (.cons h2 .nil)
theorem Dt.new_lst {a : Addr} {xs : List V} {ds : List PyData} (h : H a = some (.lst xs)) (d : Ds K H xs ds) : Dt K H (.ref a) (.list ds) := .lst (.inl (.inl h)) (.base (.lst h)) d
theorem Dt.new_tup {a : Addr} {xs : List V} {ds : List PyData} (h : H a = some (.tup xs)) (d : Ds K H xs ds) : Dt K H (.ref a) (.tuple ds) := .tup (.inl (.inl h)) (.base (.tup h)) d

mutual
def noDict : PyData → Bool
  | .dict _ => false
  | .list xs => noDicts xs
  | .tuple xs => noDicts xs
  | _ => true
def noDicts : List PyData → Bool
  | [] => true
  | x :: xs => noDict x && noDicts xs
end
mutual
theorem Dt.toDp : ∀ {v : V} {d : PyData}, Dt K H v d → noDict d = true → Dp K H v d
  | _, _, .non, _ => .non
  | _, _, .bl b, _ => .bl b
  | _, _, .int i, _ => .int i
  | _, _, .str x, _ => .str x
  | _, _, .lst s _ h, n => .lst s (Ds.toDp h n)
  | _, _, .tup s _ h, n => .tup s (Ds.toDp h n)
theorem Ds.toDp : ∀ {vs : List V} {ds : List PyData}, Ds K H vs ds → noDicts ds = true → DpAll K H vs ds
  | _, _, .nil, _ => .nil
  | _, _, .cons h t, n => by
    have n' := (Bool.and_eq_true _ _).mp n
    exact .cons (Dt.toDp h n'.1) (Ds.toDp t n'.2)
end
end

/-! ### what an expression, a test, arguments, statements do: the weakest reading -/
/-- B: the part of the heap H that data may lean on; what is made goes into both -/
structure Up (B H B2 H2 : Hp) : Prop where
  h : Le H H2
  b : Le B B2
  s : Le B2 H2
  n : ∀ a, B2 a ≠ none → B a ≠ none ∨ H a = none ∨ ((∃ ps, H a = some (.tbl ps)) ∧ ¬ LamTab.is a)
theorem Up.refl {B H : Hp} (l : Le B H) : Up B H B H := ⟨Le.refl H, Le.refl B, l, fun a h => .inl h⟩
theorem Up.trans {B H B1 H1 B2 H2 : Hp} (a : Up B H B1 H1) (b : Up B1 H1 B2 H2) : Up B H B2 H2 :=
  ⟨a.h.trans b.h, a.b.trans b.b, b.s, fun x h => by
    rcases b.n x h with z | z | ⟨⟨ps, z⟩, ny⟩
    · exact a.n x z
    · exact .inr (.inl (a.h.there x z))
    · refine .inr ?_
      cases q : H x with
      | none => exact .inl rfl
      | some o =>
        refine .inr ?_
        by_cases y : ∃ qs, o = .tbl qs
        · obtain ⟨qs, rfl⟩ := y
          exact ⟨⟨qs, rfl⟩, ny⟩
        · have e := a.h.keep x o q fun qs e => (y ⟨qs, e⟩).elim
          rw [z] at e
          exact absurd ⟨ps, (Option.some.inj e).symm⟩ y⟩
theorem Up.new {B H B1 H1 : Hp} (u : Up B H B1 H1) {p : Addr} {o : HO} (hp : H1 p = none) (ho : ∀ ps, o ≠ .tbl ps) : Up B H (upd B1 p o) (upd H1 p o) := by
  have bp : B1 p = none := u.s.there p hp
  refine ⟨u.h.trans (Le.new hp), u.b.trans (Le.new bp), ⟨fun a v q n => ?_, fun P t => ?_, fun a q => ?_⟩, fun a q => ?_⟩
  · by_cases z : a = p
    · rw [z, upd_same] at q
      rw [z, upd_same]
      exact q
    · rw [upd_ne z] at q ⊢
      exact u.s.keep a v q n
  · obtain ⟨ps, q, r⟩ := t
    by_cases z : P = p
    · rw [z, upd_same] at q
      exact absurd (Option.some.inj q) (ho ps)
    · rw [upd_ne z] at q
      obtain ⟨ps', q', r'⟩ := u.s.tab P ⟨ps, q, r⟩
      exact ⟨ps', by rw [upd_ne z]; exact q', r'⟩
  · by_cases z : a = p
    · rw [z, upd_same] at q
      cases q
    · rw [upd_ne z] at q ⊢
      exact u.s.there a q
  · by_cases z : a = p
    · rw [z]
      exact .inr (.inl (u.h.there p hp))
    · rw [upd_ne z] at q
      exact u.n a q
/-- a table of H has changed -/
theorem Up.tab {B H B1 H1 H2 : Hp} (u : Up B H B1 H1) (l : Le H1 H2) : Up B H B1 H2 := ⟨u.h.trans l, u.b, u.s.trans l, u.n⟩
/-- leaning on more -/
theorem Up.join {B B' H B2 H2 : Hp} (u : Up B H B2 H2) (l : Le B B') (l2 : Le B' H) : ∃ B3, Up B' H B3 H2 ∧ Le B2 B3 := by
  refine ⟨fun a => if B' a = none ∧ B2 a = none then none else H2 a, ⟨u.h, ⟨fun a o q n => ?_, fun P t => ?_, fun a q => ?_⟩, ⟨fun a o q n => ?_, fun P t => ?_, fun a q => ?_⟩, fun a q => ?_⟩, ⟨fun a o q n => ?_, fun P t => ?_, fun a q => ?_⟩⟩
  · show (if B' a = none ∧ B2 a = none then none else H2 a) = some o
    rw [if_neg fun z => by rw [z.1] at q; cases q]
    exact (l2.trans u.h).keep a o q n
  · obtain ⟨ps, q, r⟩ := t
    obtain ⟨ps', q', r'⟩ := (l2.trans u.h).tab P ⟨ps, q, r⟩
    refine ⟨ps', ?_, r'⟩
    show (if B' P = none ∧ B2 P = none then none else H2 P) = _
    rw [if_neg fun z => by rw [z.1] at q; cases q]
    exact q'
  · have q' : (if B' a = none ∧ B2 a = none then none else H2 a) = none := q
    by_cases z : B' a = none ∧ B2 a = none
    · exact z.1
    · rw [if_neg z] at q'
      exact (l2.trans u.h).there a q'
  · have q' : (if B' a = none ∧ B2 a = none then none else H2 a) = some o := q
    by_cases z : B' a = none ∧ B2 a = none
    · rw [if_pos z] at q'
      cases q'
    · rw [if_neg z] at q'
      exact q'
  · obtain ⟨ps, q, r⟩ := t
    have q' : (if B' P = none ∧ B2 P = none then none else H2 P) = _ := q
    by_cases z : B' P = none ∧ B2 P = none
    · rw [if_pos z] at q'
      cases q'
    · rw [if_neg z] at q'
      exact ⟨ps, q', r⟩
  · show (if B' a = none ∧ B2 a = none then none else H2 a) = none
    rw [q]
    exact ite_self _
  · have q' : (if B' a = none ∧ B2 a = none then none else H2 a) ≠ none := q
    by_cases z : B' a = none
    · by_cases z2 : B2 a = none
      · rw [if_pos ⟨z, z2⟩] at q'
        exact absurd rfl q'
      · rcases u.n a z2 with y | y
        · exact absurd (l.there a z) y
        · exact .inr y
    · exact .inl z
  · show (if B' a = none ∧ B2 a = none then none else H2 a) = some o
    rw [if_neg fun z => by rw [z.2] at q; cases q]
    exact u.s.keep a o q n
  · obtain ⟨ps, q, r⟩ := t
    obtain ⟨ps', q', r'⟩ := u.s.tab P ⟨ps, q, r⟩
    refine ⟨ps', ?_, r'⟩
    show (if B' P = none ∧ B2 P = none then none else H2 P) = _
    rw [if_neg fun z => by rw [z.2] at q; cases q]
    exact q'
  · have q' : (if B' a = none ∧ B2 a = none then none else H2 a) = none := q
    by_cases z : B' a = none ∧ B2 a = none
    · exact z.2
    · rw [if_neg z] at q'
      exact u.s.there a q'

section
variable (X : Cx)
def WE (e : Expr) : TE := fun σ H Q => ∃ t, PE X e t ∧ t σ H Q
def WT (e : Expr) : TT := fun σ H Q => ∃ t, PT X e t ∧ t σ H Q
def WA (es : List Expr) : TA := fun σ H Q => ∃ t, PA X es t ∧ t σ H Q
def WG (g : Expr) : TG := fun v σ H Q => ∃ t, PG X g t ∧ t v σ H Q
def WI (tg iter : Expr) : TI := fun σ H R => ∃ t, PI X tg iter t ∧ t σ H R
def WS (st : Stmt) : TS := fun D σ H => ∃ t, PS X st t ∧ t D σ H
def WB (sts : List Stmt) : TS := fun D σ H => ∃ t, PSs X sts t ∧ t D σ H
def WW (e : Expr) : TT := fun σ H Q => ∃ t, PW X e t ∧ t σ H Q
def EE (e : Expr) (σ : L2.St) (B : Hp) (d : PyData) : Prop := ∀ H1, Le B H1 → ∀ Q : VK, (∀ v B2 H2, Up B H1 B2 H2 → Dt X.K B2 v d → Q v H2) → WE X e σ H1 Q
def ET (e : Expr) (σ : L2.St) (B : Hp) (b : Bool) : Prop := ∀ H1, Le B H1 → ∀ Q : Bool → Hp → Prop, (∀ H2, Le H1 H2 → Q b H2) → WT X e σ H1 Q
def EW (e : Expr) (σ : L2.St) (B : Hp) (b : Bool) : Prop := ∀ H1, Le B H1 → ∀ Q : Bool → Hp → Prop, (∀ H2, Le H1 H2 → Q b H2) → WW X e σ H1 Q
def EA (es : List Expr) (σ : L2.St) (B : Hp) (ds : List PyData) : Prop := ∀ H1, Le B H1 → ∀ Q : List V → Hp → Prop, (∀ vs B2 H2, Up B H1 B2 H2 → Ds X.K B2 vs ds → Q vs H2) → WA X es σ H1 Q
end
section
variable {X : Cx} {e a b c : Expr} {es : List Expr} {σ : L2.St} {H H' : Hp} {d d1 d2 d3 : PyData} {ds : List PyData}
theorem pe_w : PE X e (WE X e) := ⟨fun pins s σ H Q I ⟨t, h, q⟩ => h.run pins s σ H Q I q⟩
theorem pt_w : PT X e (WT X e) := ⟨fun pins s σ H Q I ⟨t, h, q⟩ => h.run pins s σ H Q I q⟩
theorem pa_w : PA X es (WA X es) := ⟨fun pos pins s σ H Q I ⟨t, h, q⟩ => h.run pos pins s σ H Q I q⟩
theorem pg_w : PG X e (WG X e) := ⟨fun pins s σ H v u Q I r ⟨t, h, q⟩ => h.run pins s σ H v u Q I r q⟩
theorem pi_w {tg : Expr} : PI X tg e (WI X tg e) := ⟨fun pins s σ H R I ⟨t, h, q⟩ => h.run pins s σ H R I q⟩
theorem ps_w {st : Stmt} : PS X st (WS X st) := ⟨fun pins s σ H D I ⟨t, h, q⟩ => h.run pins s σ H D I q⟩
theorem pss_w {sts : List Stmt} : PSs X sts (WB X sts) := ⟨fun pins s σ H D I ⟨t, h, q⟩ => h.run pins s σ H D I q⟩
theorem pw_w : PW X e (WW X e) := ⟨fun wh pins s σ H Q I ⟨t, h, q⟩ => h.run wh pins s σ H Q I q⟩
theorem EE.mono (h : EE X e σ H d) (l : Le H H') : EE X e σ H' d := fun H1 e1 Q q => h H1 (l.trans e1) Q fun v B2 H2 u dv => by
  obtain ⟨B3, u3, l3⟩ := u.join l e1
  exact q v B3 H2 u3 (Dt.le l3 dv)
theorem ET.mono {k : Bool} (h : ET X e σ H k) (l : Le H H') : ET X e σ H' k := fun H1 e1 Q q => h H1 (l.trans e1) Q q
theorem EA.mono (h : EA X es σ H ds) (l : Le H H') : EA X es σ H' ds := fun H1 e1 Q q => h H1 (l.trans e1) Q fun v B2 H2 u dv => by
  obtain ⟨B3, u3, l3⟩ := u.join l e1
  exact q v B3 H2 u3 (Ds.le l3 dv)
theorem EE.cast (h : EE X e σ H d) (q : d = d1) : EE X e σ H d1 := q ▸ h
theorem ET.cast {k k' : Bool} (h : ET X e σ H k) (q : k = k') : ET X e σ H k' := q ▸ h

/-! constants, names -/
theorem ee_v {v : V} (h : PE X e (tC v)) (hd : ∀ H', Dt X.K H' v d) : EE X e σ H d := fun H1 l Q q => ⟨_, h, q v H H1 (Up.refl l) (hd H)⟩
theorem ee_int {i : Int} {j : Nat} {pos : Pos} : EE X (.Constant (.int i) j pos) σ H (.int i) := ee_v pe_int fun _ => .int i
theorem ee_str {x : Str} {j : Nat} {pos : Pos} : EE X (.Constant (.str x) j pos) σ H (.str x) := ee_v pe_str fun _ => .str x
theorem ee_bl {k : Bool} {j : Nat} {pos : Pos} : EE X (.Constant (.bool k) j pos) σ H (.bool k) := ee_v pe_bl fun _ => .bl k
theorem ee_non {j : Nat} {pos : Pos} : EE X (.Constant .none j pos) σ H .none := ee_v pe_non fun _ => .non
theorem ee_var {v : V} {i : Nat} {x : Str} {pos : Pos} (hσ : σ[i]? = some (some v)) (hd : Dt X.K H v d) (hN : X.N[i]? = some x := by rfl) (hv : Vis X.env.scope x := by first | exact Or.inl rfl | exact Or.inr (Or.inl rfl) | exact Or.inr (Or.inr rfl))
    (hdb : (x == ("__debug__" : Str)) = false := by decide) (hcd : (x == ("__classdict__" : Str)) = false := by decide) : EE X (.Name x pos) σ H d := fun H1 l Q q =>
  ⟨_, pe_var hN hv hdb hcd, ⟨v, hσ, q v H H1 (Up.refl l) hd⟩⟩
theorem ee_glob {x : Str} {v : V} {u : Value} {pos : Pos} (hg : Gl X x) (hm : X.mg x = some u) (hr : RelV v u) (hd : ∀ H', Dt X.K H' v d) (hdb : (x == ("__debug__" : Str)) = false := by decide) : EE X (.Name x pos) σ H d := ee_v (pe_glob hg hm hr hdb) hd

/-! two operands -/
def RR (K : PySem.W.Frag) (r : R2) (H : Hp) (d1 d2 d3 : PyData) : Prop := ∀ B H1, Le H B → Le B H1 → ∀ x y, Dt K B x d1 → Dt K B y d2 → ∀ Q : VK, (∀ v B2 H2, Up B H1 B2 H2 → Dt K B2 v d3 → Q v H2) → r x y H1 Q
theorem two {r : R2} (hr : RR X.K r H d1 d2 d3) (ha : EE X a σ H d1) (hb : EE X b σ H d2) {H1 : Hp} (l : Le H H1) {Q : VK} (q : ∀ v B2 H2, Up H H1 B2 H2 → Dt X.K B2 v d3 → Q v H2) : tOp r (WE X a) (WE X b) σ H1 Q :=
  ha H1 l _ fun x B2 H2 u2 dx => hb.mono u2.b H2 u2.s _ fun y B3 H3 u3 dy => hr B3 H3 (u2.b.trans u3.b) u3.s x y (Dt.le u3.b dx) dy Q fun v B4 H4 u4 dv => q v B4 H4 ((u2.trans u3).trans u4) dv
theorem ee_op {op : Operator} {r : R2} {pos : Pos} (o : OpR X (binaryOp op) r) (hr : RR X.K r H d1 d2 d3) (ha : EE X a σ H d1) (hb : EE X b σ H d2) : EE X (.BinOp a op b pos) σ H d3 := fun H1 l Q q =>
  ⟨_, pe_op o pe_w pe_w, two hr ha hb l q⟩
theorem ee_cmp {op : CmpOp} {r : R2} {pos : Pos} (o : OpR X (compareOp op) r) (hr : RR X.K r H d1 d2 d3) (ha : EE X a σ H d1) (hb : EE X b σ H d2) (hm : behindInMarks op b = false := by rfl) : EE X (.Compare a [op] [b] pos) σ H d3 := fun H1 l Q q =>
  ⟨_, pe_cmpR o pe_w pe_w hm, two hr ha hb l q⟩
theorem ee_ix {r : R2} {pos : Pos} (o : IxR X r) (hr : RR X.K r H d1 d2 d3) (ha : EE X a σ H d1) (hb : EE X b σ H d2) (hp : PlainIx b := by intro _ _; rfl) : EE X (.Subscript a b pos) σ H d3 := fun H1 l Q q =>
  ⟨_, pe_ix o pe_w pe_w hp, two hr ha hb l q⟩
theorem ee_chain {op op' : CmpOp} {r r' : R2} {pos : Pos} {k1 k2 : Bool} (o : OpR X (compareOp op) r) (o' : OpR X (compareOp op') r') (hr : RR X.K r H d1 d2 (.bool k1)) (hr' : k1 = true → RR X.K r' H d2 d3 (.bool k2))
    (ha : EE X a σ H d1) (hb : EE X b σ H d2) (hc : k1 = true → EE X c σ H d3) (hm : lastMarks [op, op'] [b, c] = false := by rfl) : EE X (.Compare a [op, op'] [b, c] pos) σ H (.bool (k1 && k2)) := fun H1 l Q q =>
  ⟨_, pe_chain o o' pe_w pe_w pe_w hm, ha H1 l _ fun x B2 H2 u2 dx => hb.mono u2.b H2 u2.s _ fun y B3 H3 u3 dy => hr B3 H3 (u2.b.trans u3.b) u3.s x y (Dt.le u3.b dx) dy _ fun z B4 H4 u4 dz => by
    cases dz
    refine ⟨k1, rfl, ?_⟩
    have u := (u2.trans u3).trans u4
    cases k1 with
    | true =>
      rw [if_pos rfl]
      exact (hc rfl).mono u.b H4 u.s _ fun t B5 H5 u5 dt => hr' rfl B5 H5 (u.b.trans u5.b) u5.s y t (Dt.le (u4.b.trans u5.b) dy) dt Q fun v B6 H6 u6 dv => q v B6 H6 ((u.trans u5).trans u6) dv
    | false =>
      rw [if_neg Bool.false_ne_true]
      exact q _ B4 H4 u (.bl false)⟩

/-! truths -/
theorem ee_and {pos : Pos} {rest : List Expr} {p q : Bool} (ha : EE X a σ H (.bool p)) (hb : p = true → EE X (.BoolOp .And (b :: rest) pos) σ H (.bool q)) : EE X (.BoolOp .And (a :: b :: rest) pos) σ H (.bool (p && q)) := fun H1 l Q k =>
  ⟨_, pe_and pe_w pe_w, ha H1 l _ fun x B2 H2 u2 dx => by
    cases dx
    refine ⟨p, rfl, ?_⟩
    cases p with
    | true =>
      rw [if_pos rfl]
      exact (hb rfl).mono u2.b H2 u2.s Q fun v B3 H3 u3 dv => k v B3 H3 (u2.trans u3) dv
    | false =>
      rw [if_neg Bool.false_ne_true]
      exact k _ B2 H2 u2 (.bl false)⟩
theorem ee_or {pos : Pos} {rest : List Expr} {p q : Bool} (ha : EE X a σ H (.bool p)) (hb : p = false → EE X (.BoolOp .Or (b :: rest) pos) σ H (.bool q)) : EE X (.BoolOp .Or (a :: b :: rest) pos) σ H (.bool (p || q)) := fun H1 l Q k =>
  ⟨_, pe_or pe_w pe_w, ha H1 l _ fun x B2 H2 u2 dx => by
    cases dx
    refine ⟨p, rfl, ?_⟩
    cases p with
    | false =>
      rw [if_neg Bool.false_ne_true]
      exact (hb rfl).mono u2.b H2 u2.s Q fun v B3 H3 u3 dv => k v B3 H3 (u2.trans u3) dv
    | true =>
      rw [if_pos rfl]
      exact k _ B2 H2 u2 (.bl true)⟩
theorem ee_one {pos : Pos} {op : BoolOp} (ha : EE X a σ H d) : EE X (.BoolOp op [a] pos) σ H d := fun H1 l Q k => ⟨_, pe_one pe_w, ha H1 l Q k⟩
theorem ee_not {pos : Pos} {p : Bool} (ha : EE X a σ H (.bool p)) : EE X (.UnaryOp .Not a pos) σ H (.bool (!p)) := fun H1 l Q k =>
  ⟨_, pe_not pe_w, ha H1 l _ fun x B2 H2 u2 dx => by
    cases dx
    exact ⟨p, rfl, k _ B2 H2 u2 (.bl _)⟩⟩

/-! tests -/
theorem et_val {p : Bool} (ha : EE X e σ H (.bool p)) (hs : ∀ whole : Sem Value, PySem.isTrue e X.env whole = (do let v ← whole; standAt e.pos; holding [v] (truthy v)) := by intro _; rfl) : ET X e σ H p := fun H1 l Q k =>
  ⟨_, pt_val pe_w hs, ha H1 l _ fun x B2 H2 u2 dx => by
    cases dx
    exact ⟨p, rfl, k _ u2.h⟩⟩
theorem et_not {pos : Pos} {p : Bool} (ha : ET X a σ H p) : ET X (.UnaryOp .Not a pos) σ H (!p) := fun H1 l Q k => ⟨_, pt_not pt_w, ha H1 l _ fun H2 l2 => k _ l2⟩
theorem ew_one1 {pos : Pos} {p : Bool} (ha : ET X a σ H p) : EW X (.BoolOp .And [a] pos) σ H p := fun H1 l Q k => ⟨_, pw_and1 pt_w, ha H1 l Q k⟩
theorem ew_one2 {pos : Pos} {p : Bool} (ha : ET X a σ H p) : EW X (.BoolOp .Or [a] pos) σ H p := fun H1 l Q k => ⟨_, pw_or1 pt_w, ha H1 l Q k⟩
theorem ew_and {pos : Pos} {rest : List Expr} {p q : Bool} (ha : ET X a σ H p) (hb : p = true → EW X (.BoolOp .And (b :: rest) pos) σ H q) : EW X (.BoolOp .And (a :: b :: rest) pos) σ H (p && q) := fun H1 l Q k =>
  ⟨_, pw_and pt_w pw_w, ha H1 l _ fun H2 l2 => by
    cases p with
    | true =>
      rw [if_pos rfl]
      exact hb rfl H2 (l.trans l2) Q fun H3 l3 => k H3 (l2.trans l3)
    | false =>
      rw [if_neg Bool.false_ne_true]
      exact k _ l2⟩
theorem ew_or {pos : Pos} {rest : List Expr} {p q : Bool} (ha : ET X a σ H p) (hb : p = false → EW X (.BoolOp .Or (b :: rest) pos) σ H q) : EW X (.BoolOp .Or (a :: b :: rest) pos) σ H (p || q) := fun H1 l Q k =>
  ⟨_, pw_or pt_w pw_w, ha H1 l _ fun H2 l2 => by
    cases p with
    | false =>
      rw [if_neg Bool.false_ne_true]
      exact hb rfl H2 (l.trans l2) Q fun H3 l3 => k H3 (l2.trans l3)
    | true =>
      rw [if_pos rfl]
      exact k _ l2⟩
theorem et_w {p : Bool} (h : EW X e σ H p) : ET X e σ H p := fun H1 l Q k => by
  obtain ⟨t, h1, h2⟩ := h H1 l Q k
  exact ⟨t, PW.pt h1, h2⟩

/-! arguments -/
theorem ea_nil : EA X [] σ H [] := fun H1 l Q k => ⟨_, pa_nil, k [] H H1 (Up.refl l) .nil⟩
theorem ea_cons (ha : EE X e σ H d) (hb : EA X es σ H ds) (hs : starEach (e :: es) X.env = (false, eval e X.env) :: starEach es X.env := by rfl) : EA X (e :: es) σ H (d :: ds) := fun H1 l Q k =>
  ⟨_, pa_cons pe_w pa_w hs, ha H1 l _ fun v B2 H2 u2 dv => hb.mono u2.b H2 u2.s _ fun vs B3 H3 u3 dvs => k _ B3 H3 (u2.trans u3) (.cons (Dt.le u3.b dv) dvs)⟩

/-! displays -/
theorem ee_tup {pos : Pos} {n : Nat} (ha : EA X es σ H ds) (hl : ds.length ≤ sizeLine) : EE X (.Tuple es n pos) σ H (.tuple ds) := fun H1 l Q k =>
  ⟨_, pe_tup pa_w, ha H1 l _ fun vs B2 H2 u2 dv => ⟨by rw [dv.length]; exact hl, fun p hp => k _ _ _ (u2.new hp fun ps z => by cases z) (.new_tup upd_same (Ds.le (Le.new (u2.s.there p hp)) dv))⟩⟩
theorem ee_lst {pos : Pos} (ha : EA X es σ H ds) (hl : ds.length ≤ sizeLine) : EE X (.List es pos) σ H (.list ds) := fun H1 l Q k =>
  ⟨_, pe_lst pa_w, ha H1 l _ fun vs B2 H2 u2 dv => ⟨by rw [dv.length]; exact hl, fun p hp => k _ _ _ (u2.new hp fun ps z => by cases z) (.new_lst upd_same (Ds.le (Le.new (u2.s.there p hp)) dv))⟩⟩
theorem ee_if {pos : Pos} {p : Bool} (hc : ET X c σ H p) (h1 : p = true → EE X a σ H d) (h2 : p = false → EE X b σ H d) : EE X (.IfExp c a b pos) σ H d := fun H1 l Q k =>
  ⟨_, pe_ifExp pt_w pe_w pe_w, hc H1 l _ fun H2 l2 => by
    cases p with
    | true =>
      rw [if_pos rfl]
      exact h1 rfl H2 (l.trans l2) Q fun v B3 H3 u3 dv => k v B3 H3 ⟨l2.trans u3.h, u3.b, u3.s, fun a z => (Up.trans (Up.refl l) (⟨l2, Le.refl _, l.trans l2, fun a h => .inl h⟩ : Up H H1 H H2) |>.trans u3).n a z⟩ dv
    | false =>
      rw [if_neg Bool.false_ne_true]
      exact h2 rfl H2 (l.trans l2) Q fun v B3 H3 u3 dv => k v B3 H3 ⟨l2.trans u3.h, u3.b, u3.s, fun a z => (Up.trans (Up.refl l) (⟨l2, Le.refl _, l.trans l2, fun a h => .inl h⟩ : Up H H1 H H2) |>.trans u3).n a z⟩ dv⟩

/-! calls of built-ins -/
def RC1 (K : PySem.W.Frag) (r : List V → Hp → VK → Prop) (H : Hp) (ds : List PyData) (d : PyData) : Prop := ∀ B H1, Le H B → Le B H1 → ∀ vs, Ds K B vs ds → ∀ Q : VK, (∀ v B2 H2, Up B H1 B2 H2 → Dt K B2 v d → Q v H2) → r vs H1 Q
theorem ee_callB {x : Str} {p pos : Pos} {id : String} {r : List V → Hp → VK → Prop} (hc : CallR X (.builtin id) r) (hg : Gl X x) (hm : X.mg x = none) (hv : bootBuiltins x = some (.builtin id)) (hr : RC1 X.K r H ds d) (ha : EA X (e :: es) σ H ds)
    (h1 : x ≠ "__name__" := by decide) (h2 : (x == ("__debug__" : Str)) = false := by decide) (he : starEach (e :: es) X.env = (false, eval e X.env) :: starEach es X.env := by rfl) (hpl : (backTo pos (starEach es X.env)).any (·.1) = false := by rfl) :
    EE X (.Call (.Name x p) (e :: es) [] pos) σ H d := fun H1 l Q k =>
  ⟨_, pe_callB hc hg hm hv pa_w h1 h2 he hpl, ha H1 l _ fun vs B2 H2 u2 dv => hr B2 H2 u2.b u2.s vs dv Q fun v B3 H3 u3 d3 => k v B3 H3 (u2.trans u3) d3⟩
theorem ee_callTy {x : Str} {p pos : Pos} {T : String} {r : List V → Hp → VK → Prop} (hc : CallR X (.type T) r) (hg : Gl X x) (hm : X.mg x = none) (hv : bootBuiltins x = some (.type T)) (hr : RC1 X.K r H ds d) (ha : EA X (e :: es) σ H ds)
    (h1 : x ≠ "__name__" := by decide) (h2 : (x == ("__debug__" : Str)) = false := by decide) (he : starEach (e :: es) X.env = (false, eval e X.env) :: starEach es X.env := by rfl) (hpl : (backTo pos (starEach es X.env)).any (·.1) = false := by rfl) :
    EE X (.Call (.Name x p) (e :: es) [] pos) σ H d := fun H1 l Q k =>
  ⟨_, pe_callTy hc hg hm hv pa_w h1 h2 he hpl, ha H1 l _ fun vs B2 H2 u2 dv => hr B2 H2 u2.b u2.s vs dv Q fun v B3 H3 u3 d3 => k v B3 H3 (u2.trans u3) d3⟩
end
end Tk


set_option Elab.async false
set_option linter.all false
set_option maxRecDepth 100000
set_option maxHeartbeats 1000000
/-! Tk1: operators on data, statements, defs and their calls. -/
namespace Tk
open PySem PySem.Spec PyProof.Rows L2 GxR
variable [LamTab]

/-! ### kinds -/
def tyName : PyData → String
  | .none => "NoneType"
  | .bool _ => "bool"
  | .int _ => "int"
  | .str _ => "str"
  | .list _ => "list"
  | .tuple _ => "tuple"
  | .dict _ => "dict"
def isInt : PyData → Bool
  | .int _ => true
  | .bool _ => true
  | _ => false
def isBool : PyData → Bool
  | .bool _ => true
  | _ => false
def isStr : PyData → Bool
  | .str _ => true
  | _ => false
def isTup : PyData → Bool
  | .tuple _ => true
  | _ => false
def isLst : PyData → Bool
  | .list _ => true
  | _ => false
def isDct : PyData → Bool
  | .dict _ => true
  | _ => false
theorem kit_int : ∀ d : PyData, kitB (tyName d) "int" = some (isInt d)
  | .none => by decide +kernel
  | .bool _ => by show kitB "bool" "int" = some true; decide +kernel
  | .int _ => by show kitB "int" "int" = some true; decide +kernel
  | .str _ => by show kitB "str" "int" = some false; decide +kernel
  | .list _ => by show kitB "list" "int" = some false; decide +kernel
  | .tuple _ => by show kitB "tuple" "int" = some false; decide +kernel
  | .dict _ => by show kitB "dict" "int" = some false; decide +kernel
theorem kit_bool : ∀ d : PyData, kitB (tyName d) "bool" = some (isBool d)
  | .none => by decide +kernel
  | .bool _ => by show kitB "bool" "bool" = some true; decide +kernel
  | .int _ => by show kitB "int" "bool" = some false; decide +kernel
  | .str _ => by show kitB "str" "bool" = some false; decide +kernel
  | .list _ => by show kitB "list" "bool" = some false; decide +kernel
  | .tuple _ => by show kitB "tuple" "bool" = some false; decide +kernel
  | .dict _ => by show kitB "dict" "bool" = some false; decide +kernel
theorem kit_str : ∀ d : PyData, kitB (tyName d) "str" = some (isStr d)
  | .none => by decide +kernel
  | .bool _ => by show kitB "bool" "str" = some false; decide +kernel
  | .int _ => by show kitB "int" "str" = some false; decide +kernel
  | .str _ => by show kitB "str" "str" = some true; decide +kernel
  | .list _ => by show kitB "list" "str" = some false; decide +kernel
  | .tuple _ => by show kitB "tuple" "str" = some false; decide +kernel
  | .dict _ => by show kitB "dict" "str" = some false; decide +kernel
theorem kit_tup : ∀ d : PyData, kitB (tyName d) "tuple" = some (isTup d)
  | .none => by decide +kernel
  | .bool _ => by show kitB "bool" "tuple" = some false; decide +kernel
  | .int _ => by show kitB "int" "tuple" = some false; decide +kernel
  | .str _ => by show kitB "str" "tuple" = some false; decide +kernel
  | .list _ => by show kitB "list" "tuple" = some false; decide +kernel
  | .tuple _ => by show kitB "tuple" "tuple" = some true; decide +kernel
  | .dict _ => by show kitB "dict" "tuple" = some false; decide +kernel

section
variable {K : PySem.W.Frag} {H H' : Hp}
theorem Dt.ty : ∀ {v : V} {d : PyData}, Dt K H v d → TyX K H v (.type (tyName d))
  | _, _, .non => .base .non
  | _, _, .bl b => .base (.bl b)
  | _, _, .int i => .base (.int i)
  | _, _, .str x => .base (.str x)
  | _, _, .lst _ t _ => t
  | _, _, .tup _ t _ => t
  | _, _, .dct h => .base (.dK h)
/-! ### operators -/
theorem rr_lt {i j : Int} : RR K (rI0 fun i j => .bl (decide (i < j))) H (.int i) (.int j) (.bool (decide (i < j))) := fun B H1 l l1 x y hx hy Q q => by
  cases hx
  cases hy
  exact ⟨i, j, rfl, rfl, q _ B H1 (Up.refl l1) (.bl _)⟩
theorem rr_le {i j : Int} : RR K (rI0 fun i j => .bl (decide (i ≤ j))) H (.int i) (.int j) (.bool (decide (i ≤ j))) := fun B H1 l l1 x y hx hy Q q => by
  cases hx
  cases hy
  exact ⟨i, j, rfl, rfl, q _ B H1 (Up.refl l1) (.bl _)⟩
theorem rr_gt {i j : Int} : RR K (rI0 fun i j => .bl (decide (i > j))) H (.int i) (.int j) (.bool (decide (i > j))) := fun B H1 l l1 x y hx hy Q q => by
  cases hx
  cases hy
  exact ⟨i, j, rfl, rfl, q _ B H1 (Up.refl l1) (.bl _)⟩
theorem rr_add {i j : Int} : RR K (rI0 fun i j => .int (i + j)) H (.int i) (.int j) (.int (i + j)) := fun B H1 l l1 x y hx hy Q q => by
  cases hx
  cases hy
  exact ⟨i, j, rfl, rfl, q _ B H1 (Up.refl l1) (.int _)⟩
theorem rr_sub {i j : Int} : RR K (rI0 fun i j => .int (i - j)) H (.int i) (.int j) (.int (i - j)) := fun B H1 l l1 x y hx hy Q q => by
  cases hx
  cases hy
  exact ⟨i, j, rfl, rfl, q _ B H1 (Up.refl l1) (.int _)⟩
theorem rr_I {C : Int → Int → Prop} {f : Int → Int → Int} {i j : Int} (c : C i j) : RR K (rI C fun i j => .int (f i j)) H (.int i) (.int j) (.int (f i j)) := fun B H1 l l1 x y hx hy Q q => by
  cases hx
  cases hy
  exact ⟨i, j, rfl, rfl, c, q _ B H1 (Up.refl l1) (.int _)⟩
theorem rr_I0 {f : Int → Int → Int} {i j : Int} : RR K (rI0 fun i j => .int (f i j)) H (.int i) (.int j) (.int (f i j)) := fun B H1 l l1 x y hx hy Q q => by
  cases hx
  cases hy
  exact ⟨i, j, rfl, rfl, q _ B H1 (Up.refl l1) (.int _)⟩
def rLtS : R2 := fun x y H Q => ∃ i j, x = .str i ∧ y = .str j ∧ Q (.bl (decide (i.cps.toList < j.cps.toList))) H
def rLeS : R2 := fun x y H Q => ∃ i j, x = .str i ∧ y = .str j ∧ Q (.bl (!decide (j.cps.toList < i.cps.toList))) H
theorem o_ltS {X : Cx} : OpR X (compareOp .Lt) rLtS := op_lt_str
theorem o_leS {X : Cx} : OpR X (compareOp .LtE) rLeS := op_le_str
theorem rr_ltS {i j : Str} : RR K rLtS H (.str i) (.str j) (.bool (decide (i.cps.toList < j.cps.toList))) := fun B H1 l l1 x y hx hy Q q => by
  cases hx
  cases hy
  exact ⟨i, j, rfl, rfl, q _ B H1 (Up.refl l1) (.bl _)⟩
theorem rr_leS {i j : Str} : RR K rLeS H (.str i) (.str j) (.bool (!decide (j.cps.toList < i.cps.toList))) := fun B H1 l l1 x y hx hy Q q => by
  cases hx
  cases hy
  exact ⟨i, j, rfl, rfl, q _ B H1 (Up.refl l1) (.bl _)⟩
theorem rr_eqI {i j : Int} : RR K rEq H (.int i) (.int j) (.bool (decide (i = j))) := fun B H1 l l1 x y hx hy Q q => by
  cases hx
  cases hy
  refine ⟨rfl, ?_⟩
  have e : decide (V.int i = V.int j) = decide (i = j) := by
    by_cases h : i = j
    · rw [h, decide_eq_true rfl, decide_eq_true rfl]
    · rw [decide_eq_false h, decide_eq_false fun z => h (by cases z; rfl)]
  rw [e]
  exact q _ B H1 (Up.refl l1) (.bl _)
theorem rr_eqS {i j : Str} : RR K rEq H (.str i) (.str j) (.bool (decide (i = j))) := fun B H1 l l1 x y hx hy Q q => by
  cases hx
  cases hy
  refine ⟨rfl, ?_⟩
  have e : decide (V.str i = V.str j) = decide (i = j) := by
    by_cases h : i = j
    · rw [h, decide_eq_true rfl, decide_eq_true rfl]
    · rw [decide_eq_false h, decide_eq_false fun z => h (by cases z; rfl)]
  rw [e]
  exact q _ B H1 (Up.refl l1) (.bl _)
theorem rr_neS {i j : Str} : RR K rNe H (.str i) (.str j) (.bool (!decide (i = j))) := fun B H1 l l1 x y hx hy Q q => by
  cases hx
  cases hy
  refine ⟨rfl, ?_⟩
  have e : decide (V.str i = V.str j) = decide (i = j) := by
    by_cases h : i = j
    · rw [h, decide_eq_true rfl, decide_eq_true rfl]
    · rw [decide_eq_false h, decide_eq_false fun z => h (by cases z; rfl)]
  rw [e]
  exact q _ B H1 (Up.refl l1) (.bl _)
theorem rr_neI {i j : Int} : RR K rNe H (.int i) (.int j) (.bool (!decide (i = j))) := fun B H1 l l1 x y hx hy Q q => by
  cases hx
  cases hy
  refine ⟨rfl, ?_⟩
  have e : decide (V.int i = V.int j) = decide (i = j) := by
    by_cases h : i = j
    · rw [h, decide_eq_true rfl, decide_eq_true rfl]
    · rw [decide_eq_false h, decide_eq_false fun z => h (by cases z; rfl)]
  rw [e]
  exact q _ B H1 (Up.refl l1) (.bl _)
theorem rr_eqD {d e : PyData} (n1 : noDict d = true) (n2 : noDict e = true) (s1 : SeqAt.shaped d = true) (s2 : SeqAt.shaped e = true) : RR K (rEqD K) H d e (.bool (PyData.eqv d e)) := fun B H1 l l1 x y hx hy Q q =>
  ⟨d, e, (Dt.le l1 hx).toDp n1, (Dt.le l1 hy).toDp n2, s1, s2, q _ B H1 (Up.refl l1) (.bl _)⟩
theorem rr_neD {d e : PyData} (n1 : noDict d = true) (n2 : noDict e = true) (s1 : SeqAt.shaped d = true) (s2 : SeqAt.shaped e = true) : RR K (rNeD K) H d e (.bool (!PyData.eqv d e)) := fun B H1 l l1 x y hx hy Q q =>
  ⟨d, e, (Dt.le l1 hx).toDp n1, (Dt.le l1 hy).toDp n2, s1, s2, q _ B H1 (Up.refl l1) (.bl _)⟩

/-! items -/
theorem rr_ixT {ds : List PyData} {i : Int} {d : PyData} (h : atI ds i = some d) : RR K (rIxT K) H (.tuple ds) (.int i) d := fun B H1 l l1 x y hx hy Q q => by
  cases hy
  cases hx with
  | tup s t h0 =>
    rename_i a xs
    unfold atI at h
    have el := h0.length
    cases e : ixN ds.length i with
    | none => rw [e] at h; cases h
    | some j =>
      rw [e] at h
      obtain ⟨v, h1, h2⟩ := h0.get (show ds[j]? = some d from h)
      refine ⟨a, xs, i, v, rfl, rfl, sqT_le l1 s, ?_, q _ B H1 (Up.refl l1) h2⟩
      unfold atI
      rw [el, e]
      exact h1
theorem rr_ixL {ds : List PyData} {i : Int} {d : PyData} (h : atI ds i = some d) : RR K (rIxL K) H (.list ds) (.int i) d := fun B H1 l l1 x y hx hy Q q => by
  cases hy
  cases hx with
  | lst s t h0 =>
    rename_i a xs
    unfold atI at h
    have el := h0.length
    cases e : ixN ds.length i with
    | none => rw [e] at h; cases h
    | some j =>
      rw [e] at h
      obtain ⟨v, h1, h2⟩ := h0.get (show ds[j]? = some d from h)
      refine ⟨a, xs, i, v, rfl, rfl, sqL_le l1 s, ?_, q _ B H1 (Up.refl l1) h2⟩
      unfold atI
      rw [el, e]
      exact h1

/-! membership -/
def rInT (K : PySem.W.Frag) : R2 := fun x y H Q => ∃ d ds, Dp K H x d ∧ Dp K H y (.tuple ds) ∧ SeqAt.shaped d = true ∧ SeqAt.shaped (.tuple ds) = true ∧ Q (.bl (ds.any fun z => PyData.eqv z d)) H
def rNotInT (K : PySem.W.Frag) : R2 := fun x y H Q => ∃ d ds, Dp K H x d ∧ Dp K H y (.tuple ds) ∧ SeqAt.shaped d = true ∧ SeqAt.shaped (.tuple ds) = true ∧ Q (.bl (!ds.any fun z => PyData.eqv z d)) H
theorem room_tup {A : Around} {ds : List PyData} {d : PyData} (h : SeqAt.shaped d = true) (hu : A.units + 65 < cLine) : A.units + 1 + min (PyData.depthAll ds) d.depth < cLine := by
  have h1 := SeqAt.depth_of_shaped h
  have h2 : min (PyData.depthAll ds) d.depth ≤ d.depth := Nat.min_le_right _ _
  omega
theorem o_inT {X : Cx} (hu : X.A.units + 65 < cLine) : OpR X (compareOp .In) (rInT X.K) := by
  intro pins s σ H x y v u Q I rx ry h
  obtain ⟨d, ds, hd, he, sd, se, q⟩ := h
  obtain ⟨as, r1⟩ := Dp.reads I d x v hd rx
  obtain ⟨bs, r2⟩ := Dp.reads I (.tuple ds) y u he ry
  exact SeqAt.in_tuple_reads r2 r1 (SeqAt.canLay_of_shaped se) (SeqAt.canLay_of_shaped sd) (room_tup sd hu) ⟨.bl _, H, I, rfl, q⟩
theorem o_notInT {X : Cx} (hu : X.A.units + 65 < cLine) : OpR X (compareOp .NotIn) (rNotInT X.K) := by
  intro pins s σ H x y v u Q I rx ry h
  obtain ⟨d, ds, hd, he, sd, se, q⟩ := h
  obtain ⟨as, r1⟩ := Dp.reads I d x v hd rx
  obtain ⟨bs, r2⟩ := Dp.reads I (.tuple ds) y u he ry
  exact SeqAt.notIn_tuple_reads r2 r1 (SeqAt.canLay_of_shaped se) (SeqAt.canLay_of_shaped sd) (room_tup sd hu) ⟨.bl _, H, I, rfl, q⟩
theorem rr_inT {d : PyData} {ds : List PyData} (n1 : noDict d = true) (n2 : noDicts ds = true) (s1 : SeqAt.shaped d = true) (s2 : SeqAt.shaped (.tuple ds) = true) : RR K (rInT K) H d (.tuple ds) (.bool (ds.any fun z => PyData.eqv z d)) := fun B H1 l l1 x y hx hy Q q =>
  ⟨d, ds, (Dt.le l1 hx).toDp n1, (Dt.le l1 hy).toDp n2, s1, s2, q _ B H1 (Up.refl l1) (.bl _)⟩
theorem rr_notInT {d : PyData} {ds : List PyData} (n1 : noDict d = true) (n2 : noDicts ds = true) (s1 : SeqAt.shaped d = true) (s2 : SeqAt.shaped (.tuple ds) = true) : RR K (rNotInT K) H d (.tuple ds) (.bool (!ds.any fun z => PyData.eqv z d)) := fun B H1 l l1 x y hx hy Q q =>
  ⟨d, ds, (Dt.le l1 hx).toDp n1, (Dt.le l1 hy).toDp n2, s1, s2, q _ B H1 (Up.refl l1) (.bl _)⟩

/-! length -/
def dlen : PyData → Option Nat
  | .str x => some x.length
  | .list xs => some xs.length
  | .tuple xs => some xs.length
  | _ => none
def rLenD (K : PySem.W.Frag) : List V → Hp → VK → Prop := fun xs H Q => ∃ x n, xs = [x] ∧ LenV K x H n ∧ Q (.int (n : Int)) H
theorem c_len {X : Cx} : CallR X (.builtin "len") (rLenD X.K) := call_len
theorem rc_len {d : PyData} {n : Nat} (h : dlen d = some n) (hs : ∀ x, d = .str x → x.length ≤ sizeLine) : RC1 K (rLenD K) H [d] (.int (n : Int)) := fun B H1 l l1 vs hv Q q => by
  cases hv with
  | cons hx ht =>
    cases ht
    cases hx with
    | str x => cases h; exact ⟨_, _, rfl, ⟨hs x rfl, rfl⟩, q _ B H1 (Up.refl l1) (.int _)⟩
    | lst s t h0 => cases h; exact ⟨_, _, rfl, .inl ⟨_, sqL_le l1 s, h0.length.symm⟩, q _ B H1 (Up.refl l1) (.int _)⟩
    | tup s t h0 => cases h; exact ⟨_, _, rfl, .inr ⟨_, sqT_le l1 s, h0.length.symm⟩, q _ B H1 (Up.refl l1) (.int _)⟩
    | non => cases h
    | bl b => cases h
    | int i => cases h
    | dct h0 => cases h
/-! tuple(list), tuple(tuple), list(..) -/
def rTupD (K : PySem.W.Frag) : List V → Hp → VK → Prop := fun xs H Q => ∃ p ys, xs = [V.ref p] ∧ ((SqL K H p ys ∧ ∀ (l : Addr), H l = none → Q (.ref l) (upd H l (.tup ys))) ∨ SqT K H p ys ∧ Q (.ref p) H)
theorem c_tup {X : Cx} : CallR X (.type "tuple") (rTupD X.K) := call_tuple_of
theorem rc_tup {ds : List PyData} : RC1 K (rTupD K) H [.list ds] (.tuple ds) := fun B H1 l l1 vs hv Q q => by
  cases hv with
  | cons hx ht =>
    cases ht
    cases hx with
    | lst s t h0 => exact ⟨_, _, rfl, .inl ⟨sqL_le l1 s, fun p hp => q _ _ _ ((Up.refl l1).new hp fun ps z => by cases z) (.new_tup upd_same (Ds.le (Le.new (l1.there p hp)) h0))⟩⟩
theorem rc_tupT {ds : List PyData} : RC1 K (rTupD K) H [.tuple ds] (.tuple ds) := fun B H1 l l1 vs hv Q q => by
  cases hv with
  | cons hx ht =>
    cases ht
    cases hx with
    | tup s t h0 => exact ⟨_, _, rfl, .inr ⟨sqT_le l1 s, q _ B H1 (Up.refl l1) (.tup s t h0)⟩⟩
end

/-! ### the built-in names -/
structure Blt (mg : Str → Option Value) : Prop where
  isinstance : mg "isinstance" = none
  int : mg "int" = none
  bool : mg "bool" = none
  str : mg "str" = none
  tuple : mg "tuple" = none
  list : mg "list" = none
  dict : mg "dict" = none
  len : mg "len" = none
  all : mg "all" = none
  any : mg "any" = none
  range : mg "range" = none
  enumerate : mg "enumerate" = none
theorem boot_isi : bootBuiltins "isinstance" = some (.builtin "isinstance") := by decide +kernel
theorem boot_len' : bootBuiltins "len" = some (.builtin "len") := by decide +kernel
theorem boot_all' : bootBuiltins "all" = some (.builtin "all") := by decide +kernel
theorem boot_any' : bootBuiltins "any" = some (.builtin "any") := by decide +kernel
theorem boot_int' : bootBuiltins "int" = some (.type "int") := by decide +kernel
theorem boot_bool' : bootBuiltins "bool" = some (.type "bool") := by decide +kernel
theorem boot_str' : bootBuiltins "str" = some (.type "str") := by decide +kernel
theorem boot_tuple' : bootBuiltins "tuple" = some (.type "tuple") := by decide +kernel
theorem boot_list' : bootBuiltins "list" = some (.type "list") := by decide +kernel
theorem boot_dict' : bootBuiltins "dict" = some (.type "dict") := by decide +kernel

section
variable {X : Cx} {e a b c : Expr} {es : List Expr} {σ : L2.St} {H H' : Hp} {d d1 d2 d3 : PyData} {ds : List PyData}
theorem ee_isi {T : String} {xT : Str} {k : Bool} {p p2 pos : Pos} (B : Blt X.mg) (ha : EE X e σ H d) (hk : kitB (tyName d) T = some k) (hT : X.mg xT = none) (hb : bootBuiltins xT = some (.type T)) (hg : Gl X "isinstance" := by rfl) (hg2 : Gl X xT := by rfl)
    (h1 : xT ≠ "__name__" := by decide) (h2 : (xT == ("__debug__" : Str)) = false := by decide)
    (he : starEach [e, .Name xT p2] X.env = (false, eval e X.env) :: starEach [.Name xT p2] X.env := by rfl) (he2 : starEach [.Name xT p2] X.env = (false, eval (.Name xT p2) X.env) :: starEach [] X.env := by rfl)
    (hpl : (backTo pos (starEach [.Name xT p2] X.env)).any (·.1) = false := by rfl) : EE X (.Call (.Name "isinstance" p) [e, .Name xT p2] [] pos) σ H (.bool k) := fun H1 l Q q =>
  ⟨_, pe_callB call_isi hg B.isinstance boot_isi (pa_cons pe_w (pa_cons (pe_bltn (v := .ty T) hg2 hT hb rfl h1 h2) pa_nil he2) he) (by decide) (by decide) he hpl,
    ha H1 l _ fun x B2 H2 u2 dx => ⟨x, .ty T, .type (tyName d), .type T, k, rfl, .ty T, (Dt.le u2.s dx).ty, kit_ty hk, q _ B2 H2 u2 (.bl _)⟩⟩
theorem ee_isInt {p p2 pos : Pos} (B : Blt X.mg) (ha : EE X e σ H d) (hg : Gl X "isinstance" := by rfl) (hg2 : Gl X "int" := by rfl) (he : starEach [e, .Name "int" p2] X.env = (false, eval e X.env) :: starEach [.Name "int" p2] X.env := by rfl) :
    EE X (.Call (.Name "isinstance" p) [e, .Name "int" p2] [] pos) σ H (.bool (isInt d)) := ee_isi B ha (kit_int d) B.int boot_int' hg hg2 (by decide) (by decide) he rfl rfl
theorem ee_isBool {p p2 pos : Pos} (B : Blt X.mg) (ha : EE X e σ H d) (hg : Gl X "isinstance" := by rfl) (hg2 : Gl X "bool" := by rfl) (he : starEach [e, .Name "bool" p2] X.env = (false, eval e X.env) :: starEach [.Name "bool" p2] X.env := by rfl) :
    EE X (.Call (.Name "isinstance" p) [e, .Name "bool" p2] [] pos) σ H (.bool (isBool d)) := ee_isi B ha (kit_bool d) B.bool boot_bool' hg hg2 (by decide) (by decide) he rfl rfl
theorem ee_isStr {p p2 pos : Pos} (B : Blt X.mg) (ha : EE X e σ H d) (hg : Gl X "isinstance" := by rfl) (hg2 : Gl X "str" := by rfl) (he : starEach [e, .Name "str" p2] X.env = (false, eval e X.env) :: starEach [.Name "str" p2] X.env := by rfl) :
    EE X (.Call (.Name "isinstance" p) [e, .Name "str" p2] [] pos) σ H (.bool (isStr d)) := ee_isi B ha (kit_str d) B.str boot_str' hg hg2 (by decide) (by decide) he rfl rfl
theorem ee_isTup {p p2 pos : Pos} (B : Blt X.mg) (ha : EE X e σ H d) (hg : Gl X "isinstance" := by rfl) (hg2 : Gl X "tuple" := by rfl) (he : starEach [e, .Name "tuple" p2] X.env = (false, eval e X.env) :: starEach [.Name "tuple" p2] X.env := by rfl) :
    EE X (.Call (.Name "isinstance" p) [e, .Name "tuple" p2] [] pos) σ H (.bool (isTup d)) := ee_isi B ha (kit_tup d) B.tuple boot_tuple' hg hg2 (by decide) (by decide) he rfl rfl
theorem ee_len {p pos : Pos} {n : Nat} (B : Blt X.mg) (ha : EE X e σ H d) (h : dlen d = some n) (hs : ∀ x, d = .str x → x.length ≤ sizeLine) (hg : Gl X "len" := by rfl) (he : starEach [e] X.env = (false, eval e X.env) :: starEach [] X.env := by rfl) :
    EE X (.Call (.Name "len" p) [e] [] pos) σ H (.int (n : Int)) := ee_callB c_len hg B.len boot_len' (rc_len h hs) (ea_cons ha ea_nil he) (by decide) (by decide) he rfl
theorem ee_tuple {p pos : Pos} (B : Blt X.mg) (ha : EE X e σ H (.list ds)) (hg : Gl X "tuple" := by rfl) (he : starEach [e] X.env = (false, eval e X.env) :: starEach [] X.env := by rfl) :
    EE X (.Call (.Name "tuple" p) [e] [] pos) σ H (.tuple ds) := ee_callTy c_tup hg B.tuple boot_tuple' rc_tup (ea_cons ha ea_nil he) (by decide) (by decide) he rfl

/-! ### statements: B, what data leans on; H, the heap -/
variable {D : L2.Ends} {B : Hp}
theorem wb_nil (h : D.nx σ H) : WB X [] D σ H := ⟨_, pss_nil, h⟩
theorem wb_cons {st : Stmt} {rest : List Stmt} (h : WS X st { D with nx := fun σ' H' => WB X rest D σ' H' } σ H) : WB X (st :: rest) D σ H := ⟨_, pss_cons ps_w pss_w, h⟩
theorem wb_one {st : Stmt} (h : WS X st D σ H) : WB X [st] D σ H := ⟨_, pss_one ps_w, h⟩
theorem ws_ret {pos : Pos} (l : Le B H) (h : EE X e σ B d) (q : ∀ v B' H', Up B H B' H' → Dt X.K B' v d → D.rt v H') : WS X (.Return (some e) pos) D σ H := ⟨_, ps_ret pe_w, h H l _ fun v B' H' u dv => q v B' H' u dv⟩
theorem ws_if {pos : Pos} {sa sb : List Stmt} {k : Bool} (l : Le B H) (h : ET X c σ B k) (h1 : k = true → ∀ H', Le H H' → WB X sa D σ H') (h2 : k = false → ∀ H', Le H H' → WB X sb D σ H') : WS X (.If c sa sb pos) D σ H :=
  ⟨_, ps_if pt_w pss_w pss_w, h H l _ fun H' l => by
    cases k with
    | true =>
      show (if true = true then WB X sa D σ H' else _)
      rw [if_pos rfl]
      exact h1 rfl H' l
    | false =>
      show (if false = true then _ else WB X sb D σ H')
      rw [if_neg Bool.false_ne_true]
      exact h2 rfl H' l⟩
theorem ws_set {pos pos' : Pos} {i : Nat} {x : Str} (l : Le B H) (h : EE X e σ B d) (q : ∀ v B' H', Up B H B' H' → Dt X.K B' v d → D.nx (σ.set i (some v)) H') (nd : X.N.Nodup) (hN : X.N[i]? = some x := by rfl) (hx : L2.Loc X.env.scope x := by first | exact Or.inl rfl | exact Or.inr rfl)
    (hs : swapsWith e (some (.Name x pos')) pos.line X.env = pure false := by rfl) (hf : X.fn x = true ∨ X.env.scope.names.lookup x = some .local := by first | exact Or.inl rfl | exact Or.inr rfl) : WS X (.Assign [.Name x pos'] e pos) D σ H :=
  ⟨_, ps_set nd hN hx pe_w hs hf, h H l _ fun v B' H' u dv => q v B' H' u dv⟩
end

/-! ### defs -/
/-- a def that changes nothing but tables: what it asks of its arguments, what it is worth -/
def spF (K : PySem.W.Frag) (T : List Addr) (n : Nat) (pre : List PyData → Prop) (f : List PyData → PyData) : Sp := fun vs H Q _ => vs.length = n ∧ Tbs T H ∧ ∃ B ds, Le B H ∧ Ds K B vs ds ∧ pre ds ∧ ∀ v B' H', Up B H B' H' → Dt K B' v (f ds) → Q v H'
structure Kn (P : Program) (w : World) (K : PySem.W.Frag) (mg : Str → Option Value) (base : Heap) (k : Nat) (x : Str) (ps : List Str) (sp : Sp) : Prop where
  ex : ∃ (f : Addr) (fd : FuncData), mg x = some (.ref f) ∧ PySem.W.keepIn K (.ref f) = true ∧ FnOk P w K mg base CX0 k f fd ps sp ∧ Binds K fd ps []
section
variable {X : Cx} {e : Expr} {es : List Expr} {σ : L2.St} {H H' : Hp} {ds : List PyData} {T : List Addr} {n k : Nat} {pre : List PyData → Prop} {f : List PyData → PyData} {x : Str} {ps : List Str}
theorem ee_call {P : Program} {w : World} {K : PySem.W.Frag} {mg : Str → Option Value} {base : Heap} {p pos : Pos} {j : Nat} (F : Kn P w K mg base k x ps (spF K T n pre f)) (hr : Room j X.A) (hk : k ≤ j) (t : Tbs T H) (ha : EA X (e :: es) σ H ds) (hp : pre ds) {d : PyData} (hd : f ds = d := by rfl) (hl : ds.length = n := by rfl) (eP : X.prog = P := by rfl) (ew : X.w = w := by rfl) (eK : X.K = K := by rfl) (em : X.mg = mg := by rfl) (eb : X.base = base := by rfl) (hg : Gl X x := by rfl)
    (hdb : (x == ("__debug__" : Str)) = false := by decide) (he : starEach (e :: es) X.env = (false, eval e X.env) :: starEach es X.env := by rfl) (hpl : (backTo pos (starEach es X.env)).any (·.1) = false := by rfl) :
    EE X (.Call (.Name x p) (e :: es) [] pos) σ H d := fun H1 l Q q => by
  subst hd eP ew eK em eb
  obtain ⟨fa, fd, m1, m2, G, bi⟩ := F.ex
  refine ⟨_, pe_call (E := L2.E0) G (hr.mono hk) hg m1 m2 bi .nil pass0 pa_w hdb he hpl, ha H1 l _ fun vs B2 H2 u2 dv => ?_⟩
  rw [List.append_nil]
  exact ⟨by rw [dv.length, hl], (t.le l).le u2.h, B2, ds, u2.s, dv, hp, fun v B3 H3 u3 d3 => q v B3 H3 (u2.trans u3) d3⟩
end
/-- the part B and the tables T of H -/
theorem with_tables {T : List Addr} {B H : Hp} (t : Tbs T H) (l : Le B H) : ∃ B', Le B B' ∧ Le B' H ∧ Tbs T B' ∧ ∀ {B2 H2 : Hp}, Up B' H B2 H2 → Up B H B2 H2 := by
  have l1 : Le B (fun a => if B a = none ∧ a ∉ T then none else H a) := by
    refine ⟨fun a o q n => ?_, fun P tg => ?_, fun a q => ?_⟩
    · show (if B a = none ∧ a ∉ T then none else H a) = some o
      rw [if_neg fun z => by rw [z.1] at q; cases q]
      exact l.keep a o q n
    · obtain ⟨ps, q, r⟩ := tg
      obtain ⟨ps', q', r'⟩ := l.tab P ⟨ps, q, r⟩
      refine ⟨ps', ?_, r'⟩
      show (if B P = none ∧ P ∉ T then none else H P) = _
      rw [if_neg fun z => by rw [z.1] at q; cases q]
      exact q'
    · have q' : (if B a = none ∧ a ∉ T then none else H a) = none := q
      by_cases z : B a = none ∧ a ∉ T
      · exact z.1
      · rw [if_neg z] at q'
        exact l.there a q'
  have l2 : Le (fun a => if B a = none ∧ a ∉ T then none else H a) H := by
    refine ⟨fun a o q n => ?_, fun P tg => ?_, fun a q => ?_⟩
    · have q' : (if B a = none ∧ a ∉ T then none else H a) = some o := q
      by_cases z : B a = none ∧ a ∉ T
      · rw [if_pos z] at q'
        cases q'
      · rw [if_neg z] at q'
        exact q'
    · obtain ⟨ps, q, r⟩ := tg
      have q' : (if B P = none ∧ P ∉ T then none else H P) = _ := q
      by_cases z : B P = none ∧ P ∉ T
      · rw [if_pos z] at q'
        cases q'
      · rw [if_neg z] at q'
        exact ⟨ps, q', r⟩
    · show (if B a = none ∧ a ∉ T then none else H a) = none
      rw [q]
      exact ite_self _
  refine ⟨_, l1, l2, fun P hP => ?_, fun {B2 H2} u => ⟨u.h, l1.trans u.b, u.s, fun a h => ?_⟩⟩
  · obtain ⟨⟨ps, q, r⟩, ns⟩ := t P hP
    refine ⟨⟨ps, ?_, r⟩, ns⟩
    show (if B P = none ∧ P ∉ T then none else H P) = _
    rw [if_neg fun z => z.2 hP]
    exact q
  · rcases u.n a h with z | z | z
    · have z' : (if B a = none ∧ a ∉ T then none else H a) ≠ none := z
      by_cases y : B a = none
      · by_cases x : a ∈ T
        · obtain ⟨⟨ps, q, _⟩, ns⟩ := t a x
          exact .inr (.inr ⟨⟨ps, q⟩, ns⟩)
        · rw [if_pos ⟨y, x⟩] at z'
          exact absurd rfl z'
      · exact .inl y
    · exact .inr (.inl z)
    · exact .inr (.inr z)
/-- the rule for such a def -/
theorem fn_pure {P : Program} {w : World} {K : PySem.W.Frag} {mg : Str → Option Value} {base : Heap} {x qual : Str} {st : Stmt} {fa : Addr} {fd : FuncData} {N ps : List Str} {k n : Nat} {T : List Addr} {pre : List PyData → Prop} {f : List PyData → PyData}
    (F : L2.Fun K x qual st fa fd) (S : FnScope N ps (defScope st)) (hn : n = ps.length)
    (hbody : ∀ (cdv : Value) (A : Around) (outer : List Env) (s : Shared) (H : Hp) (vs : List V) (B : Hp) (ds : List PyData) (Q : VK) (E : XK), Room k (A.deeper (envOfC qual (defScope st) s.heap.objs.size fa cdv)) → fd.code = cdv → Tbs T B → Le B H → Ds K B vs ds → vs.length = n → pre ds →
      (∀ v B' H', Up B H B' H' → Dt K B' v (f ds) → Q v H') → WB (cxOf CX0 P w K mg base N qual (defScope st) fa cdv A outer s H E).nox (defBody st) { nx := fun _ H' => Q .non H', rt := Q } (start N vs) H) :
    FnOk P w K mg base CX0 (k + 1) fa fd ps (spF K T n pre f) := by
  obtain ⟨oc, od, kV, doc, pm, an, cdv, ct, osl, rfl, lk, hcd⟩ := F.ex
  refine fn_of lk hcd S (fun vs H Q E h => by rw [h.1, hn]) fun A outer s H vs Q E hr h => ?_
  obtain ⟨h1, h2, B, ds, l, h3, h4, h5⟩ := h
  obtain ⟨B', l1, l2, t', up⟩ := with_tables h2 l
  obtain ⟨t, t1, t2⟩ := hbody cdv A outer s H vs B' ds Q E hr rfl t' l2 (Ds.le l1 h3) h1 h4 fun v B2 H2 u dv => h5 v B2 H2 (up u) dv
  exact ⟨t, t1.nox, t2⟩
theorem Kn.mk' {P : Program} {w : World} {K : PySem.W.Frag} {mg : Str → Option Value} {base : Heap} {k : Nat} {x qual : Str} {st : Stmt} {fa : Addr} {fd : FuncData} {ps : List Str} {sp : Sp} (F : L2.Fun K x qual st fa fd) (m : mg x = some (.ref fa)) (G : FnOk P w K mg base CX0 k fa fd ps sp) (b : Binds K fd ps []) : Kn P w K mg base k x ps sp :=
  ⟨fa, fd, m, F.kp, G, b⟩
end Tk


set_option Elab.async false
set_option linter.all false
set_option maxRecDepth 100000
set_option maxHeartbeats 1000000
/-! Tk2: what is walked, targets, all and any of a generator expression, list comprehensions. -/
namespace Tk
open PySem PySem.Spec PyProof.Rows L2 GxR Gx
variable [LamTab]

/-! ### what is walked -/
def Walk (K : PySem.W.Frag) (J : It) (B : Hp) (ds : List PyData) : Prop := ∀ B' H', Le B B' → Le B' H' →
  (∀ i, i < ds.length → J.go i H') ∧ J.stop ds.length H' ∧ ∀ i x H'', i < ds.length → J.yld i H' x H'' → ∃ B'' d, Up B' H' B'' H'' ∧ ds[i]? = some d ∧ Dt K B'' x d
def EI (X : Cx) (tg iter : Expr) (σ : L2.St) (B : Hp) (ds : List PyData) : Prop := ∀ H1, Le B H1 → ∀ R : It → Hp → Prop, (∀ J B2 H2, Up B H1 B2 H2 → Walk X.K J B2 ds → R J H2) → WI X tg iter σ H1 R
section
variable {X : Cx} {tg e : Expr} {σ : L2.St} {B : Hp} {ds : List PyData}
theorem ei_tup (h : EE X e σ B (.tuple ds)) : EI X tg e σ B ds := fun H1 l R q => ⟨_, pi_tup pe_w, h H1 l _ fun v B2 H2 u dv => by
  cases dv with
  | tup s t h0 =>
    refine ⟨_, rfl, ⟨_, sqT_le u.s s⟩, q _ B2 H2 u fun B' H' l1 l2 => ⟨fun i hi => ?_, ⟨_, sqT_le (l1.trans l2) s, Nat.le_of_eq h0.length⟩, fun i x H'' hi hy => ?_⟩⟩
    · obtain ⟨v, h1, _⟩ := h0.get (List.getElem?_eq_getElem hi)
      exact ⟨_, v, sqT_le (l1.trans l2) s, h1⟩
    · obtain ⟨e1, hy⟩ := hy
      subst e1
      obtain ⟨d, h1, h2⟩ := h0.getV (hy _ (sqT_le (l1.trans l2) s))
      exact ⟨B', d, Up.refl l2, h1, Dt.le l1 h2⟩⟩
theorem ei_lst (h : EE X e σ B (.list ds)) : EI X tg e σ B ds := fun H1 l R q => ⟨_, pi_list pe_w, h H1 l _ fun v B2 H2 u dv => by
  cases dv with
  | lst s t h0 =>
    refine ⟨_, rfl, ⟨_, sqL_le u.s s⟩, q _ B2 H2 u fun B' H' l1 l2 => ⟨fun i hi => ?_, ⟨_, sqL_le (l1.trans l2) s, Nat.le_of_eq h0.length⟩, fun i x H'' hi hy => ?_⟩⟩
    · obtain ⟨v, h1, _⟩ := h0.get (List.getElem?_eq_getElem hi)
      exact ⟨_, v, sqL_le (l1.trans l2) s, h1⟩
    · obtain ⟨e1, hy⟩ := hy
      subst e1
      obtain ⟨d, h1, h2⟩ := h0.getV (hy _ (sqL_le (l1.trans l2) s))
      exact ⟨B', d, Up.refl l2, h1, Dt.le l1 h2⟩⟩
/-- the signs of a text -/
def signs (x : Str) : List PyData := x.cps.toList.map fun c => .str ⟨#[c]⟩
theorem signs_len (x : Str) : (signs x).length = x.cps.size := by unfold signs; rw [List.length_map]; simp
theorem ei_str {x : Str} (h : EE X e σ B (.str x)) : EI X tg e σ B (signs x) := fun H1 l R q => ⟨_, pi_str pe_w, h H1 l _ fun v B2 H2 u dv => by
  cases dv
  refine ⟨x, rfl, q _ B2 H2 u fun B' H' l1 l2 => ⟨fun i hi => ?_, ?_, fun i y H'' hi hy => ?_⟩⟩
  · have := signs_len x
    show i < x.cps.size
    omega
  · show x.cps.size ≤ _
    rw [signs_len]
    exact Nat.le_refl _
  · obtain ⟨e1, c, h1, h2⟩ := hy
    subst e1 h2
    refine ⟨B', _, Up.refl l2, ?_, .str _⟩
    unfold signs
    rw [List.getElem?_map, Array.getElem?_toList, h1]
    rfl⟩
def upto (n : Nat) : List PyData := (List.range n).map fun (i : Nat) => PyData.int (Int.ofNat i)
theorem ei_range {p pos : Pos} {a : Expr} {n : Int} (BL : X.mg "range" = none) (h : EE X a σ B (.int n)) (h0 : -(2 ^ 62) ≤ n) (h1 : n < 2 ^ 62) (hg : Gl X "range" := by rfl) (hs : starEach [a] X.env = [(false, eval a X.env)] := by rfl)
    (hs2 : starEach [a] X.env = (false, eval a X.env) :: starEach [] X.env := by rfl) : EI X tg (.Call (.Name "range" p) [a] [] pos) σ B (upto n.toNat) := fun H1 l R q => ⟨_, pi_range1 hg BL (pa_cons pe_w pa_nil hs2) hs, h H1 l _ fun v B2 H2 u dv => by
  cases dv
  refine ⟨n, rfl, h0, h1, q _ B2 H2 u fun B' H' l1 l2 => ⟨fun i hi => ?_, ?_, fun i y H'' hi hy => ?_⟩⟩
  · unfold upto at hi
    rw [List.length_map, List.length_range] at hi
    exact hi
  · unfold upto
    rw [List.length_map, List.length_range]
    exact Nat.le_refl _
  · obtain ⟨e1, h2⟩ := hy
    subst e1 h2
    refine ⟨B', _, Up.refl l2, ?_, .int _⟩
    unfold upto at hi ⊢
    rw [List.length_map, List.length_range] at hi
    rw [List.getElem?_map, List.getElem?_range hi, Int.zero_add]
    rfl⟩
end

/-! ### targets -/
def setsS : L2.St → List Nat → List V → L2.St
  | σ, j :: js, v :: vs => setsS (σ.set j (some v)) js vs
  | σ, _, _ => σ
theorem setsS_set : ∀ {js : List Nat} {vs : List V} {σ : L2.St} {j : Nat} {o : Option V}, j ∉ js → setsS (σ.set j o) js vs = (setsS σ js vs).set j o
  | [], _, _, _, _, _ => rfl
  | _ :: _, [], _, _, _, _ => rfl
  | i :: js, v :: vs, σ, j, o, h => by
    have hij : j ≠ i := fun z => h (by rw [z]; exact List.mem_cons_self)
    show setsS ((σ.set j o).set i (some v)) js vs = (setsS (σ.set i (some v)) js vs).set j o
    rw [List.set_comm o (some v) hij]
    exact setsS_set fun z => h (List.mem_cons_of_mem _ z)
theorem setsS_over : ∀ {js : List Nat} {vs ws : List V} {σ : L2.St}, js.Nodup → vs.length = js.length → ws.length = js.length → setsS (setsS σ js vs) js ws = setsS σ js ws
  | [], _, _, _, _, _, _ => rfl
  | i :: js, v :: vs, u :: ws, σ, nd, h1, h2 => by
    obtain ⟨hi, nd⟩ := List.nodup_cons.mp nd
    show setsS ((setsS (σ.set i (some v)) js vs).set i (some u)) js ws = setsS (σ.set i (some u)) js ws
    rw [setsS_set hi, setsS_over nd (Nat.succ.inj h1) (Nat.succ.inj h2), ← setsS_set hi, List.set_set]
  | _ :: _, [], _, _, _, h1, _ => by cases h1
  | _ :: _, _ :: _, [], _, _, _, h2 => by cases h2
def EG (X : Cx) (tg : Expr) (tjs : List Nat) (pat : PyData → Option (List PyData)) : Prop :=
  ∀ (v : V) (d : PyData) (es : List PyData) (σ : L2.St) (B H : Hp), Le B H → Dt X.K B v d → pat d = some es → ∀ Q : L2.St → Hp → Prop, (∀ vs, Ds X.K B vs es → Q (setsS σ tjs vs) H) → WG X tg v σ H Q
def patN : PyData → Option (List PyData) := fun d => some [d]
theorem eg_name {X : Cx} {x : Str} {pos : Pos} {j : Nat} (nd : X.N.Nodup) (hN : X.N[j]? = some x := by rfl) (hx : L2.Loc X.env.scope x := by first | exact Or.inl rfl | exact Or.inr rfl)
    (hf : X.fn x = true ∨ X.env.scope.names.lookup x = some .local := by first | exact Or.inl rfl | exact Or.inr rfl) : EG X (.Name x pos) [j] patN := fun v d es σ B H l dv hp Q q => by
  cases hp
  exact ⟨_, pg_name nd hN hx hf, q [v] (.cons dv .nil)⟩
/-- (a, b, ..), all names -/
def patT (n : Nat) : PyData → Option (List PyData)
  | .tuple es => if es.length = n then some es else none
  | _ => none
theorem patT_some {n : Nat} {d : PyData} {es : List PyData} (h : patT n d = some es) : d = .tuple es ∧ es.length = n := by
  cases d with
  | tuple xs =>
    have h' : (if xs.length = n then some xs else none) = some es := h
    by_cases z : xs.length = n
    · rw [if_pos z] at h'
      cases h'
      exact ⟨rfl, z⟩
    · rw [if_neg z] at h'
      cases h'
  | _ => cases h
/-- the names of a tuple target, set one by one -/
def SetsTo (X : Cx) (es : List Expr) (tjs : List Nat) : Prop := ∃ t, PGs X es t ∧ ∀ (vs : List V) (σ : L2.St) (H : Hp) (Q : L2.St → Hp → Prop), vs.length = tjs.length → Q (setsS σ tjs vs) H → t vs σ H Q
theorem st_nil {X : Cx} : SetsTo X [] [] := ⟨_, pgs_nil, fun vs σ H Q hl q => by
  cases vs with
  | nil => exact ⟨rfl, q⟩
  | cons v vs => cases hl⟩
theorem st_cons {X : Cx} {x : Str} {pos : Pos} {j : Nat} {es : List Expr} {tjs : List Nat} (h : SetsTo X es tjs) (nd : X.N.Nodup) (hN : X.N[j]? = some x := by rfl) (hx : L2.Loc X.env.scope x := by first | exact Or.inl rfl | exact Or.inr rfl)
    (hf : X.fn x = true ∨ X.env.scope.names.lookup x = some .local := by first | exact Or.inl rfl | exact Or.inr rfl)
    (ha : (assignEach (.Name x pos :: es) X.env).map (·.2) = assign (.Name x pos) X.env :: (assignEach es X.env).map (·.2) := by rfl) : SetsTo X (.Name x pos :: es) (j :: tjs) := by
  obtain ⟨t, h1, h2⟩ := h
  refine ⟨_, pgs_cons (pg_name nd hN hx hf) h1 ha, fun vs σ H Q hl q => ?_⟩
  cases vs with
  | nil => cases hl
  | cons v vs => exact ⟨v, vs, rfl, h2 vs _ H Q (Nat.succ.inj hl) q⟩
theorem eg_tup {X : Cx} {es : List Expr} {tjs : List Nat} {k : Nat} {pos : Pos} (hc : X.calm = true) (h : SetsTo X es tjs) (h1 : (assignEach es X.env).length = tjs.length := by rfl) (h2 : (assignEach es X.env).findIdx? (fun x => x.1) = none := by rfl) :
    EG X (.Tuple es k pos) tjs (patT tjs.length) := fun v d es' σ B H l dv hp Q q => by
  obtain ⟨rfl, hl⟩ := patT_some hp
  obtain ⟨t, g1, g2⟩ := h
  cases dv with
  | tup s ty h0 => exact ⟨_, pg_tup hc g1 h1 h2, _, _, rfl, sqT_le l s, by rw [h0.length, hl], g2 _ _ _ _ (by rw [h0.length, hl]) (q _ h0)⟩

/-! ### all, any -/
section
variable {X : Cx} {tg iter elt : Expr} {σ : L2.St} {B : Hp} {ds : List PyData} {scope : Scope} {N : List Str} {js : List (Option Nat)} {gpos p0 pos : Pos} {k : Nat} {c P : Addr} {T : List Addr} {tjs : List Nat} {pat : PyData → Option (List PyData)}
def gIn (X : Cx) (scope : Scope) (N : List Str) (k : Nat) (tg : Expr) : TG := fun v σ H Q => ∀ code A s H0 ex, Room k A → WG (inner X scope code N A s H0 ex) tg v σ H Q
def tIn (X : Cx) (scope : Scope) (N : List Str) (k : Nat) (elt : Expr) : TE := fun σ H Q => ∀ code A s H0 ex, Room k A → WE (inner X scope code N A s H0 ex) elt σ H Q
theorem quant_read {z : Bool} (p : PyData → Bool) (hP : P ∈ T) (t : Tbs T B) (hi : EI X tg iter σ B ds)
    (hg : ∀ code A s H0 ex, Room k A → EG (inner X scope code N A s H0 ex) tg tjs pat) (nd : tjs.Nodup) (hpat : ∀ d ∈ ds, ∃ es, pat d = some es ∧ es.length = tjs.length)
    (body : ∀ B' d es vs, Le B B' → d ∈ ds → pat d = some es → Ds X.K B' vs es → ∀ code A s H0 ex, Room k A → EE (inner X scope code N A s H0 ex) elt (setsS (begun js σ) tjs vs) B' (.bool (p d)))
    {H1 : Hp} (l : Le B H1) {Q : VK} (q : ∀ v B2 H2, Up B H1 B2 H2 → Dt X.K B2 v (.bool (if z then ds.any p else ds.all p)) → Q v H2) : tQuant z P js (WI X tg iter) (gIn X scope N k tg) (tIn X scope N k elt) σ H1 Q := by
  refine hi H1 l _ fun J B2 H2 u2 wk => ⟨((t.le (l.trans u2.h)) P hP).1, fun H3 tb => ?_⟩
  have l3 : Le H2 H3 := Le.tabbed ((t.le (l.trans u2.h)) P hP).1 tb ((t.le (l.trans u2.h)) P hP).2
  have u3 : Up B H1 B2 H3 := u2.tab l3
  refine ⟨fun i m σ' H' => m = ds.length - i ∧ i ≤ ds.length ∧ (∃ B', Le B2 B' ∧ Up B H1 B' H') ∧ (∀ vs : List V, vs.length = tjs.length → setsS σ' tjs vs = setsS (begun js σ) tjs vs) ∧ ∀ d ∈ ds.take i, p d = !z, ⟨ds.length, rfl, Nat.zero_le _, ⟨B2, Le.refl _, u3⟩, fun _ _ => rfl, fun d hd => by rw [List.take_zero] at hd; cases hd⟩, ?_⟩
  rintro i m σ' H' ⟨rfl, hi', ⟨B', lb, u'⟩, hσ, hall⟩
  obtain ⟨w1, w2, w3⟩ := wk B' H' lb u'.s
  by_cases hlt : i < ds.length
  · refine .inr ⟨w1 i hlt, fun x H4 hy => ?_⟩
    obtain ⟨B4, d, u4, hd, dx⟩ := w3 i x H4 hlt hy
    have hmem : d ∈ ds := List.mem_of_getElem? hd
    obtain ⟨es, hes, hel⟩ := hpat d hmem
    intro code A s H0 ex hr
    refine hg code A s H0 ex hr x d es σ' B4 H4 u4.s dx hes _ fun vs dvs => ?_
    have hvl : vs.length = tjs.length := by rw [dvs.length, hel]
    intro code A s H0 ex hr
    rw [hσ vs hvl]
    refine body B4 d es vs ((u2.b.trans lb).trans u4.b) hmem hes dvs code A s H0 ex hr H4 u4.s _ fun v B5 H5 u5 dv => ?_
    cases dv
    have u6 : Up B H1 B5 H5 := (u'.trans u4).trans u5
    refine ⟨p d, rfl, fun e => ?_, fun e => ?_⟩
    · refine q _ B5 H5 u6 ?_
      have e2 : (if z then ds.any p else ds.all p) = z := by
        cases z with
        | true => exact List.any_eq_true.mpr ⟨d, hmem, e⟩
        | false =>
          cases h : ds.all p with
          | false => rfl
          | true =>
            rw [List.all_eq_true.mp h d hmem] at e
            cases e
      rw [e2]
      exact .bl z
    · refine ⟨ds.length - (i + 1), by omega, rfl, hlt, ⟨B5, (lb.trans u4.b).trans u5.b, u6⟩, fun ws hw => setsS_over nd hvl hw, fun d' hd' => ?_⟩
      rw [List.take_add_one, hd] at hd'
      rcases List.mem_append.mp hd' with y | y
      · exact hall d' y
      · have y' : d' = d := by simpa using y
        rw [y']
        cases h : p d <;> cases z <;> first | rfl | exact absurd h e
  · have ei : i = ds.length := by omega
    subst ei
    rw [List.take_length] at hall
    refine .inl ⟨w2, q _ B' H' u' ?_⟩
    have e2 : (if z then ds.any p else ds.all p) = !z := by
      cases z with
      | true =>
        cases h : ds.any p with
        | false => rfl
        | true =>
          obtain ⟨d, hd, hp⟩ := List.any_eq_true.mp h
          rw [hall d hd] at hp
          cases hp
      | false => exact List.all_eq_true.mpr hall
    rw [e2]
    exact .bl _
theorem hb_in : ∀ (code : Value) (A : Around) (s : Shared) (H : Hp) (ex : List Addr), Room k A → PG (inner X scope code N A s H ex) tg (gIn X scope N k tg) ∧ PE (inner X scope code N A s H ex) elt (tIn X scope N k elt) := fun code A s H0 ex hr =>
  ⟨⟨fun pins s' σ H v u Q I r h => pg_w.run pins s' σ H v u Q I r (h code A s H0 ex hr)⟩, ⟨fun pins s' σ H Q I h => pe_w.run pins s' σ H Q I (h code A s H0 ex hr)⟩⟩
theorem ee_all (p : PyData → Bool) (hr : Room (k + 1) X.A) (BL : X.mg "all" = none) (TB : TabB X.base X.mg c P) (hcode : X.env.code = .ref c) (S : ScopeOk X scope N js) (hP : P ∈ T) (t : Tbs T B) (hi : EI X tg iter σ B ds)
    (hg : ∀ code A s H0 ex, Room k A → EG (inner X scope code N A s H0 ex) tg tjs pat) (nd : tjs.Nodup) (hpat : ∀ d ∈ ds, ∃ es, pat d = some es ∧ es.length = tjs.length)
    (body : ∀ B' d es vs, Le B B' → d ∈ ds → pat d = some es → Ds X.K B' vs es → ∀ code A s H0 ex, Room k A → EE (inner X scope code N A s H0 ex) elt (setsS (begun js σ) tjs vs) B' (.bool (p d)))
    (hgl : Gl X "all" := by rfl) (hs : ∀ v, genFold iter X.env v = pure v := by intro _; rfl)
    (he : starEach [.GeneratorExp elt [⟨tg, iter, [], 0⟩] scope gpos] X.env = (false, eval (.GeneratorExp elt [⟨tg, iter, [], 0⟩] scope gpos) X.env) :: starEach [] X.env := by rfl) :
    EE X (.Call (.Name "all" p0) [.GeneratorExp elt [⟨tg, iter, [], 0⟩] scope gpos] [] pos) σ B (.bool (ds.all p)) := fun H1 l Q q =>
  ⟨_, pe_allG hr hgl BL boot_all' TB hcode S pi_w hb_in hs he, quant_read (z := false) p hP t hi hg nd hpat body l q⟩
theorem ee_any (p : PyData → Bool) (hr : Room (k + 1) X.A) (BL : X.mg "any" = none) (TB : TabB X.base X.mg c P) (hcode : X.env.code = .ref c) (S : ScopeOk X scope N js) (hP : P ∈ T) (t : Tbs T B) (hi : EI X tg iter σ B ds)
    (hg : ∀ code A s H0 ex, Room k A → EG (inner X scope code N A s H0 ex) tg tjs pat) (nd : tjs.Nodup) (hpat : ∀ d ∈ ds, ∃ es, pat d = some es ∧ es.length = tjs.length)
    (body : ∀ B' d es vs, Le B B' → d ∈ ds → pat d = some es → Ds X.K B' vs es → ∀ code A s H0 ex, Room k A → EE (inner X scope code N A s H0 ex) elt (setsS (begun js σ) tjs vs) B' (.bool (p d)))
    (hgl : Gl X "any" := by rfl) (hs : ∀ v, genFold iter X.env v = pure v := by intro _; rfl)
    (he : starEach [.GeneratorExp elt [⟨tg, iter, [], 0⟩] scope gpos] X.env = (false, eval (.GeneratorExp elt [⟨tg, iter, [], 0⟩] scope gpos) X.env) :: starEach [] X.env := by rfl) :
    EE X (.Call (.Name "any" p0) [.GeneratorExp elt [⟨tg, iter, [], 0⟩] scope gpos] [] pos) σ B (.bool (ds.any p)) := fun H1 l Q q =>
  ⟨_, pe_anyG hr hgl BL boot_any' TB hcode S pi_w hb_in hs he, quant_read (z := true) p hP t hi hg nd hpat body l q⟩
end

/-! ### list comprehensions -/
section
variable {X : Cx} {tg iter elt : Expr} {ifs : List Expr} {σ : L2.St} {B : Hp} {ds : List PyData} {scope : Scope} {own : List (Str × Nat)} {pos : Pos} {tjs : List Nat} {pat : PyData → Option (List PyData)}
abbrev blkX (X : Cx) (s : Shared) (H : Hp) (scope : Scope) (C : Addr) (cl : List (Str × Addr)) (fp : List Addr) : Cx := X.blk s H scope (compEnvC scope cl C X.env) fp
def WTs (X : Cx) (ifs : List Expr) : TT := fun σ H Q => ∃ t, PTs X ifs t ∧ t σ H Q
theorem pts_w : PTs X ifs (WTs X ifs) := ⟨fun pins s σ H Q I ⟨t, h, q⟩ => h.run pins s σ H Q I q⟩
def ETs (X : Cx) (ifs : List Expr) (σ : L2.St) (B : Hp) (b : Bool) : Prop := ∀ H1, Le B H1 → ∀ Q : Bool → Hp → Prop, (∀ H2, Le H1 H2 → Q b H2) → WTs X ifs σ H1 Q
theorem ets_nil : ETs X [] σ B true := fun H1 l Q q => ⟨_, pts_nil, q H1 (Le.refl _)⟩
theorem ets_one {c : Expr} {b : Bool} (h : ET X c σ B b) : ETs X [c] σ B b := fun H1 l Q q => ⟨_, pts_one pt_w, h H1 l Q q⟩
theorem lc_read (p : PyData → Bool) (f : PyData → PyData) (hc : X.calm = true) (nd : X.N.Nodup) (hi : EI X tg iter σ B ds)
    (hg : ∀ s H C cl fp, EG (blkX X s H scope C cl fp) tg tjs pat) (hpat : ∀ d ∈ ds, ∃ es, pat d = some es ∧ es.length = tjs.length)
    (hw : ∀ vs : List V, vs.length = tjs.length → wipe (setsS (wipe σ (own.map (·.2))) tjs vs) (own.map (·.2)) = wipe σ (own.map (·.2)))
    (test : ∀ B' d es vs, Le B B' → d ∈ ds → pat d = some es → Ds X.K B' vs es → ∀ s H C cl fp, ETs (blkX X s H scope C cl fp) ifs (setsS (wipe σ (own.map (·.2))) tjs vs) B' (p d))
    (body : ∀ B' d es vs, Le B B' → d ∈ ds → p d = true → pat d = some es → Ds X.K B' vs es → ∀ s H C cl fp, EE (blkX X s H scope C cl fp) elt (setsS (wipe σ (own.map (·.2))) tjs vs) B' (f d))
    (hsz : ds.length < sizeLine) :
    ∀ H1, Le B H1 → ∀ Q : VK, (∀ D acc B2 H2, H1 D = none → Up B H1 B2 H2 → B2 D = some (.lst acc) → H2 D = some (.lst acc) → Ds X.K B2 acc ((ds.filter p).map f) → Q (.ref D) H2) → tLc (WI X tg iter) (fun v σ H Q => ∀ s H0 C cl fp, WG (blkX X s H0 scope C cl fp) tg v σ H Q) (fun σ H Q => ∀ s H0 C cl fp, WTs (blkX X s H0 scope C cl fp) ifs σ H Q) (fun σ H Q => ∀ s H0 C cl fp, WE (blkX X s H0 scope C cl fp) elt σ H Q) (own.map (·.2)) σ H1 Q := fun H1 l Q q => by
  refine hi H1 l _ fun J B2 H2 u2 wk D hD => ?_
  have hD1 : H1 D = none := u2.h.there D hD
  refine ⟨fun i m H' => m = ds.length - i ∧ i ≤ ds.length ∧ ∃ B' acc, Le B2 B' ∧ Up B H1 B' H' ∧ B' D = none ∧ H' D = some (.lst acc) ∧ Ds X.K B' acc (((ds.take i).filter p).map f), ⟨ds.length, rfl, Nat.zero_le _, B2, [], Le.refl _, ⟨u2.h.trans (Le.new hD), u2.b, u2.s.trans (Le.new hD), u2.n⟩, u2.s.there D hD, upd_same, by rw [List.take_zero]; exact .nil⟩, ?_⟩
  rintro i m H' ⟨rfl, hi', B', acc, lb, u', hBD, hacc, dacc⟩
  obtain ⟨w1, w2, w3⟩ := wk B' H' lb u'.s
  by_cases hlt : i < ds.length
  · refine .inr ⟨w1 i hlt, fun H'' => ∃ B'' acc', Le B2 B'' ∧ Up B H1 B'' H'' ∧ B'' D = none ∧ H'' D = some (.lst acc') ∧ Ds X.K B'' acc' (((ds.take (i + 1)).filter p).map f), fun H'' h => ⟨ds.length - (i + 1), by omega, rfl, hlt, h⟩, fun x H4 hy => ?_⟩
    obtain ⟨B4, d, u4, hd, dx⟩ := w3 i x H4 hlt hy
    have hmem : d ∈ ds := List.mem_of_getElem? hd
    obtain ⟨es, hes, hel⟩ := hpat d hmem
    have hB4D : B4 D = none := by
      cases h : B4 D with
      | none => rfl
      | some o =>
        rcases u4.n D (by rw [h]; simp) with y | y | ⟨⟨ps, y⟩, _⟩
        · exact absurd hBD y
        · rw [hacc] at y; cases y
        · rw [hacc] at y; cases y
    have hH4D : H4 D = some (.lst acc) := u4.h.keep D _ hacc fun ps z => by cases z
    intro s H0 C cl fp
    refine hg s H0 C cl fp x d es _ B4 H4 u4.s dx hes _ fun vs dvs => ?_
    have hvl : vs.length = tjs.length := by rw [dvs.length, hel]
    refine ⟨hw vs hvl, fun s H0 C cl fp => test B4 d es vs ((u2.b.trans lb).trans u4.b) hmem hes dvs s H0 C cl fp H4 u4.s _ fun H5 l5 => ?_⟩
    have ta : ds.take (i + 1) = ds.take i ++ [d] := by rw [List.take_add_one, hd]; rfl
    have hH5D : H5 D = some (.lst acc) := l5.keep D _ hH4D fun ps z => by cases z
    have u5 : Up B H1 B4 H5 := (u'.trans u4).tab l5
    cases hpd : p d with
    | true =>
      rw [if_pos rfl]
      intro s H0 C cl fp
      refine body B4 d es vs ((u2.b.trans lb).trans u4.b) hmem hpd hes dvs s H0 C cl fp H5 u5.s _ fun v B6 H6 u6 dv => ?_
      have hB6D : B6 D = none := by
        cases h : B6 D with
        | none => rfl
        | some o =>
          rcases u6.n D (by rw [h]; simp) with y | y | ⟨⟨ps, y⟩, _⟩
          · exact absurd hB4D y
          · rw [hH5D] at y; cases y
          · rw [hH5D] at y; cases y
      have hlen : acc.length < sizeLine := by
        have e1 := dacc.length
        rw [List.length_map] at e1
        have e2 := List.length_filter_le p (ds.take i)
        have e3 : (ds.take i).length ≤ ds.length := by rw [List.length_take]; exact Nat.min_le_right _ _
        omega
      refine ⟨acc, u6.h.keep D _ hH5D (fun ps z => by cases z), hlen, B6, acc ++ [v], (lb.trans u4.b).trans u6.b, ?_, hB6D, upd_same, ?_⟩
      · have u7 := u5.trans u6
        exact ⟨u7.h.mut hD1, u7.b, u7.s.mut hB6D, u7.n⟩
      · rw [ta, List.filter_append, List.map_append, List.filter_cons, if_pos hpd]
        exact (Ds.le (u4.b.trans u6.b) dacc).snoc dv
    | false =>
      rw [if_neg Bool.false_ne_true]
      refine ⟨B4, acc, lb.trans u4.b, u5, hB4D, hH5D, ?_⟩
      rw [ta, List.filter_append, List.map_append, List.filter_cons, if_neg (by rw [hpd]; exact Bool.false_ne_true)]
      have := Ds.le u4.b dacc
      simpa using this
  · have ei : i = ds.length := by omega
    subst ei
    rw [List.take_length] at dacc
    refine .inl ⟨w2, ?_⟩
    have hDn : ∀ ps, HO.lst acc ≠ .tbl ps := fun ps z => by cases z
    have u8 : Up B H1 (upd B' D (.lst acc)) H' := by
      refine ⟨u'.h, u'.b.trans (Le.new hBD), ⟨fun a o qa n => ?_, fun P' t => ?_, fun a qa => ?_⟩, fun a qa => ?_⟩
      · by_cases z : a = D
        · rw [z, upd_same] at qa
          rw [z, hacc]
          exact qa
        · rw [upd_ne z] at qa
          exact u'.s.keep a o qa n
      · obtain ⟨ps, q1, q2⟩ := t
        by_cases z : P' = D
        · rw [z, upd_same] at q1
          cases q1
        · rw [upd_ne z] at q1
          exact u'.s.tab P' ⟨ps, q1, q2⟩
      · by_cases z : a = D
        · rw [z, hacc] at qa
          cases qa
        · rw [upd_ne z]
          exact u'.s.there a qa
      · by_cases z : a = D
        · rw [z]
          exact .inr (.inl hD1)
        · rw [upd_ne z] at qa
          exact u'.n a qa
    exact q D acc _ _ hD1 u8 upd_same hacc (Ds.le (Le.new hBD) dacc)
theorem ee_lcR (p : PyData → Bool) (f : PyData → PyData) (hc : X.calm = true) (nd : X.N.Nodup) (hi : EI X tg iter σ B ds) (hb : BlkOk X.N X.env.scope scope own)
    (hg : ∀ s H C cl fp, EG (blkX X s H scope C cl fp) tg tjs pat) (hpat : ∀ d ∈ ds, ∃ es, pat d = some es ∧ es.length = tjs.length)
    (hw : ∀ vs : List V, vs.length = tjs.length → wipe (setsS (wipe σ (own.map (·.2))) tjs vs) (own.map (·.2)) = wipe σ (own.map (·.2)))
    (test : ∀ B' d es vs, Le B B' → d ∈ ds → pat d = some es → Ds X.K B' vs es → ∀ s H C cl fp, ETs (blkX X s H scope C cl fp) ifs (setsS (wipe σ (own.map (·.2))) tjs vs) B' (p d))
    (body : ∀ B' d es vs, Le B B' → d ∈ ds → p d = true → pat d = some es → Ds X.K B' vs es → ∀ s H C cl fp, EE (blkX X s H scope C cl fp) elt (setsS (wipe σ (own.map (·.2))) tjs vs) B' (f d))
    (hsz : ds.length < sizeLine) (hs : ∀ x, foldedSetIterable iter X.env x = pure x := by intro _; rfl) :
    ∀ H1, Le B H1 → ∀ Q : VK, (∀ D acc B2 H2, H1 D = none → Up B H1 B2 H2 → B2 D = some (.lst acc) → H2 D = some (.lst acc) → Ds X.K B2 acc ((ds.filter p).map f) → Q (.ref D) H2) → WE X (.ListComp elt [⟨tg, iter, ifs, 0⟩] scope pos) σ H1 Q := fun H1 l Q q =>
  ⟨_, pe_lc (wi := WI X tg iter) (g := fun v σ H Q => ∀ s H0 C cl fp, WG (blkX X s H0 scope C cl fp) tg v σ H Q) (tt := fun σ H Q => ∀ s H0 C cl fp, WTs (blkX X s H0 scope C cl fp) ifs σ H Q) (te := fun σ H Q => ∀ s H0 C cl fp, WE (blkX X s H0 scope C cl fp) elt σ H Q) hc nd pi_w hb
    (fun s H C cl fp => ⟨fun pins s' σ H' v u Q I r h => pg_w.run pins s' σ H' v u Q I r (h s H C cl fp)⟩) (fun s H C cl fp => ⟨fun pins s' σ H' Q I h => pts_w.run pins s' σ H' Q I (h s H C cl fp)⟩) (fun s H C cl fp => ⟨fun pins s' σ H' Q I h => pe_w.run pins s' σ H' Q I (h s H C cl fp)⟩) hs, lc_read p f hc nd hi hg hpat hw test body hsz H1 l Q q⟩
theorem ee_lc (p : PyData → Bool) (f : PyData → PyData) (hc : X.calm = true) (nd : X.N.Nodup) (hi : EI X tg iter σ B ds) (hb : BlkOk X.N X.env.scope scope own)
    (hg : ∀ s H C cl fp, EG (blkX X s H scope C cl fp) tg tjs pat) (hpat : ∀ d ∈ ds, ∃ es, pat d = some es ∧ es.length = tjs.length)
    (hw : ∀ vs : List V, vs.length = tjs.length → wipe (setsS (wipe σ (own.map (·.2))) tjs vs) (own.map (·.2)) = wipe σ (own.map (·.2)))
    (test : ∀ B' d es vs, Le B B' → d ∈ ds → pat d = some es → Ds X.K B' vs es → ∀ s H C cl fp, ETs (blkX X s H scope C cl fp) ifs (setsS (wipe σ (own.map (·.2))) tjs vs) B' (p d))
    (body : ∀ B' d es vs, Le B B' → d ∈ ds → p d = true → pat d = some es → Ds X.K B' vs es → ∀ s H C cl fp, EE (blkX X s H scope C cl fp) elt (setsS (wipe σ (own.map (·.2))) tjs vs) B' (f d))
    (hsz : ds.length < sizeLine) (hs : ∀ x, foldedSetIterable iter X.env x = pure x := by intro _; rfl) :
    EE X (.ListComp elt [⟨tg, iter, ifs, 0⟩] scope pos) σ B (.list ((ds.filter p).map f)) := fun H1 l Q q =>
  ee_lcR p f hc nd hi hb hg hpat hw test body hsz hs H1 l Q fun D acc B2 H2 _ u e _ dv => q _ B2 H2 u (.new_lst e dv)
/-- y = [..] -/
theorem ws_setLc {D : L2.Ends} {H : Hp} {y : Str} {py spos : Pos} {i : Nat} (p : PyData → Bool) (f : PyData → PyData) (l : Le B H) (hc : X.calm = true) (nd : X.N.Nodup) (hi : EI X tg iter σ B ds) (hb : BlkOk X.N X.env.scope scope own)
    (hg : ∀ s H C cl fp, EG (blkX X s H scope C cl fp) tg tjs pat) (hpat : ∀ d ∈ ds, ∃ es, pat d = some es ∧ es.length = tjs.length)
    (hw : ∀ vs : List V, vs.length = tjs.length → wipe (setsS (wipe σ (own.map (·.2))) tjs vs) (own.map (·.2)) = wipe σ (own.map (·.2)))
    (test : ∀ B' d es vs, Le B B' → d ∈ ds → pat d = some es → Ds X.K B' vs es → ∀ s H C cl fp, ETs (blkX X s H scope C cl fp) ifs (setsS (wipe σ (own.map (·.2))) tjs vs) B' (p d))
    (body : ∀ B' d es vs, Le B B' → d ∈ ds → p d = true → pat d = some es → Ds X.K B' vs es → ∀ s H C cl fp, EE (blkX X s H scope C cl fp) elt (setsS (wipe σ (own.map (·.2))) tjs vs) B' (f d))
    (hsz : ds.length < sizeLine) (q : ∀ A acc B2 H2, H A = none → Up B H B2 H2 → B2 A = some (.lst acc) → H2 A = some (.lst acc) → Ds X.K B2 acc ((ds.filter p).map f) → D.nx (σ.set i (some (.ref A))) H2)
    (hsw : swapsWith (.ListComp elt [⟨tg, iter, ifs, 0⟩] scope pos) (some (.Name y py)) spos.line X.env = pure true) (hy : X.N[i]? = some y := by rfl) (hyl : X.env.scope.names.lookup y = some .local := by rfl) (hs : ∀ x, foldedSetIterable iter X.env x = pure x := by intro _; rfl) :
    WS X (.Assign [.Name y py] (.ListComp elt [⟨tg, iter, ifs, 0⟩] scope pos) spos) D σ H :=
  ⟨_, ps_setLc (wi := WI X tg iter) (g := fun v σ H Q => ∀ s H0 C cl fp, WG (blkX X s H0 scope C cl fp) tg v σ H Q) (tt := fun σ H Q => ∀ s H0 C cl fp, WTs (blkX X s H0 scope C cl fp) ifs σ H Q) (te := fun σ H Q => ∀ s H0 C cl fp, WE (blkX X s H0 scope C cl fp) elt σ H Q) hc nd hy hyl hsw pi_w hb
    (fun s H C cl fp => ⟨fun pins s' σ H' v u Q I r h => pg_w.run pins s' σ H' v u Q I r (h s H C cl fp)⟩) (fun s H C cl fp => ⟨fun pins s' σ H' Q I h => pts_w.run pins s' σ H' Q I (h s H C cl fp)⟩) (fun s H C cl fp => ⟨fun pins s' σ H' Q I h => pe_w.run pins s' σ H' Q I (h s H C cl fp)⟩) hs, lc_read p f hc nd hi hg hpat hw test body hsz H l _ fun A acc B2 H2 h u e1 e2 dv => q A acc B2 H2 h u e1 e2 dv⟩
end
end Tk


set_option Elab.async false
set_option linter.all false
set_option maxRecDepth 100000
set_option maxHeartbeats 1000000
/-! Tk3: enumerate of a tuple. -/
namespace Tk
open PySem PySem.Spec PyProof.Rows L2 GxR Gx
variable [LamTab]

theorem enum_new1 {v : Value} {o : Obj} {Hb : Heap → Prop} (B : Begins v o Hb) :
    Meets (Builtin.«enumerate.__new__» ⟨[.type "enumerate", v], []⟩) (fun _ R s => Hb s.heap ∧
      R (.ok (.ret (.ref (s.heap.push o).objs.size))) { s with heap := (s.heap.push o).push { cls := .type "enumerate", data := .fields #[.none, .bool false, .ref s.heap.objs.size, rawInt 0, .none, .none] } }) :=
  .of_wp fun prog w A R s h => by
    obtain ⟨hp, g, d, tk, os⟩ := s; obtain ⟨h1, h⟩ := h
    have hsub := sub_enumerate
    have q1 : ∀ {A' : Around} {E : Value → Shared → Prop} {Q : Value → Shared → Prop}, Q (.ref hp.objs.size) ⟨hp.push o, g, d, tk, os⟩ → wpAny (model prog w) A' (pyIter v) Q E ⟨hp, g, d, tk, os⟩ :=
      fun q => B.iter prog w _ _ ⟨hp, g, d, tk, os⟩ _ h1 q
    wp_walk using q1
    refine wpAny_stack_any fun st => wpAny_pure ?_
    split
    · rename_i c _ _ _ _ _
      cases (c == Value.type "enumerate")
      · wp_walk using q1
        exact ⟨_, rfl, h⟩
      · wp_walk using q1
        exact ⟨_, rfl, h⟩
    · wp_walk using q1
      exact ⟨_, rfl, h⟩

section
variable {prog : Program} {w : World} {A : Around} {E : Value → Shared → Prop} {s : Shared}
theorem call_enum1 {v : Value} {o : Obj} {Hb : Heap → Prop} {Q : Value → Shared → Prop} (B : Begins v o Hb) (h1 : Hb s.heap)
    (h : ∀ h', IsEnum h' (s.heap.objs.size + 1) s.heap.objs.size 0 .none → h'.get? s.heap.objs.size = some o → h'.objs.size = s.heap.objs.size + 2 →
      (∀ b o, s.heap.get? b = some o → h'.get? b = some o) → Q (.ref (s.heap.objs.size + 1)) { s with heap := h' }) :
    wpAny (model prog w) A (call (.type "enumerate") [v]) Q E s := by
  refine callType_new F.called_enumerate (by decide) (F.typeCall_enumerate_1 _) (F.newCall_enumerate_1 _) (fun obj => F.args_object_init_2 obj _) F.entry_enumerate_new (enum_new1 B) ⟨h1, ?_⟩
  have hz : (s.heap.push o).objs.size = s.heap.objs.size + 1 := Heap.size_push ..
  show _ ∧ _
  rw [hz]
  have he : IsEnum ((s.heap.push o).push { cls := .type "enumerate", data := .fields #[.none, .bool false, .ref s.heap.objs.size, rawInt 0, .none, .none] }) (s.heap.objs.size + 1) s.heap.objs.size 0 .none := by
    have := Heap.get?_push_size (s.heap.push o) (o := { cls := .type "enumerate", data := .fields #[.none, .bool false, .ref s.heap.objs.size, rawInt 0, .none, .none] }) rfl
    rw [hz] at this; exact this
  refine ⟨⟨_, he, rfl⟩, h _ he (Heap.get?_push_of_some _ (Heap.get?_push_size _ B.free)) (by rw [Heap.size_push, hz]) fun b o x => Heap.get?_push_of_some _ (Heap.get?_push_of_some _ x)⟩
end

section
variable {prog : Program} {w : World} {A : Around} {E : Value → Shared → Prop} {s : Shared}
theorem enum_endT {e it l : Addr} {i : Nat} {items : Array Value} {old : Value} {Q : Option Value → Shared → Prop} (hh : A.handled = none) (he : IsEnum s.heap e it i old) (hit : s.heap.IsTupleIter it l i) (hl : s.heap.IsTuple l items) (hx : items[i]? = none)
    (hQ : ∀ h', Heap.ExtBut it s.heap h' → Q none { s with heap := h' }) : wpAny (model prog w) A (pyNext (.ref e)) Q E s := by
  have hT : s.TypeIs (.ref e) "enumerate" := ⟨_, he, rfl⟩
  unfold pyNext
  refine wpAny_bind (wpAny_attempt (wpAny_callSpecial?_slot (name := Str.ofString "__next__") hT F.slot_enumerate_next
    (wpAny_call_entry F.slot_enumerate_next hT F.entry_enumerate_next ?_ (F.args_enumerate_next_1 _))))
  show wpAny _ _ (field (.ref e) 2 >>= _) _ _ _
  refine wpAny_bind (wpAny_field he rfl (x := .ref it) rfl ?_)
  refine wpAny_bind (wpAny_nextOf_tuple_end hh hit hl hx fun h' x he' hx' => ?_)
  obtain ⟨o, ho, hc⟩ := hx'
  refine wpAny_bind (wpAny_isInstance (T := "StopIteration") (b := true) ⟨o, ho, hc⟩ isSubtype_stop ?_)
  exact wpAny_pure (hQ _ he')
end

def ItT (K : PySem.W.Frag) (a : Addr) : It :=
  ⟨fun i H => ∃ xs x, SqT K H a xs ∧ xs[i]? = some x, fun i H v H' => ∃ t x, v = .ref t ∧ H t = none ∧ H' = upd H t (.tup [.int (i : Int), x]) ∧ ∀ xs, SqT K H a xs → xs[i]? = some x, fun i H => ∃ xs, SqT K H a xs ∧ xs.length ≤ i⟩
theorem turn_enumT {P : Program} {w : World} {K : PySem.W.Frag} {elts : List Expr} {kk : Nat} {tpos : Pos} (a e it : Addr) :
    Turn P w K (.Tuple elts kk tpos) (ItT K a) [e, it] e (fun i h => (∃ old, IsEnum h e it ((i : Nat) : Int) old) ∧ h.IsTupleIter it a i ∧ e ≠ it) where
  mem := by simp
  obj := fun i h st b hb => by
    obtain ⟨⟨old, he⟩, ⟨o, ho, hc, hd⟩, _⟩ := st
    have e' : b = e ∨ b = it := by simpa using hb
    rcases e' with z | z
    · rw [z]; exact ⟨_, he, fun v q => nomatch q⟩
    · rw [z]; exact ⟨o, ho, fun v q => by rw [hd] at q; cases q⟩
  keep := fun i h h' st k => let ⟨⟨old, he⟩, hi, hne⟩ := st; ⟨⟨old, k e (by simp) _ he⟩, hi.at fun o q => k it (by simp) o q, hne⟩
  item := by
    intro X hP hw hK hc i pins s σ H E I hf st hg
    subst hP hw hK
    obtain ⟨⟨old, he⟩, hit, hne⟩ := st
    obtain ⟨xs, x, hq, hx⟩ := hg
    obtain ⟨its, rv, p, hz⟩ := I.tuple hq
    obtain ⟨u, hu, ru⟩ := rv.get hx
    have hel : e < s.heap.objs.size := Heap.lt_size he
    have hil : it < s.heap.objs.size := by obtain ⟨_, q, _⟩ := hit; exact Heap.lt_size q
    have hT0 : s.heap.IsTuple a its.toArray := p
    have hai : a ≠ it := fun z => by
      obtain ⟨o1, q1, c1, _⟩ := hit
      obtain ⟨o2, q2, c2, _⟩ := hT0
      rw [z, q1] at q2
      cases q2
      rw [c1] at c2
      exact absurd c2 (by decide)
    have hae : e ∉ [it, a] := fun z => by
      have z' : e = it ∨ e = a := by simpa using z
      rcases z' with y | y
      · exact hne y
      · obtain ⟨o2, q2, c2, _⟩ := hT0
        have he2 := he
        unfold IsEnum at he2
        rw [y, q2] at he2
        cases he2
        have c3 : Value.type "enumerate" = Value.type "tuple" := c2
        exact absurd c3 (by decide)
    have hlen : i < its.toArray.size := by
      have := (List.getElem?_eq_some_iff.mp hu).1
      simpa using this
    refine wpAny_pyNext_enum_itemC (Draws.tuple (prog := X.prog) (w := X.w) (A := X.A.in1) (I.ok.hd hc) it a hai its.toArray) he ⟨hit, hT0⟩ hlen hne hae fun v h' tk hv ho hst' hT hsz hk => ?_
    have ev : v = u := by
      have hv' : its.toArray[i]? = some v := hv
      have hu' : its.toArray[i]? = some u := by simpa using hu
      rw [hv'] at hu'
      exact Option.some.inj hu'
    subst ev
    refine ⟨_, rfl, wpAny_letOwnedTupleGo_enum (s := { s with heap := h', toks := tk + 1 }) ho fun h'' he' sb => ?_⟩
    have hT2 : h''.get? s.heap.objs.size = some { cls := .type "tuple", data := .seq #[.int i tk, v] } := (sb.2 _ (Nat.ne_of_gt hel)).trans hT
    have new : ObjOk X.prog X.w (upd H s.heap.objs.size (.tup [.int (i : Nat), x])) h'' s.heap.objs.size (.tup [.int (i : Nat), x]) :=
      ⟨by show 2 ≤ sizeLine; decide, [.int i tk, v], .cons ⟨_, rfl⟩ (.cons ru .nil), ⟨_, hT2, rfl, _, rfl⟩⟩
    have I1 : Inv X pins σ (upd H s.heap.objs.size (.tup [.int (i : Nat), x])) { s with heap := h'', toks := tk + 1 } :=
      I.turnedNew (ch := [e, it]) (fun b ob hb q => (sb.2 b (fun z => hb (by simp [z]))).trans (hk b ob (fun z => hb (by simp [z])) (fun z => hb (by simp [z])) q)) hf (Nat.le_refl _) new
    refine ⟨.ref s.heap.objs.size, _, I1, rfl, ⟨_, x, rfl, I.hok.fresh (Nat.le_refl _), rfl, fun ys hy => by rw [I.tuple_inj hy hq]; exact hx⟩, ⟨⟨v, ?_⟩, hst'.1.at fun o q => (sb.2 it (Ne.symm hne)).trans q, hne⟩, fun b hb => ?_⟩
    · have e1 : ((i + 1 : Nat) : Int) = (i : Int) + 1 := by omega
      rw [e1]; exact he'
    · have hb' : b < s.heap.objs.size := by
        have e' : b = e ∨ b = it := by simpa using hb
        rcases e' with z | z
        · rw [z]; exact hel
        · rw [z]; exact hil
      rw [upd_ne (Nat.ne_of_lt hb')]
      exact (hf b hb).1
  done := by
    intro X hP hw hK hc i pins s σ H E I hf st hg
    subst hP hw hK
    obtain ⟨⟨old, he⟩, hit, hne⟩ := st
    obtain ⟨xs, hq, hx⟩ := hg
    obtain ⟨its, rv, p, hz⟩ := I.tuple hq
    obtain ⟨f0, f1, f2, f3, f4, f5⟩ := hf it (by simp)
    have hT0 : s.heap.IsTuple a its.toArray := p
    have hai : a ≠ it := fun z => by
      obtain ⟨o1, q1, c1, _⟩ := hit
      obtain ⟨o2, q2, c2, _⟩ := hT0
      rw [z, q1] at q2
      cases q2
      rw [c1] at c2
      exact absurd c2 (by decide)
    have hl := rv.length
    exact enum_endT (I.ok.hd hc) he hit hT0 (by simp; omega) fun h' eb => ⟨rfl, I.turned (t' := s.toks) (fun b o hb q => eb b o hb q) f0 f1 f3 f4 f5⟩
  self := fun A i s Q E st h => let ⟨⟨_, he⟩, _⟩ := st; wpAny_pyIter_enum he h

def iEnumT (K : PySem.W.Frag) (ta : TA) : TI := fun σ H R => ta σ H fun vs H1 => ∃ a xs, vs = [.ref a] ∧ SqT K H1 a xs ∧ R (ItT K a) H1
theorem pi_enumT {X : Cx} {e : Expr} {ta : TA} {p pos tpos : Pos} {elts : List Expr} {kk : Nat} (hg : Gl X "enumerate") (hm : X.mg "enumerate" = none) (ha : PA X [e] ta) (hs : starEach [e] X.env = [(false, eval e X.env)] := by rfl) :
    PI X (.Tuple elts kk tpos) (.Call (.Name "enumerate" p) [e] [] pos) (iEnumT X.K ta) := by
  refine ⟨fun pins s σ H R I h => ?_⟩
  refine Call_ (ld_blt I hg hm boot_enumerate (PyProof.Rows.callWith_type1 (thn (ha.run pos pins s σ H _ I h) fun us s1 ⟨vs, H1, I1, r1, q1⟩ => ?_) hs rfl))
  obtain ⟨a, xs, ex, hq, q⟩ := q1
  subst ex
  cases r1 with
  | cons r rr =>
    cases rr
    cases r
    obtain ⟨its, rv, p', hz⟩ := I1.tuple hq
    refine call_enum1 (begins_tuple a its.toArray) p' fun h' he hit hsz hk => wpAny_pyIter_enum he ?_
    have I2 : Inv X pins σ H1 { s1 with heap := h' } := I1.kept (t' := s1.toks) hk
    refine ⟨s1.heap.objs.size + 1, [s1.heap.objs.size + 1, s1.heap.objs.size], _, _, H1, rfl, I2, turn_enumT a (s1.heap.objs.size + 1) s1.heap.objs.size, ⟨⟨.none, he⟩, ⟨_, hit, rfl, rfl⟩, Nat.succ_ne_self _⟩, fun b hb => ?_, q⟩
    have e' : b = s1.heap.objs.size + 1 ∨ b = s1.heap.objs.size := by simpa using hb
    have hle : s1.heap.objs.size ≤ b := by
      rcases e' with z | z
      · rw [z]; exact Nat.le_add_right _ _
      · rw [z]; exact Nat.le_refl _
    exact I1.fpOk hle (I1.hok.fresh hle)

/-- (0, x), (1, y), .. -/
def nums (k : Nat) : List PyData → List PyData
  | [] => []
  | d :: ds => .tuple [.int (Int.ofNat k), d] :: nums (k + 1) ds
theorem nums_get : ∀ {ds : List PyData} {k i : Nat}, (nums k ds)[i]? = (ds[i]?).map fun d => .tuple [.int (Int.ofNat (k + i)), d]
  | [], _, _ => by simp [nums]
  | d :: ds, k, 0 => by simp [nums]
  | d :: ds, k, i + 1 => by
    have h := nums_get (ds := ds) (k := k + 1) (i := i)
    have e : k + 1 + i = k + (i + 1) := by omega
    rw [e] at h
    simpa [nums] using h
theorem nums_len : ∀ {ds : List PyData} {k : Nat}, (nums k ds).length = ds.length
  | [], _ => rfl
  | d :: ds, k => congrArg Nat.succ nums_len
theorem ei_enumT {X : Cx} {e : Expr} {σ : L2.St} {B : Hp} {ds : List PyData} {p pos tpos : Pos} {elts : List Expr} {kk : Nat} (BL : X.mg "enumerate" = none) (h : EE X e σ B (.tuple ds)) (hg : Gl X "enumerate" := by rfl) (hs : starEach [e] X.env = [(false, eval e X.env)] := by rfl)
    (hs2 : starEach [e] X.env = (false, eval e X.env) :: starEach [] X.env := by rfl) : EI X (.Tuple elts kk tpos) (.Call (.Name "enumerate" p) [e] [] pos) σ B (nums 0 ds) := fun H1 l R q => ⟨_, pi_enumT hg BL (pa_cons pe_w pa_nil hs2) hs, h H1 l _ fun v B2 H2 u dv => by
  cases dv with
  | tup s t h0 =>
    refine ⟨_, _, rfl, sqT_le u.s s, q _ B2 H2 u fun B' H' l1 l2 => ⟨fun i hi => ?_, ⟨_, sqT_le (l1.trans l2) s, by rw [nums_len]; exact Nat.le_of_eq h0.length⟩, fun i x H'' hi hy => ?_⟩⟩
    · rw [nums_len] at hi
      obtain ⟨v, h1, _⟩ := h0.get (List.getElem?_eq_getElem hi)
      exact ⟨_, v, sqT_le (l1.trans l2) s, h1⟩
    · obtain ⟨t', y, e1, e2, e3, hy⟩ := hy
      subst e1 e3
      obtain ⟨d, h1, h2⟩ := h0.getV (hy _ (sqT_le (l1.trans l2) s))
      have hb : B' t' = none := l2.there _ e2
      refine ⟨upd B' t' (.tup [.int (i : Int), y]), .tuple [.int (Int.ofNat i), d], (Up.refl l2).new e2 (fun ps z => by cases z), ?_, .new_tup upd_same (.cons (.int _) (.cons (Dt.le (l1.trans (Le.new hb)) h2) .nil))⟩
      rw [nums_get, h1, Nat.zero_add]
      rfl⟩
end Tk


set_option Elab.async false
set_option linter.all false
set_option maxRecDepth 100000
set_option maxHeartbeats 1000000
/-! Tk4: scopes by a check, truths of ints, data that is small. -/
namespace Tk
open PySem PySem.Spec PyProof.Rows L2 GxR Gx
variable [LamTab]

theorem ds1 {K : PySem.W.Frag} {B : Hp} {vs : List V} {a : PyData} (h : Ds K B vs [a]) : ∃ x, vs = [x] ∧ Dt K B x a := by
  cases h with
  | cons h1 h => cases h; exact ⟨_, rfl, h1⟩
theorem ds2 {K : PySem.W.Frag} {B : Hp} {vs : List V} {a b : PyData} (h : Ds K B vs [a, b]) : ∃ x y, vs = [x, y] ∧ Dt K B x a ∧ Dt K B y b := by
  cases h with
  | cons h1 h =>
    obtain ⟨y, rfl, h2⟩ := ds1 h
    exact ⟨_, y, rfl, h1, h2⟩
theorem ds3 {K : PySem.W.Frag} {B : Hp} {vs : List V} {a b c : PyData} (h : Ds K B vs [a, b, c]) : ∃ x y z, vs = [x, y, z] ∧ Dt K B x a ∧ Dt K B y b ∧ Dt K B z c := by
  cases h with
  | cons h1 h =>
    obtain ⟨y, z, rfl, h2, h3⟩ := ds2 h
    exact ⟨_, y, z, rfl, h1, h2, h3⟩

/-- the scope of a generator expression, by a look -/
def gsB (Nx N : List Str) (sc scope : Scope) (js : List (Option Nat)) : Bool :=
  decide (scope.kind = .function) && !scope.isCoroutine && (scope.names.all fun y => !decide (y.2 = .cell) && (!decide (y.2 = .free) || decide (sc.names.lookup y.1 = some .cell))) && decide (scope.names.lookup (".0" : Str) = some .local) && decide (js.length = N.length) &&
  (List.range js.length).all fun i => match js[i]? with
    | some (some j) => match N[i]? with
      | some x => decide (Nx[j]? = some x) && decide (scope.names.lookup x = some .free) && decide (sc.names.lookup x = some .cell)
      | none => false
    | _ => true
theorem scope_by {X : Cx} {scope : Scope} {N : List Str} {js : List (Option Nat)} {n : Nat} (hc : X.env.cells = cellsFrom n X.env.scope.names []) (h : gsB X.N N X.env.scope scope js = true) : ScopeOk X scope N js := by
  unfold gsB at h
  simp only [Bool.and_eq_true, Bool.or_eq_true, Bool.not_eq_true', decide_eq_true_eq, decide_eq_false_iff_not, List.all_eq_true] at h
  obtain ⟨⟨⟨⟨⟨h1, h2⟩, h3⟩, h4⟩, h5⟩, h6⟩ := h
  refine ⟨h1, h2, fun y hy => (h3 y hy).1, h4, fun y hy e => ?_, h5, fun i j hij => ?_⟩
  · rcases (h3 y hy).2 with z | z
    · exact absurd e z
    · rw [hc]
      exact cell_has z
  · have hi : i < js.length := (List.getElem?_eq_some_iff.mp hij).1
    have q := h6 i (List.mem_range.mpr hi)
    rw [hij] at q
    cases hN : N[i]? with
    | none => rw [hN] at q; simp at q
    | some x =>
      rw [hN] at q
      simp only [Bool.and_eq_true, decide_eq_true_eq] at q
      exact ⟨x, rfl, q.1.1, q.1.2, .inl q.2⟩

section
variable {X : Cx} {e : Expr} {σ : L2.St} {B : Hp}
theorem et_int {i : Int} (ha : EE X e σ B (.int i)) (hs : ∀ whole : Sem Value, PySem.isTrue e X.env whole = (do let v ← whole; standAt e.pos; holding [v] (truthy v)) := by intro _; rfl) : ET X e σ B (i != 0) := fun H1 l Q k =>
  ⟨_, pt_truth pe_w hs, ha H1 l _ fun x B2 H2 u2 dx => by
    cases dx
    exact ⟨i != 0, rfl, k _ u2.h⟩⟩
end

theorem Up.le {B H H' : Hp} (l : Le B H) (k : Le H H') : Up B H B H' := (Up.refl l).tab k
theorem hu65 {A : Around} {k : Nat} (r : Room k A) : A.units + 65 < cLine := by
  have := r.un
  omega
theorem hu64 {A : Around} {k : Nat} (r : Room k A) : A.units + 64 < cLine := by
  have := r.un
  omega
section
variable {X : Cx} {a b c : Expr} {σ : L2.St} {H : Hp} {d1 d2 d3 : PyData}
theorem et_cmp {op : CmpOp} {r : R2} {pos : Pos} {k : Bool} (o : OpR X (compareOp op) r) (hr : RR X.K r H d1 d2 (.bool k)) (ha : EE X a σ H d1) (hb : EE X b σ H d2) (hm : behindInMarks op b = false := by rfl) : ET X (.Compare a [op] [b] pos) σ H k := fun H1 l Q q =>
  ⟨_, pt_cmpR o pe_w pe_w hm, two hr ha hb l fun v B2 H2 u dv => by
    cases dv
    exact ⟨k, rfl, q H2 u.h⟩⟩
theorem et_chain {op op' : CmpOp} {r r' : R2} {pos : Pos} {k1 k2 : Bool} (o : OpR X (compareOp op) r) (o' : OpR X (compareOp op') r') (hr : RR X.K r H d1 d2 (.bool k1)) (hr' : k1 = true → RR X.K r' H d2 d3 (.bool k2))
    (ha : EE X a σ H d1) (hb : EE X b σ H d2) (hc : k1 = true → EE X c σ H d3) (hm : lastMarks [op, op'] [b, c] = false := by rfl) : ET X (.Compare a [op, op'] [b, c] pos) σ H (k1 && k2) := fun H1 l Q q =>
  ⟨_, pt_chain o o' pe_w pe_w pe_w hm, ha H1 l _ fun x B2 H2 u2 dx => hb.mono u2.b H2 u2.s _ fun y B3 H3 u3 dy => hr B3 H3 (u2.b.trans u3.b) u3.s x y (Dt.le u3.b dx) dy _ fun z B4 H4 u4 dz => by
    cases dz
    refine ⟨k1, rfl, ?_⟩
    have u := (u2.trans u3).trans u4
    cases k1 with
    | true =>
      rw [if_pos rfl]
      exact (hc rfl).mono u.b H4 u.s _ fun t B5 H5 u5 dt => hr' rfl B5 H5 (u.b.trans u5.b) u5.s y t (Dt.le (u4.b.trans u5.b) dy) dt _ fun v B6 H6 u6 dv => by
        cases dv
        exact ⟨k2, rfl, q H6 ((u.trans u5).trans u6).h⟩
    | false =>
      rw [if_neg Bool.false_ne_true]
      exact ⟨false, rfl, q H4 u.h⟩⟩
theorem ee_globD {x : Str} {v : V} {u : Value} {pos : Pos} {d : PyData} (hm : X.mg x = some u) (hr : RelV v u) (hd : ∀ H', Dt X.K H' v d) (hg : Gl X x := by rfl) (hdb : (x == ("__debug__" : Str)) = false := by decide) : EE X (.Name x pos) σ H d := ee_v (pe_glob hg hm hr hdb) hd
end
theorem at0 {α : Type} {x : α} {xs : List α} : atI (x :: xs) 0 = some x := atI_nat (j := 0) rfl
theorem at1 {α : Type} {x y : α} {xs : List α} : atI (x :: y :: xs) 1 = some y := atI_nat (j := 1) rfl
theorem at2 {α : Type} {x y z : α} {xs : List α} : atI (x :: y :: z :: xs) 2 = some z := atI_nat (j := 2) rfl
theorem atD {xs : List PyData} {i : Nat} (h : i < xs.length) : atI xs (Int.ofNat i) = some (xs.getD i .none) := atI_nat (j := i) (by rw [List.getD_eq_getElem?_getD, List.getElem?_eq_getElem h]; rfl)
/-! every text and every tuple in it is of a size that the machine takes -/
mutual
def okD : PyData → Bool
  | .str x => x.cps.all (· < 0x110000) && decide (x.length ≤ 100000)
  | .list xs => decide (xs.length ≤ 100000) && okDs xs
  | .tuple xs => decide (xs.length ≤ 100000) && okDs xs
  | .dict kvs => decide (kvs.length = 0)
  | _ => true
def okDs : List PyData → Bool
  | [] => true
  | x :: xs => okD x && okDs xs
end
theorem okDs_mem : ∀ {xs : List PyData} {d : PyData}, okDs xs = true → d ∈ xs → okD d = true
  | x :: xs, d, h, m => by
    have h' := (Bool.and_eq_true _ _).mp h
    rcases List.mem_cons.mp m with z | z
    · rw [z]; exact h'.1
    · exact okDs_mem h'.2 z
theorem okD_str {x : Str} (h : okD (.str x) = true) : x.length ≤ sizeLine := by
  have h' := (Bool.and_eq_true _ _).mp h
  exact Nat.le_trans (of_decide_eq_true h'.2) (by decide)
theorem okD_tup {xs : List PyData} (h : okD (.tuple xs) = true) : xs.length ≤ 100000 ∧ okDs xs = true := by
  have h' := (Bool.and_eq_true _ _).mp h
  exact ⟨of_decide_eq_true h'.1, h'.2⟩
mutual
theorem okD_lay : ∀ {d : PyData}, okD d = true → noDict d = true → d.canLay0 = true
  | .none, _, _ => by simp only [PyData.canLay0]
  | .bool _, _, _ => by simp only [PyData.canLay0]
  | .int _, _, _ => by simp only [PyData.canLay0]
  | .str x, h, _ => by
    simp only [PyData.canLay0]
    exact ((Bool.and_eq_true _ _).mp h).1
  | .list xs, h, n => by
    simp only [PyData.canLay0]
    exact okDs_lay ((Bool.and_eq_true _ _).mp h).2 n
  | .tuple xs, h, n => by
    simp only [PyData.canLay0]
    exact okDs_lay ((Bool.and_eq_true _ _).mp h).2 n
theorem okDs_lay : ∀ {xs : List PyData}, okDs xs = true → noDicts xs = true → PyData.canLayAll0 xs = true
  | [], _, _ => by simp only [PyData.canLayAll0]
  | x :: xs, h, n => by
    have h' := (Bool.and_eq_true _ _).mp h
    have n' := (Bool.and_eq_true _ _).mp n
    simp only [PyData.canLayAll0, Bool.and_eq_true]
    exact ⟨okD_lay h'.1 n'.1, okDs_lay h'.2 n'.2⟩
end
theorem depthAll_le : ∀ {xs : List PyData} {n : Nat}, (∀ x ∈ xs, x.depth ≤ n) → PyData.depthAll xs ≤ n
  | [], n, _ => by simp [PyData.depthAll]
  | x :: xs, n, h => by
    have h1 := h x List.mem_cons_self
    have h2 := depthAll_le fun y hy => h y (List.mem_cons_of_mem _ hy)
    simp only [PyData.depthAll]
    omega
theorem noDicts_of : ∀ {xs : List PyData}, (∀ x ∈ xs, noDict x = true) → noDicts xs = true
  | [], _ => rfl
  | x :: xs, h => by
    show (noDict x && noDicts xs) = true
    rw [h x List.mem_cons_self, noDicts_of fun y hy => h y (List.mem_cons_of_mem _ hy)]
    rfl
theorem okDs_of : ∀ {xs : List PyData}, (∀ x ∈ xs, okD x = true) → okDs xs = true
  | [], _ => rfl
  | x :: xs, h => by
    show (okD x && okDs xs) = true
    rw [h x List.mem_cons_self, okDs_of fun y hy => h y (List.mem_cons_of_mem _ hy)]
    rfl
/-- flat: texts, numbers .. -/
def flatD : PyData → Bool
  | .list _ => false
  | .tuple _ => false
  | .dict _ => false
  | _ => true
theorem flat_noDict {d : PyData} (h : flatD d = true) : noDict d = true := by
  cases d <;> first | rfl | cases h
theorem flat_shaped {d : PyData} (h : flatD d = true) (k : okD d = true) : SeqAt.shaped d = true := by
  cases d with
  | str x =>
    have h' := (Bool.and_eq_true _ _).mp k
    unfold SeqAt.shaped
    rw [Bool.and_eq_true]
    exact ⟨by simp only [PyData.canLay0]; exact h'.1, by simp [PyData.depth]⟩
  | none => decide
  | bool b => cases b <;> decide
  | int i =>
    unfold SeqAt.shaped
    rw [Bool.and_eq_true]
    exact ⟨by simp only [PyData.canLay0], by simp [PyData.depth]⟩
  | _ => cases h
theorem flat_depth {d : PyData} (h : flatD d = true) : d.depth = 0 := by
  cases d <;> first | (simp [PyData.depth]; done) | cases h
theorem str_flat {d : PyData} (h : isStr d = true) : flatD d = true := by
  cases d <;> first | rfl | cases h
/-- a tuple of flat things -/
theorem tupF_shaped {xs : List PyData} (h : ∀ x ∈ xs, flatD x = true) (k : okD (.tuple xs) = true) : noDict (.tuple xs) = true ∧ SeqAt.shaped (.tuple xs) = true ∧ (PyData.tuple xs).depth ≤ 1 := by
  have n : noDicts xs = true := noDicts_of fun x hx => flat_noDict (h x hx)
  have dp : PyData.depthAll xs ≤ 0 := depthAll_le fun x hx => Nat.le_of_eq (flat_depth (h x hx))
  have dd : (PyData.tuple xs).depth ≤ 1 := by
    simp only [PyData.depth]
    omega
  refine ⟨n, ?_, dd⟩
  unfold SeqAt.shaped
  rw [Bool.and_eq_true]
  exact ⟨okD_lay k n, decide_eq_true (by omega)⟩
/-- a tuple of tuples of flat things -/
theorem tupT_shaped {xs : List PyData} (h : ∀ x ∈ xs, noDict x = true ∧ x.depth ≤ 1) (k : okD (.tuple xs) = true) : noDicts xs = true ∧ SeqAt.shaped (.tuple xs) = true := by
  have n : noDicts xs = true := noDicts_of fun x hx => (h x hx).1
  have dp : PyData.depthAll xs ≤ 1 := depthAll_le fun x hx => (h x hx).2
  have dd : (PyData.tuple xs).depth ≤ 2 := by
    simp only [PyData.depth]
    omega
  refine ⟨n, ?_⟩
  unfold SeqAt.shaped
  rw [Bool.and_eq_true]
  exact ⟨okD_lay (d := .tuple xs) k n, decide_eq_true (by omega)⟩

/-! ### unpacking -/
section
variable {X : Cx} {e tg : Expr} {σ : L2.St} {B H : Hp} {d : PyData} {es : List PyData} {D : L2.Ends} {tjs : List Nat} {pat : PyData → Option (List PyData)}
theorem ws_tgt {pos : Pos} (l : Le B H) (h : EE X e σ B d) (hg : EG X tg tjs pat) (hp : pat d = some es) (q : ∀ vs B' H', Up B H B' H' → Ds X.K B' vs es → D.nx (setsS σ tjs vs) H')
    (h1 : swapsWithSole [tg] e pos.line X.env = pure false := by rfl) (h2 : swappedStores [tg] e X.env = pure none := by rfl) (h3 : (assignEach [tg] X.env).map (fun x => x.2) = [assign tg X.env] := by rfl) : WS X (.Assign [tg] e pos) D σ H :=
  ⟨_, ps_asg pe_w pg_w h1 h2 h3, h H l _ fun v B' H' u dv => hg v d es σ B' H' u.s dv hp _ fun vs dvs => q vs B' H' u dvs⟩
end
end Tk


namespace K0
open PySem
def top (i : Nat) : Stmt := PySem.Challenge.pw_allboughs_k03_whole_least_woods.main.body.getD i (.Pass ⟨0, 0, 0, 0⟩)
abbrev t_is_number : Stmt := top 1
abbrev t_is_headed : Stmt := top 2
abbrev t_is_row : Stmt := top 3
abbrev t_ascends : Stmt := top 4
abbrev t_BoughError : Stmt := top 6
abbrev t_BadPlace : Stmt := top 7
abbrev t_BadWood : Stmt := top 8
abbrev t_OtherScope : Stmt := top 9
abbrev t_KEPT : Stmt := top 11
abbrev t_is_name : Stmt := top 12
abbrev t_MOST_NODES : Stmt := top 14
abbrev t_is_scope : Stmt := top 15
abbrev t_letters_of : Stmt := top 16
abbrev t_is_node : Stmt := top 17
abbrev t_is_wood : Stmt := top 18
abbrev t_check_wood : Stmt := top 19
abbrev t_check_place : Stmt := top 20
abbrev t_check_both : Stmt := top 21
abbrev t_come_to : Stmt := top 22
abbrev t_walked : Stmt := top 23
abbrev t_within : Stmt := top 24
abbrev t_walked_together : Stmt := top 25
abbrev t_parting : Stmt := top 26
abbrev t_sorted_out : Stmt := top 27
abbrev t_least_rows : Stmt := top 28
abbrev t_least : Stmt := top 29
abbrev t__law_begun : Stmt := top 31
abbrev t__law_mixed : Stmt := top 32
abbrev t__law_take : Stmt := top 33
abbrev t__law_pick : Stmt := top 34
abbrev t__law_shuffled : Stmt := top 35
abbrev t__law_caught : Stmt := top 36
abbrev t__law_names : Stmt := top 37
abbrev t__law_scope : Stmt := top 38
abbrev t__law_letters : Stmt := top 39
abbrev t__law_wood : Stmt := top 40
abbrev t__law_numbered : Stmt := top 41
abbrev t__law_met : Stmt := top 42
abbrev t__law_parting : Stmt := top 43
abbrev t__law_place : Stmt := top 44
abbrev t__law_twin : Stmt := top 45
abbrev t__law_bad_wood : Stmt := top 46
abbrev t__law_least : Stmt := top 47
abbrev t_law : Stmt := top 48
abbrev t__law_at : Stmt := .Pass ⟨0, 0, 0, 0⟩
abbrev t__law_is_number : Stmt := .Pass ⟨0, 0, 0, 0⟩
abbrev t_letters : Stmt := .Pass ⟨0, 0, 0, 0⟩
end K0


set_option Elab.async false
set_option linter.all false
set_option maxRecDepth 100000
set_option maxHeartbeats 2000000
namespace K0
open PySem PySem.Spec PyProof.Rows L2 GxR Tk
variable [LamTab]
abbrev sNum : Stmt := t_is_number
abbrev sHead : Stmt := t_is_headed
abbrev sRow : Stmt := t_is_row
abbrev sAsc : Stmt := t_ascends
section
variable {P : Program} {w : World} {K : PySem.W.Frag} {mg : Str → Option Value} {base : Heap} {f : Addr} {fd : FuncData} {T : List Addr} {c Pt : Addr}

def numB (d : PyData) (m : Int) : Bool := isInt d && (!isBool d && match d with | .int i => decide (0 ≤ i) && decide (i < m) | _ => false)
def numF : List PyData → PyData
  | [d, .int m] => .bool (numB d m)
  | _ => .none
def numP (ds : List PyData) : Prop := ∃ d m, ds = [d, .int m]
theorem scNum : FnScope ["thing", "limit"] ["thing", "limit"] (defScope sNum) := ⟨rfl, rfl, rfl, by decide +kernel, rfl, by decide +kernel, by decide +kernel⟩
theorem ok_num (BL : Blt mg) (F : L2.Fun K "is_number" "is_number" sNum f fd) : FnOk P w K mg base CX0 1 f fd ["thing", "limit"] (spF K T 2 numP numF) := by
  refine fn_pure F scNum rfl fun cdv A outer s H vs B ds Q E hr hcd t l hd hl hp q => ?_
  obtain ⟨d, m, rfl⟩ := hp
  obtain ⟨v1, v2, rfl, h1, h2⟩ := ds2 hd
  cases h2
  refine wb_one (ws_ret (d := .bool (numB d m)) l ?_ q)
  refine ee_and (ee_isInt BL (ee_var (i := 0) rfl h1)) fun e1 => ?_
  refine ee_and (ee_not (ee_isBool BL (ee_var (i := 0) rfl h1))) fun e2 => ?_
  refine ee_one ?_
  cases d with
  | int i => exact ee_chain op_le op_lt rr_le (fun _ => rr_lt) ee_int (ee_var (i := 0) rfl h1) fun _ => ee_var (i := 1) rfl (.int m)
  | bool b => cases e2
  | none => cases e1
  | str x => cases e1
  | list x => cases e1
  | tuple x => cases e1
  | dict x => cases e1

def rowB (d : PyData) (lo hi : Int) : Bool := isTup d && match d with | .tuple xs => decide (lo ≤ (xs.length : Int)) && decide ((xs.length : Int) ≤ hi) | _ => false
def rowF : List PyData → PyData
  | [d, .int lo, .int hi] => .bool (rowB d lo hi)
  | _ => .none
def rowP (ds : List PyData) : Prop := ∃ d lo hi, ds = [d, .int lo, .int hi]
theorem scRow : FnScope ["thing", "least", "most"] ["thing", "least", "most"] (defScope sRow) := ⟨rfl, rfl, rfl, by decide +kernel, rfl, by decide +kernel, by decide +kernel⟩
theorem ok_row (BL : Blt mg) (F : L2.Fun K "is_row" "is_row" sRow f fd) : FnOk P w K mg base CX0 1 f fd ["thing", "least", "most"] (spF K T 3 rowP rowF) := by
  refine fn_pure F scRow rfl fun cdv A outer s H vs B ds Q E hr hcd t l hd hl hp q => ?_
  obtain ⟨d, lo, hi, rfl⟩ := hp
  obtain ⟨v1, v2, v3, rfl, h1, h2, h3⟩ := ds3 hd
  cases h2
  cases h3
  refine wb_one (ws_ret (d := .bool (rowB d lo hi)) l ?_ q)
  refine ee_and (ee_isTup BL (ee_var (i := 0) rfl h1)) fun e1 => ?_
  refine ee_one ?_
  cases d with
  | tuple xs => exact ee_chain op_le op_le rr_le (fun _ => rr_le) (ee_var (i := 1) rfl (.int lo)) (ee_len BL (ee_var (i := 0) rfl h1) rfl fun x z => by cases z) fun _ => ee_var (i := 2) rfl (.int hi)
  | _ => cases e1

def headB (d : PyData) (wd : Str) (n : Int) : Bool := isTup d && match d with
  | .tuple xs => decide ((xs.length : Int) = n) && match xs with
    | x :: _ => isStr x && match x with
      | .str z => decide (z = wd)
      | _ => false
    | [] => false
  | _ => false
def headF : List PyData → PyData
  | [d, .str wd, .int n] => .bool (headB d wd n)
  | _ => .none
def headP (ds : List PyData) : Prop := ∃ d wd n, ds = [d, .str wd, .int n] ∧ 0 < n
theorem scHead : FnScope ["thing", "word", "size"] ["thing", "word", "size"] (defScope sHead) := ⟨rfl, rfl, rfl, by decide +kernel, rfl, by decide +kernel, by decide +kernel⟩
theorem ok_head (BL : Blt mg) (F : L2.Fun K "is_headed" "is_headed" sHead f fd) : FnOk P w K mg base CX0 1 f fd ["thing", "word", "size"] (spF K T 3 headP headF) := by
  refine fn_pure F scHead rfl fun cdv A outer s H vs B ds Q E hr hcd t l hd hl hp q => ?_
  obtain ⟨d, wd, n, rfl, hn⟩ := hp
  obtain ⟨v1, v2, v3, rfl, h1, h2, h3⟩ := ds3 hd
  cases h2
  cases h3
  refine wb_one (ws_ret (d := .bool (headB d wd n)) l ?_ q)
  refine ee_and (ee_isTup BL (ee_var (i := 0) rfl h1)) fun e1 => ?_
  cases d with
  | tuple xs =>
    refine ee_and (ee_cmp op_eq rr_eqI (ee_len BL (ee_var (i := 0) rfl h1) rfl fun x z => by cases z) (ee_var (i := 2) rfl (.int n))) fun e2 => ?_
    have e2 : (xs.length : Int) = n := of_decide_eq_true e2
    cases xs with
    | nil =>
      have e3 : ((0 : Nat) : Int) = n := e2
      omega
    | cons x xs =>
      refine ee_and (ee_isStr BL (ee_ix ix_tup (rr_ixT at0) (ee_var (i := 0) rfl h1) ee_int)) fun e3 => ?_
      refine ee_one ?_
      cases x with
      | str z => exact ee_cmp op_eq rr_eqS (ee_ix ix_tup (rr_ixT at0) (ee_var (i := 0) rfl h1) ee_int) (ee_var (i := 1) rfl (.str wd))
      | _ => cases e3
  | _ => cases e1

/-- less, of texts and of numbers -/
def ltD : PyData → PyData → Bool
  | .str a, .str b => decide (a.cps.toList < b.cps.toList)
  | .int a, .int b => decide (a < b)
  | _, _ => false
def ascB (xs : List PyData) : Bool := (upto ((xs.length : Int) - 1).toNat).all fun d => match d with
  | .int i => ltD (xs.getD i.toNat .none) (xs.getD (i + 1).toNat .none)
  | _ => false
def ascF : List PyData → PyData
  | [.tuple xs] => .bool (ascB xs)
  | _ => .none
def ascP (ds : List PyData) : Prop := ∃ xs, ds = [.tuple xs] ∧ xs.length ≤ 100000 ∧ ((∀ d ∈ xs, isStr d = true) ∨ ∀ d ∈ xs, ∃ i, d = .int i)
theorem scAsc : FnScope ["items"] ["items"] (defScope sAsc) := ⟨rfl, rfl, rfl, by decide +kernel, rfl, by decide +kernel, by decide +kernel⟩
theorem mem_upto {n : Nat} {d : PyData} (h : d ∈ upto n) : ∃ i : Nat, i < n ∧ d = .int (Int.ofNat i) := by
  unfold upto at h
  obtain ⟨i, hi, e⟩ := List.mem_map.mp h
  exact ⟨i, List.mem_range.mp hi, e.symm⟩
theorem ok_asc (BL : Blt mg) (F : L2.Fun K "ascends" "ascends" sAsc f fd) (hc : fd.code = .ref c) (TB : TabB base mg c Pt) (hP : Pt ∈ T) : FnOk P w K mg base CX0 2 f fd ["items"] (spF K T 1 ascP ascF) := by
  refine fn_pure F scAsc rfl fun cdv A outer s H vs B ds Q E hr hcd t l hd hl hp q => ?_
  obtain ⟨xs, rfl, hn, hk⟩ := hp
  obtain ⟨v1, rfl, h1⟩ := ds1 hd
  subst hcd
  refine wb_one (ws_ret (d := .bool (ascB xs)) l ?_ q)
  refine ee_all (k := 0) (N := ["at", "items"]) (js := [none, some 0]) (tjs := [0]) (pat := patN) _ hr BL.all TB hc (scope_by (n := s.heap.objs.size + 1) rfl (show gsB ["items"] ["at", "items"] (defScope sAsc) _ [none, some 0] = true by decide +kernel)) hP t
    (ei_range (n := (xs.length : Int) - 1) BL.range (ee_op op_sub rr_sub (ee_len BL (ee_var (i := 0) rfl h1) rfl fun x z => by cases z) ee_int) (by omega) (by omega)) (fun code A s H0 ex hr => eg_name (show List.Nodup (["at", "items"] : List Str) by decide +kernel)) (by decide) (fun d hd => ⟨[d], rfl, rfl⟩) fun B' d es vs lb hd he hv code A s H0 ex hr => ?_
  obtain ⟨i, hi, rfl⟩ := mem_upto hd
  cases he
  obtain ⟨x, rfl, hx⟩ := ds1 (K := K) hv
  have hi1 : i < xs.length := by omega
  have hi2 : i + 1 < xs.length := by omega
  have e2 : (Int.ofNat i + 1 : Int) = Int.ofNat (i + 1) := rfl
  have g1 : xs.getD i .none ∈ xs := by rw [List.getD_eq_getElem?_getD, List.getElem?_eq_getElem hi1]; exact List.getElem_mem hi1
  have g2 : xs.getD (i + 1) .none ∈ xs := by rw [List.getD_eq_getElem?_getD, List.getElem?_eq_getElem hi2]; exact List.getElem_mem hi2
  rcases hk with hk | hk
  · have k1 := hk _ g1
    have k2 := hk _ g2
    have a1 := atD hi1
    have a2 := atD hi2
    refine EE.cast (d := .bool (ltD (xs.getD i .none) (xs.getD (i + 1) .none))) ?_ rfl
    generalize xs.getD i .none = y1 at *
    generalize xs.getD (i + 1) .none = y2 at *
    cases y1 with
    | str z1 =>
      cases y2 with
      | str z2 => exact ee_cmp o_ltS rr_ltS (ee_ix ix_tup (rr_ixT a1) (ee_var (i := 1) rfl (Dt.le lb h1)) (ee_var (i := 0) rfl hx)) (ee_ix ix_tup (rr_ixT a2) (ee_var (i := 1) rfl (Dt.le lb h1)) (ee_op op_add rr_add (ee_var (i := 0) rfl hx) ee_int))
      | _ => cases k2
    | _ => cases k1
  · obtain ⟨j1, k1⟩ := hk _ g1
    obtain ⟨j2, k2⟩ := hk _ g2
    have a1 := atD hi1
    have a2 := atD hi2
    refine EE.cast (d := .bool (ltD (xs.getD i .none) (xs.getD (i + 1) .none))) ?_ rfl
    rw [k1] at a1 ⊢
    rw [k2] at a2 ⊢
    exact ee_cmp op_lt rr_lt (ee_ix ix_tup (rr_ixT a1) (ee_var (i := 1) rfl (Dt.le lb h1)) (ee_var (i := 0) rfl hx)) (ee_ix ix_tup (rr_ixT a2) (ee_var (i := 1) rfl (Dt.le lb h1)) (ee_op op_add rr_add (ee_var (i := 0) rfl hx) ee_int))

/-! ### names -/
abbrev sName : Stmt := t_is_name
abbrev sScope : Stmt := t_is_scope
abbrev sLetOf : Stmt := t_letters_of
abbrev sLetters : Stmt := t_letters
abbrev sNode : Stmt := t_is_node
abbrev sWood : Stmt := t_is_wood
def keptS : List Str := ["again", "all", "apart", "bare", "below", "both", "closed", "either", "every", "finite", "first", "left", "not", "often", "one", "right", "road", "root", "same", "some", "sub", "thread"]
def keptD : List PyData := keptS.map .str
def Kept (K : PySem.W.Frag) (mg : Str → Option Value) : Prop := ∃ a, mg "KEPT" = some (.ref a) ∧ ∀ H, Dt K H (.ref a) (.tuple keptD)
def sgnB : PyData → Bool
  | .str s => !decide (s.cps.toList < ("a" : Str).cps.toList) && !decide (("z" : Str).cps.toList < s.cps.toList)
  | _ => false
def nameB : PyData → Bool
  | .str s => (decide (1 ≤ (s.length : Int)) && decide ((s.length : Int) ≤ 8)) && (!(keptD.any fun z => PyData.eqv z (.str s)) && (Tk.signs s).all sgnB)
  | _ => false
def nameF : List PyData → PyData
  | [d] => .bool (nameB d)
  | _ => .none
def nameP (ds : List PyData) : Prop := ∃ d, ds = [d] ∧ okD d = true
theorem scName : FnScope ["thing"] ["thing"] (defScope sName) := ⟨rfl, rfl, rfl, by decide +kernel, rfl, by decide +kernel, by decide +kernel⟩
theorem kept_shaped : SeqAt.shaped (.tuple keptD) = true := by decide +kernel
theorem kept_noDicts : noDicts keptD = true := by decide +kernel
/-! the text that is asked by isascii, isalpha, islower -/
theorem sgn_asc : ∀ c, c < 128 → (Unicode.isAlpha c && !(Unicode.isUpper c || Unicode.isTitle c)) = (decide (97 ≤ c) && decide (c ≤ 122)) := by decide +kernel
theorem low_asc : ∀ c, c < 128 → (decide (97 ≤ c) && decide (c ≤ 122)) = true → Unicode.isLower c = true := by decide +kernel
theorem sgn_cps (c : Nat) : (⟨#[c]⟩ : Str).cps.toList = [c] := rfl
theorem sgn_lt (a b : Nat) : decide (([a] : List Nat) < [b]) = decide (a < b) := by
  refine decide_eq_decide.mpr ⟨fun h => ?_, fun h => .rel h⟩
  cases h with
  | rel h => exact h
  | cons h => cases h
theorem sgn_one (c : Nat) : sgnB (.str ⟨#[c]⟩) = (decide (97 ≤ c) && decide (c ≤ 122)) := by
  show (!decide (([c] : List Nat) < [97]) && !decide (([122] : List Nat) < [c])) = _
  rw [sgn_lt, sgn_lt]
  by_cases h1 : c < 97 <;> by_cases h2 : 122 < c <;> simp [h1, h2] <;> omega
theorem ascii_signs {z : Str} (h : 1 ≤ z.length) : (PySem.Txt.isascii z && (PySem.Txt.isalpha z && PySem.Txt.islower z)) = (Tk.signs z).all sgnB := by
  have e : (Tk.signs z).all sgnB = z.cps.toList.all fun c => decide (97 ≤ c) && decide (c ≤ 122) := by
    unfold Tk.signs
    rw [List.all_map]
    exact congrArg (fun g => z.cps.toList.all g) (funext fun c => sgn_one c)
  have hl : 0 < z.cps.toList.length := by rw [Array.length_toList]; exact h
  rw [e, Bool.eq_iff_iff]
  unfold PySem.Txt.isascii PySem.Txt.isalpha PySem.Txt.islower
  rw [← Array.all_toList, ← Array.all_toList, ← Array.any_toList, ← Array.any_toList]
  simp only [Bool.and_eq_true, List.all_eq_true, decide_eq_true_eq, List.any_eq_true, Bool.not_eq_true', List.any_eq_false]
  constructor
  · rintro ⟨h1, ⟨_, h2⟩, _, h3⟩ c hc
    have := sgn_asc c (h1 c hc)
    have h3' : (Unicode.isUpper c || Unicode.isTitle c) = false := by
      cases q : (Unicode.isUpper c || Unicode.isTitle c) with
      | false => rfl
      | true => exact absurd q (h3 c hc)
    rw [h2 c hc, h3'] at this
    simpa using this.symm
  · intro hh
    have hc : ∀ c ∈ z.cps.toList, c < 128 ∧ Unicode.isAlpha c = true ∧ (Unicode.isUpper c || Unicode.isTitle c) = false ∧ Unicode.isLower c = true := fun c hc => by
      obtain ⟨a, b⟩ := hh c hc
      have k : (decide (97 ≤ c) && decide (c ≤ 122)) = true := by simp [a, b]
      have m := sgn_asc c (by omega)
      rw [k] at m
      obtain ⟨m1, m2⟩ := (Bool.and_eq_true _ _).mp m
      exact ⟨by omega, m1, by simpa using m2, low_asc c (by omega) k⟩
    refine ⟨fun c h => (hc c h).1, ⟨h, fun c h => (hc c h).2.1⟩, ?_, fun c h => by rw [(hc c h).2.2.1]; exact Bool.false_ne_true⟩
    obtain ⟨c, hcm⟩ := List.exists_mem_of_length_pos hl
    exact ⟨c, hcm, (hc c hcm).2.2.2⟩
section
variable {X : Cx} {e : Expr} {σ : L2.St} {H : Hp} {x : Str}
/-- a method without arguments that asks a text -/
theorem ee_ask {id : String} {name : Str} {g : Str → Bool} {apos cpos : Pos} (slot : Slot "str" name id) (hty : typeOf (.builtin id) = pure (.type "method_descriptor")) (hm : MtR X id (fun x xs H Q => ∃ a, x = .str a ∧ xs = [] ∧ True ∧ Q (.bl (g a)) H))
    (h : EE X e σ H (.str x)) (hbase : attributeBase e name X.env (eval e X.env) = eval e X.env := by rfl) (hline : (apos.endLine == cpos.line) = true := by rfl) : EE X (.Call (.Attribute e name apos) [] [] cpos) σ H (.bool (g x)) := fun H1 l Q q =>
  ⟨_, pe_m0 slot hty hm pe_w hbase hline, h H1 l _ fun v B2 H2 u dv => by
    cases dv
    exact ⟨⟨_, rfl⟩, _, rfl, rfl, trivial, q _ B2 H2 u (.bl _)⟩⟩
end
theorem ok_name (BL : Blt mg) (HK : Kept K mg) (F : L2.Fun K "is_name" "is_name" sName f fd) : FnOk P w K mg base CX0 2 f fd ["thing"] (spF K T 1 nameP nameF) := by
  refine fn_pure F scName rfl fun cdv A outer s H vs B ds Q E hr hcd t l hd hl hp q => ?_
  obtain ⟨d, rfl, hok⟩ := hp
  obtain ⟨v1, rfl, h1⟩ := ds1 hd
  obtain ⟨ka, hk1, hk2⟩ := HK
  cases hs : isStr d with
  | false =>
    refine wb_cons (ws_if (k := true) l (et_w (ew_or (p := true) (q := true) ((et_not (et_val (ee_isStr BL (ee_var (i := 0) rfl h1)))).cast (by rw [hs]; rfl)) fun e => by cases e)) (fun _ H' l' => ?_) fun e => by cases e)
    refine wb_one (ws_ret (d := .bool false) (l.trans l') ee_bl fun v B' H'' u dv => ?_)
    refine q v B' H'' ((Up.le l l').trans u) ?_
    have e : nameF [d] = .bool false := by cases d <;> first | rfl | cases hs
    rw [e]
    exact dv
  | true =>
    cases d with
    | str z =>
      have hz := okD_str hok
      refine wb_cons (ws_if (k := (!(decide (1 ≤ (z.length : Int)) && decide ((z.length : Int) ≤ 8))) || keptD.any fun y => PyData.eqv y (.str z)) l
        ((et_w (ew_or (et_not (et_val (ee_isStr BL (ee_var (i := 0) rfl h1)))) fun _ => ew_or (et_not (et_chain op_le op_le rr_le (fun _ => rr_le) ee_int (ee_len BL (ee_var (i := 0) rfl h1) rfl fun x e => by cases e; exact hz) fun _ => ee_int))
          fun _ => ew_one2 (et_cmp (o_inT (hu65 hr)) (rr_inT rfl kept_noDicts (flat_shaped rfl hok) kept_shaped) (ee_var (i := 0) rfl h1) (ee_globD (v := .ref ka) hk1 rfl hk2)))).cast rfl) (fun e H' l' => ?_) fun e H' l' => ?_)
      · refine wb_one (ws_ret (d := .bool false) (l.trans l') ee_bl fun v B' H'' u dv => ?_)
        refine q v B' H'' ((Up.le l l').trans u) ?_
        have e2 : nameF [.str z] = .bool false := by
          show PyData.bool ((decide (1 ≤ (z.length : Int)) && decide ((z.length : Int) ≤ 8)) && (!(keptD.any fun z_1 => PyData.eqv z_1 (.str z)) && (Tk.signs z).all sgnB)) = _
          cases h8 : (decide (1 ≤ (z.length : Int)) && decide ((z.length : Int) ≤ 8)) with
          | false => rfl
          | true =>
            rw [h8] at e
            have e' : (keptD.any fun y => PyData.eqv y (.str z)) = true := e
            rw [e']
            rfl
        rw [e2]
        exact dv
      · have e1 : (decide (1 ≤ (z.length : Int)) && decide ((z.length : Int) ≤ 8)) = true := by
          cases h8 : (decide (1 ≤ (z.length : Int)) && decide ((z.length : Int) ≤ 8)) with
          | false => rw [h8] at e; cases e
          | true => rfl
        have e2 : (keptD.any fun y => PyData.eqv y (.str z)) = false := by
          rw [e1] at e
          exact e
        refine wb_nil ?_
        refine wb_one (ws_ret (d := .bool ((Tk.signs z).all sgnB)) (l.trans l') ?_ fun v B' H'' u dv => q v B' H'' ((Up.le l l').trans u) ?_)
        · have h8 : 1 ≤ z.length := by
            have := ((Bool.and_eq_true _ _).mp e1).1
            have := of_decide_eq_true this
            omega
          rw [← ascii_signs h8]
          refine ee_and (ee_ask PySem.F.slot_str_isascii PySem.F.type_str_isascii mt_isascii (ee_var (i := 0) rfl h1)) fun _ => ?_
          refine ee_and (ee_ask PySem.F.slot_str_isalpha PySem.F.type_str_isalpha mt_isalpha (ee_var (i := 0) rfl h1)) fun _ => ?_
          exact ee_one (ee_ask PySem.F.slot_str_islower PySem.F.type_str_islower mt_islower (ee_var (i := 0) rfl h1))
        · have e3 : nameF [.str z] = .bool ((Tk.signs z).all sgnB) := by
            show PyData.bool ((decide (1 ≤ (z.length : Int)) && decide ((z.length : Int) ≤ 8)) && (!(keptD.any fun z_1 => PyData.eqv z_1 (.str z)) && (Tk.signs z).all sgnB)) = _
            rw [e1, e2]
            rfl
          rw [e3]
          exact dv
    | _ => cases hs

theorem mem_nums {xs : List PyData} {k : Nat} {d : PyData} (h : d ∈ nums k xs) : ∃ (i : Nat) (x : PyData), d = .tuple [.int (Int.ofNat i), x] ∧ x ∈ xs := by
  obtain ⟨i, hi⟩ := List.getElem?_of_mem h
  rw [nums_get] at hi
  cases q : xs[i]? with
  | none => rw [q] at hi; cases hi
  | some x =>
    rw [q] at hi
    exact ⟨k + i, x, (Option.some.inj hi).symm, List.mem_of_getElem? q⟩
/-! ### scopes, letters -/
def scopeB (d : PyData) : Bool := rowB d 0 3 && ((match d with | .tuple xs => xs.all nameB | _ => false) && match d with | .tuple xs => ascB xs | _ => false)
def scopeF : List PyData → PyData
  | [d] => .bool (scopeB d)
  | _ => .none
theorem scScope : FnScope ["thing"] ["thing"] (defScope sScope) := ⟨rfl, rfl, rfl, by decide +kernel, rfl, by decide +kernel, by decide +kernel⟩
theorem name_str {d : PyData} (h : nameB d = true) : isStr d = true := by cases d <;> first | rfl | cases h
theorem row_tup {d : PyData} {lo hi : Int} (h : rowB d lo hi = true) : ∃ xs, d = .tuple xs ∧ lo ≤ (xs.length : Int) ∧ (xs.length : Int) ≤ hi := by
  cases d with
  | tuple xs =>
    have h' := (Bool.and_eq_true _ _).mp h
    have h2 := (Bool.and_eq_true _ _).mp h'.2
    exact ⟨xs, rfl, of_decide_eq_true h2.1, of_decide_eq_true h2.2⟩
  | _ => cases h
theorem ok_scope (BL : Blt mg) (Frow : Kn P w K mg base 1 "is_row" ["thing", "least", "most"] (spF K T 3 rowP rowF)) (Fname : Kn P w K mg base 2 "is_name" ["thing"] (spF K T 1 nameP nameF)) (Fasc : Kn P w K mg base 2 "ascends" ["items"] (spF K T 1 ascP ascF))
    (F : L2.Fun K "is_scope" "is_scope" sScope f fd) (hc : fd.code = .ref c) (TB : TabB base mg c Pt) (hP : Pt ∈ T) : FnOk P w K mg base CX0 4 f fd ["thing"] (spF K T 1 nameP scopeF) := by
  refine fn_pure F scScope rfl fun cdv A outer s H vs B ds Q E hr hcd t l hd hl hp q => ?_
  obtain ⟨d, rfl, hok⟩ := hp
  obtain ⟨v1, rfl, h1⟩ := ds1 hd
  subst hcd
  refine wb_one (ws_ret (d := .bool (scopeB d)) l ?_ q)
  refine ee_and (p := rowB d 0 3) (ee_call Frow hr (by decide) t (ea_cons (ee_var (i := 0) rfl h1) (ea_cons ee_int (ea_cons ee_int ea_nil))) ⟨d, 0, 3, rfl⟩) fun e1 => ?_
  obtain ⟨xs, rfl, _, hn⟩ := row_tup e1
  have hoks := okD_tup hok
  refine ee_and (p := xs.all nameB) ?_ fun e2 => ?_
  · refine ee_all (k := 2) (N := ["name"]) (js := [none]) (tjs := [0]) (pat := patN) _ hr BL.all TB hc (scope_by (n := s.heap.objs.size + 1) rfl (show gsB ["thing"] ["name"] (defScope sScope) _ [none] = true by decide +kernel)) hP t
      (ei_tup (ee_var (i := 0) rfl h1)) (fun code A s H0 ex hr => eg_name (show List.Nodup (["name"] : List Str) by decide +kernel)) (by decide) (fun d hd => ⟨[d], rfl, rfl⟩) fun B' d es vs lb hd he hv code A s H0 ex hr => ?_
    cases he
    obtain ⟨x, rfl, hx⟩ := ds1 (K := K) hv
    exact ee_call Fname hr (Nat.le_refl _) (t.le lb) (ea_cons (ee_var (i := 0) rfl hx) ea_nil) ⟨d, rfl, okDs_mem hoks.2 hd⟩
  · refine ee_one ?_
    exact ee_call (f := ascF) Fasc hr (by decide) t (ea_cons (ee_var (i := 0) rfl h1) ea_nil) ⟨xs, rfl, hoks.1, .inl fun d hd => name_str (List.all_eq_true.mp e2 d hd)⟩

end
end K0


set_option Elab.async false
set_option linter.all false
set_option maxRecDepth 100000
set_option maxHeartbeats 1000000
/-! Tk5: the same where cells at D change: J m, m more steps are allowed. -/
namespace Tk
open PySem PySem.Spec PyProof.Rows L2 GxR Gx
variable [LamTab]

/-- all but the cells at D stays -/
structure LeX (D : List Addr) (H H' : Hp) : Prop where
  keep : ∀ a o, a ∉ D → H a = some o → (∀ ps, o = .tbl ps → LamTab.is a) → H' a = some o
  tab : ∀ P, TabG H P → TabG H' P
  there : ∀ a, H' a = none → H a = none
theorem LeX.of {D : List Addr} {H H' : Hp} (l : Le H H') : LeX D H H' := ⟨fun a o _ h n => l.keep a o h n, l.tab, l.there⟩
theorem LeX.trans {D : List Addr} {H H1 H2 : Hp} (a : LeX D H H1) (b : LeX D H1 H2) : LeX D H H2 :=
  ⟨fun x o d h n => b.keep x o d (a.keep x o d h n) n, fun P h => b.tab P (a.tab P h), fun x h => a.there x (b.there x h)⟩
/-- what is held of the changing cells -/
structure Cells (D : List Addr) (J : Nat → Hp → Prop) : Prop where
  at_ : ∀ n H, J n H → ∀ a ∈ D, ∃ o, H a = some o ∧ ∀ ps, o ≠ .tbl ps
  le : ∀ n H H', J n H → Le H H' → J n H'
  less : ∀ n m H, J n H → m ≤ n → J m H
/-- B leans on no changing cell -/
def Apt (D : List Addr) (B : Hp) : Prop := ∀ a ∈ D, B a = none
structure UpX (D : List Addr) (B H B2 H2 : Hp) : Prop where
  h : LeX D H H2
  b : Le B B2
  s : Le B2 H2
  n : ∀ a, B2 a ≠ none → B a ≠ none ∨ H a = none ∨ ((∃ ps, H a = some (.tbl ps)) ∧ ¬ LamTab.is a)
section
variable {D : List Addr} {J : Nat → Hp → Prop} {B H B1 H1 B2 H2 : Hp}
theorem UpX.of (u : Up B H B2 H2) : UpX D B H B2 H2 := ⟨.of u.h, u.b, u.s, u.n⟩
theorem UpX.refl (l : Le B H) : UpX D B H B H := .of (Up.refl l)
theorem UpX.trans (C : Cells D J) {m : Nat} (j : J m H1) (a : UpX D B H B1 H1) (b : UpX D B1 H1 B2 H2) : UpX D B H B2 H2 :=
  ⟨a.h.trans b.h, a.b.trans b.b, b.s, fun x h => by
    rcases b.n x h with z | z | ⟨⟨ps, z⟩, ny⟩
    · exact a.n x z
    · exact .inr (.inl (a.h.there x z))
    · by_cases hx : x ∈ D
      · obtain ⟨o, e, n⟩ := C.at_ m H1 j x hx
        rw [e] at z
        exact absurd (Option.some.inj z) (n ps)
      · refine .inr ?_
        cases q : H x with
        | none => exact .inl rfl
        | some o =>
          refine .inr ?_
          by_cases y : ∃ qs, o = .tbl qs
          · obtain ⟨qs, rfl⟩ := y
            exact ⟨⟨qs, rfl⟩, ny⟩
          · have e := a.h.keep x o hx q fun qs e => (y ⟨qs, e⟩).elim
            rw [z] at e
            exact absurd ⟨ps, (Option.some.inj e).symm⟩ y⟩
theorem UpX.apt (C : Cells D J) {m : Nat} (j : J m H) (p : Apt D B) (u : UpX D B H B2 H2) : Apt D B2 := fun a ha => by
  cases q : B2 a with
  | none => rfl
  | some o =>
    obtain ⟨o', e, n⟩ := C.at_ m H j a ha
    rcases u.n a (by rw [q]; simp) with z | z | ⟨⟨ps, z⟩, _⟩
    · exact absurd (p a ha) z
    · rw [e] at z; cases z
    · rw [e] at z; exact absurd (Option.some.inj z) (n ps)
theorem UpX.new (u : UpX D B H B1 H1) {p : Addr} {o : HO} (hp : H1 p = none) (ho : ∀ ps, o ≠ .tbl ps) : UpX D B H (upd B1 p o) (upd H1 p o) := by
  have w := (Up.refl u.s).new hp ho
  refine ⟨u.h.trans (.of w.h), u.b.trans w.b, w.s, fun a q => ?_⟩
  by_cases z : a = p
  · rw [z]
    exact .inr (.inl (u.h.there p hp))
  · rw [upd_ne z] at q
    exact u.n a q
end

section
variable (X : Cx) (D : List Addr) (J : Nat → Hp → Prop)
/-- within n steps it is worth some d of which R d -/
def EJ (e : Expr) (σ : L2.St) (B : Hp) (n : Nat) (R : PyData → Prop) : Prop := ∀ m H1, Le B H1 → Apt D B → J (m + n) H1 → ∀ Q : VK, (∀ v d B2 H2, UpX D B H1 B2 H2 → J m H2 → Dt X.K B2 v d → R d → Q v H2) → WE X e σ H1 Q
def EAJ (es : List Expr) (σ : L2.St) (B : Hp) (n : Nat) (R : List PyData → Prop) : Prop := ∀ m H1, Le B H1 → Apt D B → J (m + n) H1 → ∀ Q : List V → Hp → Prop, (∀ vs ds B2 H2, UpX D B H1 B2 H2 → J m H2 → Ds X.K B2 vs ds → R ds → Q vs H2) → WA X es σ H1 Q
def ETJ (e : Expr) (σ : L2.St) (B : Hp) (n : Nat) (R : Bool → Prop) : Prop := ∀ m H1, Le B H1 → Apt D B → J (m + n) H1 → ∀ Q : Bool → Hp → Prop, (∀ b H2, LeX D H1 H2 → Le B H2 → J m H2 → R b → Q b H2) → WT X e σ H1 Q
end
section
variable {X : Cx} {D : List Addr} {J : Nat → Hp → Prop} {e a b : Expr} {es : List Expr} {σ : L2.St} {B B' : Hp} {n n1 n2 : Nat} {R Ra Rb : PyData → Prop} {RA : List PyData → Prop}
theorem EJ.mono (h : EJ X D J e σ B n R) (l : Le B B') : EJ X D J e σ B' n R := fun m H1 e1 ap j Q q => h m H1 (l.trans e1) (fun x hx => l.there x (ap x hx)) j Q fun v d B2 H2 u jj dv r => by
  -- leaning on more
  have l2 : Le B' (fun x => if B' x = none ∧ B2 x = none then none else H2 x) := by
    refine ⟨fun x o qx nx => ?_, fun P t => ?_, fun x qx => ?_⟩
    · show (if B' x = none ∧ B2 x = none then none else H2 x) = some o
      rw [if_neg fun z => by rw [z.1] at qx; cases qx]
      refine u.h.keep x o (fun hx => ?_) (e1.keep x o qx nx) nx
      rw [ap x hx] at qx
      cases qx
    · obtain ⟨ps, q1, r1⟩ := t
      obtain ⟨ps', q2, r2⟩ := u.h.tab P (e1.tab P ⟨ps, q1, r1⟩)
      refine ⟨ps', ?_, r2⟩
      show (if B' P = none ∧ B2 P = none then none else H2 P) = _
      rw [if_neg fun z => by rw [z.1] at q1; cases q1]
      exact q2
    · have q' : (if B' x = none ∧ B2 x = none then none else H2 x) = none := qx
      by_cases z : B' x = none ∧ B2 x = none
      · exact z.1
      · rw [if_neg z] at q'
        exact e1.there x (u.h.there x q')
  have l3 : Le B2 (fun x => if B' x = none ∧ B2 x = none then none else H2 x) := by
    refine ⟨fun x o qx nx => ?_, fun P t => ?_, fun x qx => ?_⟩
    · show (if B' x = none ∧ B2 x = none then none else H2 x) = some o
      rw [if_neg fun z => by rw [z.2] at qx; cases qx]
      exact u.s.keep x o qx nx
    · obtain ⟨ps, q1, r1⟩ := t
      obtain ⟨ps', q2, r2⟩ := u.s.tab P ⟨ps, q1, r1⟩
      refine ⟨ps', ?_, r2⟩
      show (if B' P = none ∧ B2 P = none then none else H2 P) = _
      rw [if_neg fun z => by rw [z.2] at q1; cases q1]
      exact q2
    · have q' : (if B' x = none ∧ B2 x = none then none else H2 x) = none := qx
      by_cases z : B' x = none ∧ B2 x = none
      · exact z.2
      · rw [if_neg z] at q'
        exact u.s.there x q'
  have l4 : Le (fun x => if B' x = none ∧ B2 x = none then none else H2 x) H2 := by
    refine ⟨fun x o qx nx => ?_, fun P t => ?_, fun x qx => ?_⟩
    · have q' : (if B' x = none ∧ B2 x = none then none else H2 x) = some o := qx
      by_cases z : B' x = none ∧ B2 x = none
      · rw [if_pos z] at q'; cases q'
      · rw [if_neg z] at q'; exact q'
    · obtain ⟨ps, q1, r1⟩ := t
      have q' : (if B' P = none ∧ B2 P = none then none else H2 P) = _ := q1
      by_cases z : B' P = none ∧ B2 P = none
      · rw [if_pos z] at q'; cases q'
      · rw [if_neg z] at q'; exact ⟨ps, q', r1⟩
    · show (if B' x = none ∧ B2 x = none then none else H2 x) = none
      rw [qx]
      exact ite_self _
  refine q v d _ H2 ⟨u.h, l2, l4, fun x qx => ?_⟩ jj (Dt.le l3 dv) r
  have q' : (if B' x = none ∧ B2 x = none then none else H2 x) ≠ none := qx
  by_cases z : B' x = none
  · by_cases z2 : B2 x = none
    · rw [if_pos ⟨z, z2⟩] at q'
      exact absurd rfl q'
    · rcases u.n x z2 with y | y
      · exact absurd (l.there x z) y
      · exact .inr y
  · exact .inl z
/-- what changes nothing -/
theorem ej_pure (C : Cells D J) {d : PyData} (h : EE X e σ B d) (r : R d) : EJ X D J e σ B 0 R := fun m H1 l ap j Q q => h H1 l Q fun v B2 H2 u dv => q v d B2 H2 (.of u) (C.le _ _ _ j u.h) dv r
theorem EJ.weak (C : Cells D J) (h : EJ X D J e σ B n R) (k : ∀ d, R d → Ra d) (hn : n ≤ n1) : EJ X D J e σ B n1 Ra := fun m H1 l ap j Q q =>
  h (m + (n1 - n)) H1 l ap (by rw [show m + (n1 - n) + n = m + n1 by omega]; exact j) Q fun v d B2 H2 u jj dv r => q v d B2 H2 u (C.less _ _ _ jj (by omega)) dv (k d r)
theorem eaj_nil : EAJ X D J [] σ B 0 (· = []) := fun m H1 l ap j Q k => ⟨_, pa_nil, k [] [] B H1 (.refl l) j .nil rfl⟩
theorem eaj_cons (C : Cells D J) (ha : EJ X D J e σ B n1 R) (hb : ∀ B', Le B B' → EAJ X D J es σ B' n2 RA) (hs : starEach (e :: es) X.env = (false, eval e X.env) :: starEach es X.env := by rfl) :
    EAJ X D J (e :: es) σ B (n1 + n2) (fun ds => ∃ d r, ds = d :: r ∧ R d ∧ RA r) := fun m H1 l ap j Q k =>
  ⟨_, pa_cons pe_w pa_w hs, ha (m + n2) H1 l ap (by rw [show m + n2 + n1 = m + (n1 + n2) by omega]; exact j) _ fun v d B2 H2 u2 j2 dv r => hb B2 u2.b m H2 u2.s (u2.apt C j ap) j2 _ fun vs ds B3 H3 u3 j3 dvs rs =>
    k _ _ B3 H3 (u2.trans C j2 u3) j3 (.cons (Dt.le u3.b dv) dvs) ⟨d, ds, rfl, r, rs⟩⟩
theorem ej_tup {pos : Pos} {k : Nat} (C : Cells D J) (ha : EAJ X D J es σ B n RA) (hl : ∀ ds, RA ds → ds.length ≤ sizeLine) : EJ X D J (.Tuple es k pos) σ B n (fun d => ∃ ds, d = .tuple ds ∧ RA ds) := fun m H1 l ap j Q q =>
  ⟨_, pe_tup pa_w, ha m H1 l ap j _ fun vs ds B2 H2 u2 j2 dv r => ⟨by rw [dv.length]; exact hl ds r, fun p hp => q _ _ _ _ (u2.new hp fun ps z => by cases z) (C.le _ _ _ j2 (Le.new hp)) (.new_tup upd_same (Ds.le (Le.new (u2.s.there p hp)) dv)) ⟨ds, rfl, r⟩⟩⟩
/-- two operands, the left one first -/
def RJ (K : PySem.W.Frag) (r : R2) (B : Hp) (Ra Rb R3 : PyData → Prop) : Prop := ∀ B1 H1, Le B B1 → Le B1 H1 → ∀ x y d1 d2, Dt K B1 x d1 → Dt K B1 y d2 → Ra d1 → Rb d2 → ∀ Q : VK, (∀ v d B2 H2, Up B1 H1 B2 H2 → Dt K B2 v d → R3 d → Q v H2) → r x y H1 Q
theorem twoJ {r : R2} {R3 : PyData → Prop} (C : Cells D J) (hr : RJ X.K r B Ra Rb R3) (ha : EJ X D J a σ B n1 Ra) (hb : EJ X D J b σ B n2 Rb) {m : Nat} {H1 : Hp} (l : Le B H1) (ap : Apt D B) (j : J (m + (n1 + n2)) H1) {Q : VK}
    (q : ∀ v d B2 H2, UpX D B H1 B2 H2 → J m H2 → Dt X.K B2 v d → R3 d → Q v H2) : tOp r (WE X a) (WE X b) σ H1 Q :=
  ha (m + n2) H1 l ap (by rw [show m + n2 + n1 = m + (n1 + n2) by omega]; exact j) _ fun x d1 B2 H2 u2 j2 dx r1 => hb.mono u2.b m H2 u2.s (u2.apt C j ap) j2 _ fun y d2 B3 H3 u3 j3 dy r2 =>
    hr B3 H3 (u2.b.trans u3.b) u3.s x y d1 d2 (Dt.le u3.b dx) dy r1 r2 Q fun v d B4 H4 u4 dv r3 => q v d B4 H4 ((u2.trans C j2 u3).trans C j3 (.of u4)) (C.le _ _ _ j3 u4.h) dv r3
theorem ej_op {op : Operator} {r : R2} {pos : Pos} {R3 : PyData → Prop} (C : Cells D J) (o : OpR X (binaryOp op) r) (hr : RJ X.K r B Ra Rb R3) (ha : EJ X D J a σ B n1 Ra) (hb : EJ X D J b σ B n2 Rb) : EJ X D J (.BinOp a op b pos) σ B (n1 + n2) R3 := fun m H1 l ap j Q q =>
  ⟨_, pe_op o pe_w pe_w, twoJ C hr ha hb l ap j q⟩
theorem ej_ix {r : R2} {pos : Pos} {R3 : PyData → Prop} (C : Cells D J) (o : IxR X r) (hr : RJ X.K r B Ra Rb R3) (ha : EJ X D J a σ B n1 Ra) (hb : EJ X D J b σ B n2 Rb) (hp : PlainIx b := by intro _ _; rfl) : EJ X D J (.Subscript a b pos) σ B (n1 + n2) R3 := fun m H1 l ap j Q q =>
  ⟨_, pe_ix o pe_w pe_w hp, twoJ C hr ha hb l ap j q⟩
theorem etj_cmp {op : CmpOp} {r : R2} {pos : Pos} {RB : Bool → Prop} (C : Cells D J) (o : OpR X (compareOp op) r) (hr : RJ X.K r B Ra Rb (fun d => ∃ b, d = .bool b ∧ RB b)) (ha : EJ X D J a σ B n1 Ra) (hb : EJ X D J b σ B n2 Rb) (hm : behindInMarks op b = false := by rfl) : ETJ X D J (.Compare a [op] [b] pos) σ B (n1 + n2) RB := fun m H1 l ap j Q q =>
  ⟨_, pt_cmpR o pe_w pe_w hm, twoJ C hr ha hb l ap j fun v d B2 H2 u jj dv r => by
    obtain ⟨k, rfl, rk⟩ := r
    cases dv
    exact ⟨k, rfl, q k H2 u.h (u.b.trans u.s) jj rk⟩⟩
theorem rj_of {K : PySem.W.Frag} {r : R2} {R3 : PyData → Prop} (h : ∀ d1 d2, Ra d1 → Rb d2 → ∃ d3, RR K r B d1 d2 d3 ∧ R3 d3) : RJ K r B Ra Rb R3 := fun B1 H1 l l1 x y d1 d2 hx hy r1 r2 Q q => by
  obtain ⟨d3, hr, r3⟩ := h d1 d2 r1 r2
  exact hr B1 H1 l l1 x y hx hy Q fun v B2 H2 u dv => q v d3 B2 H2 u dv r3

/-! ### statements -/
variable {Dn : L2.Ends} {H : Hp} {m : Nat}
theorem ws_retJ {pos : Pos} (l : Le B H) (ap : Apt D B) (j : J (m + n) H) (h : EJ X D J e σ B n R) (q : ∀ v d B' H', UpX D B H B' H' → J m H' → Dt X.K B' v d → R d → Dn.rt v H') : WS X (.Return (some e) pos) Dn σ H := ⟨_, ps_ret pe_w, h m H l ap j _ q⟩
theorem ws_setJ {pos pos' : Pos} {i : Nat} {x : Str} (l : Le B H) (ap : Apt D B) (j : J (m + n) H) (h : EJ X D J e σ B n R) (q : ∀ v d B' H', UpX D B H B' H' → J m H' → Dt X.K B' v d → R d → Dn.nx (σ.set i (some v)) H') (nd : X.N.Nodup) (hN : X.N[i]? = some x := by rfl) (hx : L2.Loc X.env.scope x := by first | exact Or.inl rfl | exact Or.inr rfl)
    (hs : swapsWith e (some (.Name x pos')) pos.line X.env = pure false := by rfl) (hf : X.fn x = true ∨ X.env.scope.names.lookup x = some .local := by first | exact Or.inl rfl | exact Or.inr rfl) : WS X (.Assign [.Name x pos'] e pos) Dn σ H :=
  ⟨_, ps_set nd hN hx pe_w hs hf, h m H l ap j _ q⟩
theorem ws_ifJ {pos : Pos} {c : Expr} {sa sb : List Stmt} {RB : Bool → Prop} (l : Le B H) (ap : Apt D B) (j : J (m + n) H) (h : ETJ X D J c σ B n RB) (q : ∀ k H', LeX D H H' → Le B H' → J m H' → RB k → WB X (if k then sa else sb) Dn σ H') : WS X (.If c sa sb pos) Dn σ H :=
  ⟨_, ps_if pt_w pss_w pss_w, h m H l ap j _ fun k H' l1 l2 j2 r => by
    have g := q k H' l1 l2 j2 r
    cases k with
    | true =>
      show (if true = true then WB X sa Dn σ H' else _)
      rw [if_pos rfl]
      exact g
    | false =>
      show (if false = true then _ else WB X sb Dn σ H')
      rw [if_neg Bool.false_ne_true]
      exact g⟩
end

/-! ### defs: the first argument is the thing that changes -/
def spJ (K : PySem.W.Frag) (T : List Addr) (D : List Addr) (J : Nat → Hp → Prop) (dr : V) (k n : Nat) (pre : List PyData → Prop) (R : List PyData → PyData → Prop) : Sp := fun vs H Q _ => ∃ ws B ds m, vs = dr :: ws ∧ ws.length = k ∧ Tbs T H ∧ Le B H ∧ Apt D B ∧ J (m + n) H ∧ Ds K B ws ds ∧ pre ds ∧
  ∀ v d B' H', UpX D B H B' H' → J m H' → Dt K B' v d → R ds d → Q v H'
section
variable {X : Cx} {D : List Addr} {J : Nat → Hp → Prop} {a : Expr} {es : List Expr} {σ : L2.St} {B : Hp} {n1 n : Nat} {T : List Addr} {k lv : Nat} {pre : List PyData → Prop} {R : List PyData → PyData → Prop} {RA : List PyData → Prop} {x y : Str} {ps : List Str} {dr : V}
theorem ej_call {P : Program} {w : World} {K : PySem.W.Frag} {mg : Str → Option Value} {base : Heap} {p p2 pos : Pos} {j i : Nat} (C : Cells D J) (F : Kn P w K mg base lv x ps (spJ K T D J dr k n pre R)) (hr : Room j X.A) (hk : lv ≤ j) (t : Tbs T B) (hσ : σ[i]? = some (some dr))
    (ha : EAJ X D J es σ B n1 RA) (hp : ∀ ds, RA ds → pre ds ∧ ds.length = k) (eP : X.prog = P := by rfl) (ew : X.w = w := by rfl) (eK : X.K = K := by rfl) (em : X.mg = mg := by rfl) (eb : X.base = base := by rfl) (hg : Gl X x := by rfl)
    (hN : X.N[i]? = some y := by rfl) (hv : Vis X.env.scope y := by first | exact Or.inl rfl | exact Or.inr (Or.inl rfl) | exact Or.inr (Or.inr rfl)) (hdy : (y == ("__debug__" : Str)) = false := by decide) (hcy : (y == ("__classdict__" : Str)) = false := by decide)
    (hdb : (x == ("__debug__" : Str)) = false := by decide) (he : starEach (.Name y p2 :: es) X.env = (false, eval (.Name y p2) X.env) :: starEach es X.env := by rfl) (hpl : (backTo pos (starEach es X.env)).any (·.1) = false := by rfl) :
    EJ X D J (.Call (.Name x p) (.Name y p2 :: es) [] pos) σ B (n1 + n) (fun d => ∃ ds, RA ds ∧ R ds d) := fun m H1 l ap jj Q q => by
  subst eP ew eK em eb
  obtain ⟨fa, fd, m1, m2, G, bi⟩ := F.ex
  refine ⟨_, pe_call (E := L2.E0) G (hr.mono hk) hg m1 m2 bi .nil pass0 (pa_cons (pe_var hN hv hdy hcy) pa_w he) hdb he hpl, dr, hσ, ha (m + n) H1 l ap (by rw [show m + n + n1 = m + (n1 + n) by omega]; exact jj) _ fun vs ds B2 H2 u2 j2 dv r => ?_⟩
  simp only [List.append_nil]
  obtain ⟨h1, h2⟩ := hp ds r
  have t2 : Tbs T H2 := fun P hP => ⟨u2.h.tab P ((t.le l) P hP).1, ((t.le l) P hP).2⟩
  exact ⟨vs, B2, ds, m, rfl, by rw [dv.length, h2], t2, u2.s, u2.apt C jj ap, j2, dv, h1, fun v d B3 H3 u3 j3 d3 r3 => q v d B3 H3 (u2.trans C j2 u3) j3 d3 ⟨ds, r, r3⟩⟩
end
theorem fn_draw {P : Program} {w : World} {K : PySem.W.Frag} {mg : Str → Option Value} {base : Heap} {x qual : Str} {st : Stmt} {fa : Addr} {fd : FuncData} {N ps : List Str} {lv k n : Nat} {T D : List Addr} {J : Nat → Hp → Prop} {dr : V} {pre : List PyData → Prop} {R : List PyData → PyData → Prop}
    (hTD : ∀ a ∈ D, a ∉ T) (F : L2.Fun K x qual st fa fd) (S : FnScope N ps (defScope st)) (hn : k + 1 = ps.length)
    (hbody : ∀ (cdv : Value) (A : Around) (outer : List Env) (s : Shared) (H : Hp) (ws : List V) (B : Hp) (ds : List PyData) (m : Nat) (Q : VK) (E : XK), Room lv (A.deeper (envOfC qual (defScope st) s.heap.objs.size fa cdv)) → fd.code = cdv → Tbs T B → Le B H → Apt D B → J (m + n) H → Ds K B ws ds → ws.length = k → pre ds →
      (∀ v d B' H', UpX D B H B' H' → J m H' → Dt K B' v d → R ds d → Q v H') → WB (cxOf CX0 P w K mg base N qual (defScope st) fa cdv A outer s H E).nox (defBody st) { nx := fun _ H' => Q .non H', rt := Q } (start N (dr :: ws)) H) :
    FnOk P w K mg base CX0 (lv + 1) fa fd ps (spJ K T D J dr k n pre R) := by
  obtain ⟨oc, od, kV, doc, pm, an, cdv, ct, osl, rfl, lk, hcd⟩ := F.ex
  refine fn_of lk hcd S (fun vs H Q E h => ?_) fun A outer s H vs Q E hr h => ?_
  · obtain ⟨ws, B, ds, m, rfl, h1, _⟩ := h
    rw [List.length_cons, h1, hn]
  obtain ⟨ws, B, ds, m, rfl, h1, h2, l, ap, j, h3, h4, h5⟩ := h
  have l1 : Le B (fun a => if B a = none ∧ a ∉ T then none else H a) := by
    refine ⟨fun a o q nn => ?_, fun P' tg => ?_, fun a q => ?_⟩
    · show (if B a = none ∧ a ∉ T then none else H a) = some o
      rw [if_neg fun z => by rw [z.1] at q; cases q]
      exact l.keep a o q nn
    · obtain ⟨ps', q, r⟩ := tg
      obtain ⟨ps2, q', r'⟩ := l.tab P' ⟨ps', q, r⟩
      refine ⟨ps2, ?_, r'⟩
      show (if B P' = none ∧ P' ∉ T then none else H P') = _
      rw [if_neg fun z => by rw [z.1] at q; cases q]
      exact q'
    · have q' : (if B a = none ∧ a ∉ T then none else H a) = none := q
      by_cases z : B a = none ∧ a ∉ T
      · exact z.1
      · rw [if_neg z] at q'
        exact l.there a q'
  have l2 : Le (fun a => if B a = none ∧ a ∉ T then none else H a) H := by
    refine ⟨fun a o q nn => ?_, fun P' tg => ?_, fun a q => ?_⟩
    · have q' : (if B a = none ∧ a ∉ T then none else H a) = some o := q
      by_cases z : B a = none ∧ a ∉ T
      · rw [if_pos z] at q'; cases q'
      · rw [if_neg z] at q'; exact q'
    · obtain ⟨ps', q, r⟩ := tg
      have q' : (if B P' = none ∧ P' ∉ T then none else H P') = _ := q
      by_cases z : B P' = none ∧ P' ∉ T
      · rw [if_pos z] at q'; cases q'
      · rw [if_neg z] at q'; exact ⟨ps', q', r⟩
    · show (if B a = none ∧ a ∉ T then none else H a) = none
      rw [q]
      exact ite_self _
  have tB : Tbs T (fun a => if B a = none ∧ a ∉ T then none else H a) := fun P' hP => by
    obtain ⟨⟨ps', q, r⟩, ns⟩ := h2 P' hP
    refine ⟨⟨ps', ?_, r⟩, ns⟩
    show (if B P' = none ∧ P' ∉ T then none else H P') = _
    rw [if_neg fun z => z.2 hP]
    exact q
  have aB : Apt D (fun a => if B a = none ∧ a ∉ T then none else H a) := fun a ha => if_pos ⟨ap a ha, hTD a ha⟩
  obtain ⟨t, t1, t2⟩ := hbody cdv A outer s H ws _ ds m Q E hr rfl tB l2 aB j (Ds.le l1 h3) h1 h4 fun v d B2 H2 u jj dv r => h5 v d B2 H2 ⟨u.h, l1.trans u.b, u.s, fun a h => by
    rcases u.n a h with z | z | z
    · have z' : (if B a = none ∧ a ∉ T then none else H a) ≠ none := z
      by_cases y : B a = none
      · by_cases x : a ∈ T
        · obtain ⟨⟨ps', q, _⟩, ns⟩ := h2 a x
          exact .inr (.inr ⟨⟨ps', q⟩, ns⟩)
        · rw [if_pos ⟨y, x⟩] at z'
          exact absurd rfl z'
      · exact .inl y
    · exact .inr (.inl z)
    · exact .inr (.inr z)⟩ jj dv r
  exact ⟨t, t1.nox, t2⟩
end Tk


set_option Elab.async false
set_option linter.all false
set_option maxRecDepth 100000
set_option maxHeartbeats 1000000
/-! Tk6: for, sums of lists and of tuples, list(..), parts of tuples. -/
namespace Tk
open PySem PySem.Spec PyProof.Rows L2 GxR Gx
variable [LamTab]
section
variable {X : Cx} {tg iter : Expr} {body : List Stmt} {σ : L2.St} {B H : Hp} {ds : List PyData} {D : L2.Ends} {tjs : List Nat} {pat : PyData → Option (List PyData)}
theorem ws_for {pos : Pos} (l : Le B H) (hi : EI X tg iter σ B ds) (hg : EG X tg tjs pat) (hpat : ∀ d ∈ ds, ∃ es, pat d = some es) (hp : PassesOwn (model X.prog X.w) X.A X.env X.xe) (hc : X.calm = true)
    (Inv : Nat → L2.St → Hp → Hp → Prop) (h0 : ∀ B' H', Up B H B' H' → Inv 0 σ B' H')
    (hs : ∀ i d es vs σ' B' H' B'' H'', i < ds.length → ds[i]? = some d → Le B B' → Inv i σ' B' H' → Up B' H' B'' H'' → pat d = some es → Ds X.K B'' vs es →
      ∀ N : L2.St → Hp → Prop, (∀ σ2 B3 H2, Le B'' B3 → Le B3 H2 → Inv (i + 1) σ2 B3 H2 → N σ2 H2) → WB X body { D with nx := N, ct := N, bk := D.nx } (setsS σ' tjs vs) H'')
    (hd : ∀ σ' B' H', Le B B' → Le B' H' → Inv ds.length σ' B' H' → D.nx σ' H')
    (hf : ∀ x, foldedSetIterable iter X.env x = pure x := by intro _; rfl) : WS X (.For tg iter body [] pos) D σ H := by
  refine ⟨_, ps_for hp hc pi_w pg_w pss_w hf, hi H l _ fun J B2 H2 u2 wk => ?_⟩
  refine ⟨fun i m σ' H' => m = ds.length - i ∧ i ≤ ds.length ∧ ∃ B', Le B2 B' ∧ Le B' H' ∧ Inv i σ' B' H', ⟨ds.length, rfl, Nat.zero_le _, B2, Le.refl _, u2.s, h0 B2 H2 u2⟩, ?_⟩
  rintro i m σ' H' ⟨rfl, hi', B', lb, ls, hI⟩
  obtain ⟨w1, w2, w3⟩ := wk B' H' lb ls
  by_cases hlt : i < ds.length
  · refine .inr ⟨w1 i hlt, fun σ2 H2 => ∃ B3, Le B2 B3 ∧ Le B3 H2 ∧ Inv (i + 1) σ2 B3 H2, fun σ2 H2 h => ⟨ds.length - (i + 1), by omega, rfl, hlt, h⟩, fun x H4 hy => ?_⟩
    obtain ⟨B4, d, u4, hd', dx⟩ := w3 i x H4 hlt hy
    obtain ⟨es, hes⟩ := hpat d (List.mem_of_getElem? hd')
    refine hg x d es σ' B4 H4 u4.s dx hes _ fun vs dvs => ?_
    exact hs i d es vs σ' B' H' B4 H4 hlt hd' (u2.b.trans lb) hI u4 hes dvs _ fun σ2 B3 H2 a b c => ⟨B3, (lb.trans u4.b).trans a, b, c⟩
  · have ei : i = ds.length := by omega
    subst ei
    exact .inl ⟨w2, hd σ' B' H' (u2.b.trans lb) ls hI⟩
end
section
variable {X : Cx}
def rCatL (K : PySem.W.Frag) : R2 := fun x y H Q => ∃ l b xs zs, x = .ref l ∧ y = .ref b ∧ SqL K H l xs ∧ SqL K H b zs ∧ xs.length + zs.length ≤ sizeLine ∧ ∀ p, H p = none → Q (.ref p) (upd H p (.lst (xs ++ zs)))
theorem op_catL : OpR X (binaryOp .Add) (rCatL X.K) := by
  intro pins s σ H x y v u Q I rx ry h
  obtain ⟨l, b, xs, zs, rfl, rfl, hH, hB, hz, q⟩ := h
  cases rx
  cases ry
  obtain ⟨its, r, hl, _⟩ := I.list hH
  obtain ⟨its2, r2, hb, _⟩ := I.list hB
  obtain ⟨⟨cls, dd, data, sl⟩, ho, hc, n, hd⟩ := id hl.isList
  obtain ⟨⟨cls2, dd2, data2, sl2⟩, ho2, hc2, n2, hd2⟩ := id hb.isList
  simp only at hc hd hc2 hd2
  subst hc hd hc2 hd2
  have e1 := r.length
  have e2 := r2.length
  have e : its.toArray ++ its2.toArray = (its ++ its2).toArray := by simp
  refine concat_meets ⟨_, ho, rfl⟩ ⟨_, ho2, rfl⟩ noFill_list_add seq_list_add PySem.F.slot_list_add PySem.F.entry_list_add (PySem.F.args_list_add_2 _ _) (list_addW l b its.toArray its2.toArray n n2 dd dd2 sl sl2 (by rw [List.size_toArray, List.size_toArray]; omega)) ⟨ho, ho2, ?_⟩
  rw [e]
  exact ⟨.ref _, _, I.lnew (t' := s.toks) (r.append r2) (by rw [List.length_append]; omega), rfl, q _ I.fresh⟩
variable {K : PySem.W.Frag} {H : Hp} {xs ys : List PyData}
theorem rr_catL (h : xs.length + ys.length ≤ sizeLine) : RR K (rCatL K) H (.list xs) (.list ys) (.list (xs ++ ys)) := fun B H1 l l1 x y hx hy Q q => by
  cases hx with
  | lst s1 t1 h1 =>
    cases hy with
    | lst s2 t2 h2 => exact ⟨_, _, _, _, rfl, rfl, sqL_le l1 s1, sqL_le l1 s2, by rw [h1.length, h2.length]; exact h, fun p hp => q _ _ _ ((Up.refl l1).new hp fun ps z => by cases z) (.new_lst upd_same ((Ds.le (Le.new (l1.there p hp)) h1).append (Ds.le (Le.new (l1.there p hp)) h2)))⟩
theorem rr_catT (h : xs.length + ys.length ≤ sizeLine) : RR K (rCatA K) H (.tuple xs) (.tuple ys) (.tuple (xs ++ ys)) := fun B H1 l l1 x y hx hy Q q => by
  cases hx with
  | tup s1 t1 h1 =>
    cases hy with
    | tup s2 t2 h2 =>
      refine ⟨_, _, _, _, rfl, rfl, sqT_le l1 s1, sqT_le l1 s2, by rw [h1.length, h2.length]; exact h, fun e => ?_, fun _ e => ?_, fun _ _ p hp => q _ _ _ ((Up.refl l1).new hp fun ps z => by cases z) (.new_tup upd_same ((Ds.le (Le.new (l1.there p hp)) h1).append (Ds.le (Le.new (l1.there p hp)) h2)))⟩
      · subst e
        cases h1
        exact q _ B H1 (Up.refl l1) (.tup s2 t2 h2)
      · subst e
        cases h2
        rw [List.append_nil] at q
        exact q _ B H1 (Up.refl l1) (.tup s1 t1 h1)
def rListD (K : PySem.W.Frag) : List V → Hp → VK → Prop := fun xs H Q => ∃ p ys, xs = [V.ref p] ∧ (SqL K H p ys ∨ SqT K H p ys) ∧ ∀ l, H l = none → Q (.ref l) (upd H l (.lst ys))
theorem c_list {X : Cx} : CallR X (.type "list") (rListD X.K) := call_list_of
theorem rc_list : RC1 K (rListD K) H [.tuple xs] (.list xs) := fun B H1 l l1 vs hv Q q => by
  obtain ⟨v, rfl, h⟩ := ds1 hv
  cases h with
  | tup s t h1 => exact ⟨_, _, rfl, .inr (sqT_le l1 s), fun p hp => q _ _ _ ((Up.refl l1).new hp fun ps z => by cases z) (.new_lst upd_same (Ds.le (Le.new (l1.there p hp)) h1))⟩
theorem rc_listL : RC1 K (rListD K) H [.list xs] (.list xs) := fun B H1 l l1 vs hv Q q => by
  obtain ⟨v, rfl, h⟩ := ds1 hv
  cases h with
  | lst s t h1 => exact ⟨_, _, rfl, .inl (sqL_le l1 s), fun p hp => q _ _ _ ((Up.refl l1).new hp fun ps z => by cases z) (.new_lst upd_same (Ds.le (Le.new (l1.there p hp)) h1))⟩
end
section
variable {X : Cx} {e a b : Expr} {es : List Expr} {σ : L2.St} {H : Hp} {xs : List PyData}
theorem ee_list {p pos : Pos} (BL : X.mg "list" = none) (ha : EE X e σ H (.tuple xs)) (hg : Gl X "list" := by rfl) (he : starEach [e] X.env = (false, eval e X.env) :: starEach [] X.env := by rfl) :
    EE X (.Call (.Name "list" p) [e] [] pos) σ H (.list xs) := ee_callTy c_list hg BL boot_list' rc_list (ea_cons ha ea_nil he) (by decide) (by decide) he rfl
/-- parts of a tuple -/
def cutD (xs : List PyData) (lo hi : Option Int) : List PyData := (xs.drop (HT.sIx xs.length 0 lo)).take (HT.sIx xs.length xs.length hi - HT.sIx xs.length 0 lo)
/-- an end of a part: left out, or a number -/
def EO (X : Cx) (e : Option Expr) (σ : L2.St) (B : Hp) (o : Option Int) : Prop := ∀ H1, Le B H1 → ∀ Q : Option Int → Hp → Prop, (∀ H2, Le H1 H2 → Q o H2) → ∃ t, PO X e t ∧ t σ H1 Q
theorem eo_no : EO X none σ H none := fun H1 l Q q => ⟨_, po_none, q H1 (Le.refl _)⟩
theorem eo_some {i : Int} (h : EE X e σ H (.int i)) : EO X (some e) σ H (some i) := fun H1 l Q q => ⟨_, po_some pe_w, h H1 l _ fun v B2 H2 u dv => by
  cases dv
  exact ⟨i, rfl, q H2 u.h⟩⟩
def WO (X : Cx) (e : Option Expr) : TO := fun σ H Q => ∃ t, PO X e t ∧ t σ H Q
theorem po_w {o : Option Expr} : PO X o (WO X o) := ⟨fun pins s σ H Q I ⟨t, h, q⟩ => h.run pins s σ H Q I q⟩
theorem ee_cut {lo hi : Option Expr} {i j : Option Int} {pos p2 : Pos} (ha : EE X e σ H (.tuple xs)) (h1 : EO X lo σ H i) (h2 : EO X hi σ H j) : EE X (.Subscript e (.Slice lo hi none p2) pos) σ H (.tuple (cutD xs i j)) := fun H1 l Q q =>
  ⟨_, pe_slice sl_tupA pe_w po_w po_w, ha H1 l _ fun v B2 H2 u dv => h1 H2 ((u.b.trans u.s)) _ fun H3 l3 => h2 H3 ((u.b.trans u.s).trans l3) _ fun H4 l4 => by
    have u4 := (u.tab l3).tab l4
    cases dv with
    | tup s t h0 =>
      refine ⟨_, _, rfl, sqT_le u4.s s, fun hw => ?_, fun hw p hp => q _ _ _ (u4.new hp fun ps z => by cases z) (.new_tup upd_same ?_)⟩
      · have e2 : cutD xs i j = xs := by
          rw [h0.length] at hw
          unfold cutD
          rw [hw.1, hw.2]
          simp
        rw [e2] at q
        exact q _ B2 H4 u4 (.tup s t h0)
      · unfold cutV cutD
        rw [h0.length]
        exact ((Ds.le (Le.new (u4.s.there p hp)) h0).drop _).take _⟩
theorem cutD_take {xs : List PyData} {n : Nat} (h : n ≤ xs.length) : cutD xs none (some (n : Int)) = xs.take n := by
  unfold cutD
  rw [HT.sIx_none, HT.sIx_nat, Nat.min_eq_left h]
  simp
theorem cutD_drop {xs : List PyData} {n : Nat} (h : n ≤ xs.length) : cutD xs (some (n : Int)) none = xs.drop n := by
  unfold cutD
  rw [HT.sIx_none, HT.sIx_nat, Nat.min_eq_left h]
  exact List.take_of_length_le (by rw [List.length_drop]; omega)
theorem cutD_mid {xs : List PyData} {n m : Nat} : cutD xs (some (n : Int)) (some (m : Int)) = (xs.drop (min n xs.length)).take (min m xs.length - min n xs.length) := by
  unfold cutD
  rw [HT.sIx_nat, HT.sIx_nat]
end
end Tk


set_option Elab.async false
set_option linter.all false
set_option maxRecDepth 100000
set_option maxHeartbeats 2000000
namespace K0
open PySem PySem.Spec PyProof.Rows L2 GxR Tk
variable [LamTab]
section
variable {P : Program} {w : World} {K : PySem.W.Frag} {mg : Str → Option Value} {base : Heap} {f : Addr} {fd : FuncData} {T : List Addr} {c Pt : Addr}

/-- one name more in a letter -/
def plusN (x : PyData) : PyData → PyData
  | .tuple ys => .tuple (ys ++ [x])
  | _ => .none
def lawLet : List PyData → List PyData → List PyData
  | acc, [] => acc
  | acc, x :: xs => lawLet (acc ++ (acc.filter fun _ => true).map (plusN x)) xs
def lawLetF : List PyData → PyData
  | [.tuple xs] => .list (lawLet [.tuple []] xs)
  | _ => .none
theorem take_succ_foldl {acc : List PyData} : ∀ {xs : List PyData} {i : Nat} {x : PyData}, xs[i]? = some x → lawLet acc (xs.take (i + 1)) = lawLet acc (xs.take i) ++ ((lawLet acc (xs.take i)).filter fun _ => true).map (plusN x)
  | y :: xs, 0, x, h => by cases h; rfl
  | y :: xs, i + 1, x, h => by
    rw [List.take_succ_cons, List.take_succ_cons]
    exact take_succ_foldl (acc := acc ++ (acc.filter fun _ => true).map (plusN y)) (xs := xs) (i := i) h
theorem lawLet_len : ∀ {xs acc : List PyData}, (lawLet acc xs).length = acc.length * 2 ^ xs.length
  | [], acc => by simp [lawLet]
  | x :: xs, acc => by
    show (lawLet _ xs).length = _
    have e : (acc.filter fun _ => true) = acc := List.filter_eq_self.mpr fun _ _ => rfl
    rw [lawLet_len, List.length_append, List.length_map, List.length_cons, Nat.pow_succ, e, Nat.mul_comm (2 ^ xs.length) 2, ← Nat.mul_assoc]
    congr 1
    omega
/-- tuples of at most n -/
def tupsN (n : Nat) (ds : List PyData) : Prop := ∀ d ∈ ds, ∃ ys, d = .tuple ys ∧ ys.length ≤ n
theorem lawLet_tups : ∀ {xs acc : List PyData} {n : Nat}, tupsN n acc → tupsN (n + xs.length) (lawLet acc xs)
  | [], acc, n, h => h
  | x :: xs, acc, n, h => by
    have h2 : tupsN (n + 1) (acc ++ (acc.filter fun _ => true).map (plusN x)) := fun d hd => by
      rcases List.mem_append.mp hd with z | z
      · obtain ⟨ys, e, k⟩ := h d z
        exact ⟨ys, e, by omega⟩
      · obtain ⟨y, hy, rfl⟩ := List.mem_map.mp z
        obtain ⟨ys, e, k⟩ := h y (List.mem_filter.mp hy).1
        subst e
        exact ⟨ys ++ [x], rfl, by rw [List.length_append, List.length_cons, List.length_nil]; omega⟩
    have := lawLet_tups (xs := xs) h2
    rw [List.length_cons]
    have e : n + (xs.length + 1) = n + 1 + xs.length := by omega
    rw [e]
    exact this
def lettersL (xs : List PyData) : List PyData := lawLet [.tuple []] xs
def letOfF : List PyData → PyData
  | [.tuple xs] => .tuple (lettersL xs)
  | _ => .none
def letOfP (ds : List PyData) : Prop := ∃ xs, ds = [.tuple xs] ∧ xs.length ≤ 3
theorem scLetOf : FnScope ["scope", "told", "name", "letter"] ["scope"] (defScope sLetOf) := ⟨rfl, rfl, rfl, by decide +kernel, rfl, by decide +kernel, by decide +kernel⟩
theorem ndLetOf : List.Nodup (["scope", "told", "name", "letter"] : List Str) := by decide +kernel
theorem ok_letOf (BL : Blt mg) (F : L2.Fun K "letters_of" "letters_of" sLetOf f fd) : FnOk P w K mg base CX0 2 f fd ["scope"] (spF K T 1 letOfP letOfF) := by
  refine fn_pure F scLetOf rfl fun cdv A outer s H vs B ds Q E hr hcd t l hd hl hp q => ?_
  obtain ⟨xs, rfl, hn⟩ := hp
  obtain ⟨v1, rfl, h1⟩ := ds1 hd
  refine wb_cons (ws_set (i := 1) (d := .list [.tuple []]) l (ee_lst (ea_cons (ee_tup ea_nil (by decide)) ea_nil) (by decide)) (fun v2 B2 H2 u2 d2 => ?_) ndLetOf)
  refine wb_cons (ws_for (tjs := [2]) (pat := patN) u2.s (ei_tup (ee_var (i := 0) rfl (Dt.le u2.b h1))) (eg_name ndLetOf) (fun d hd => ⟨[d], rfl⟩) PassesOwn.never rfl
    (fun i σ' B' H' => Up B H B' H' ∧ ∃ vf a, σ' = [some v1, some vf, a, none] ∧ Dt K B' vf (.list (lawLet [.tuple []] (xs.take i)))) (fun B' H' u => ⟨u2.trans u, v2, none, rfl, Dt.le u.b d2⟩) (fun i d es vs σ' B' H' B'' H'' hi hd' lb hI u4 he dvs N hN => ?_) fun σ' B' H' lb ls hI => ?_)
  · obtain ⟨u', vf, a, rfl, df⟩ := hI
    cases he
    obtain ⟨x, rfl, hx⟩ := ds1 (K := K) dvs
    have df' := Dt.le u4.b df
    have t0 : tupsN 3 (lawLet [.tuple []] (xs.take i)) := by
      have := lawLet_tups (xs := xs.take i) (acc := [.tuple []]) (n := 0) fun d hd => by
        rw [List.mem_singleton] at hd
        exact ⟨[], hd, Nat.le_refl _⟩
      intro d hd
      obtain ⟨ys, e, k⟩ := this d hd
      have := List.length_take_le i xs
      exact ⟨ys, e, by omega⟩
    have len : (lawLet [.tuple []] (xs.take i)).length ≤ 8 := by
      rw [lawLet_len]
      have : (xs.take i).length ≤ 3 := Nat.le_trans (List.length_take_le i xs) (by omega)
      have : 2 ^ (xs.take i).length ≤ 2 ^ 3 := Nat.pow_le_pow_right (by decide) this
      simp only [List.length_cons, List.length_nil]
      omega
    refine wb_one (ws_set (i := 1) (d := .list (lawLet [.tuple []] (xs.take (i + 1)))) u4.s ?_ (fun v3 B3 H3 u3 d3 => hN _ B3 H3 u3.b u3.s ⟨(u'.trans u4).trans u3, v3, _, rfl, d3⟩) ndLetOf)
    rw [take_succ_foldl hd']
    refine ee_op op_catL (rr_catL (by
      rw [List.length_map]
      have := List.length_filter_le (fun _ => true) (lawLet [.tuple []] (xs.take i))
      have : (lawLet [.tuple []] (xs.take i)).length + (List.filter (fun _ => true) (lawLet [.tuple []] (xs.take i))).length ≤ 16 := by omega
      exact Nat.le_trans this (by decide))) (ee_var (i := 1) rfl df') ?_
    refine ee_lc (own := [("letter", 3)]) (tjs := [3]) (pat := patN) (fun _ => true) (plusN d) rfl ndLetOf (ei_lst (ee_var (i := 1) rfl df'))
      (blkOk_by (show blkC ["scope", "told", "name", "letter"] (defScope sLetOf) _ [("letter", 3)] = true by decide +kernel))
      (fun s H C cl fp => eg_name ndLetOf) (fun d hd => ⟨[d], rfl, rfl⟩) (fun vs hv => ?_) (fun B' d es vs lb hd he hv s H C cl fp => ets_nil) (fun B' d' es vs lb hd hb he hv s H C cl fp => ?_) (Nat.lt_of_le_of_lt len (by decide))
    · match vs, hv with
      | [a], _ => rfl
    · cases he
      obtain ⟨y, rfl, hy⟩ := ds1 (K := K) hv
      obtain ⟨ys, rfl, hk⟩ := t0 d' hd
      exact ee_op op_catA (rr_catT (by rw [List.length_cons, List.length_nil]; exact Nat.le_trans (show ys.length + (0 + 1) ≤ 4 by omega) (by decide))) (ee_var (i := 3) rfl hy) (ee_tup (ea_cons (ee_var (i := 2) rfl (Dt.le lb hx)) ea_nil) (by show 1 ≤ sizeLine; decide))
  · obtain ⟨u', vf, a, rfl, df⟩ := hI
    rw [List.take_length] at df
    exact wb_one (ws_ret (d := .tuple (lawLet [.tuple []] xs)) ls (ee_tuple BL (ee_var (i := 1) rfl df)) fun v B3 H3 u3 d3 => q v B3 H3 (u'.trans u3) d3)
/-! ### nodes -/
def strTup : PyData → Bool
  | .tuple ns => ns.all isStr
  | _ => false
def nodeB (d : PyData) (ks : List PyData) (m : Int) : Bool := rowB d 3 3 && match d with
  | .tuple [l, a, b] => strTup l && ((ks.any fun z => PyData.eqv z l) && (numB a m && numB b m))
  | _ => false
def nodeF : List PyData → PyData
  | [d, .tuple ks, .int m] => .bool (nodeB d ks m)
  | _ => .none
def nodeP (ds : List PyData) : Prop := ∃ d ks m, ds = [d, .tuple ks, .int m] ∧ okD d = true ∧ noDicts ks = true ∧ SeqAt.shaped (.tuple ks) = true
theorem scNode : FnScope ["thing", "known", "many", "letter", "left", "right", "name"] ["thing", "known", "many"] (defScope sNode) := ⟨rfl, rfl, rfl, by decide +kernel, rfl, by decide +kernel, by decide +kernel⟩
theorem ndNode : List.Nodup (["thing", "known", "many", "letter", "left", "right", "name"] : List Str) := by decide +kernel
theorem three {xs : List PyData} (h : (3 : Int) ≤ (xs.length : Int)) (k : (xs.length : Int) ≤ 3) : ∃ a b c, xs = [a, b, c] := by
  match xs with
  | [a, b, c] => exact ⟨a, b, c, rfl⟩
  | [] => exact absurd h (by decide)
  | [_] => simp only [List.length_cons, List.length_nil] at h; omega
  | [_, _] => simp only [List.length_cons, List.length_nil] at h; omega
  | _ :: _ :: _ :: _ :: r =>
    simp only [List.length_cons] at k
    omega
theorem nodeB_big {d : PyData} {ks : List PyData} {m : Int} (h : ∀ a b c, d ≠ .tuple [a, b, c]) : nodeB d ks m = false := by
  unfold nodeB
  cases e : rowB d 3 3 with
  | false => rfl
  | true =>
    obtain ⟨xs, rfl, h1, h2⟩ := row_tup e
    obtain ⟨a, b, c, rfl⟩ := three h1 h2
    exact absurd rfl (h a b c)
theorem ok_node (BL : Blt mg) (Fnum : Kn P w K mg base 1 "is_number" ["thing", "limit"] (spF K T 2 numP numF))
    (F : L2.Fun K "is_node" "is_node" sNode f fd) : FnOk P w K mg base CX0 2 f fd ["thing", "known", "many"] (spF K T 3 nodeP nodeF) := by
  refine fn_pure F scNode rfl fun cdv A outer s H vs B ds Q E hr hcd t l hd hl hp q => ?_
  obtain ⟨d, ks, m, rfl, hok, hks1, hks2⟩ := hp
  obtain ⟨v1, v2, v3, rfl, h1, h2, h3⟩ := ds3 hd
  cases h3
  have no : ∀ {B' H' H'' : Hp} {v : V}, (∀ a b c, d ≠ .tuple [a, b, c]) → Le H H' → Up B H' B' H'' → Dt K B' v (.bool false) → Q v H'' := fun hx l' u dv => q _ _ _ ((Up.le l l').trans u) (by
    show Dt K _ _ (.bool (nodeB d ks m))
    rw [nodeB_big hx]
    exact dv)
  cases ht : isTup d with
  | false =>
    refine wb_cons (ws_if (k := true) l (et_w (ew_or (p := true) (q := true) ((et_not (et_val (ee_isTup BL (ee_var (i := 0) rfl h1)))).cast (by rw [ht]; rfl)) fun e => by cases e)) (fun _ H' l' => ?_) fun e => by cases e)
    exact wb_one (ws_ret (d := .bool false) (l.trans l') ee_bl fun v B' H'' u dv => no (fun a b c e => by subst e; cases ht) l' u dv)
  | true =>
    cases d with
    | tuple xs =>
      refine wb_cons (ws_if (k := !decide ((xs.length : Int) = 3)) l (et_w (ew_or (p := false) ((et_not (et_val (ee_isTup BL (ee_var (i := 0) rfl h1)))).cast rfl) fun _ => ew_one2 (et_cmp op_ne rr_neI (ee_len BL (ee_var (i := 0) rfl h1) rfl fun x z => by cases z) ee_int))) (fun e H' l' => ?_) fun e H' l' => ?_)
      · refine wb_one (ws_ret (d := .bool false) (l.trans l') ee_bl fun v B' H'' u dv => no (fun a b c z => ?_) l' u dv)
        cases z
        cases e
      have e' : (xs.length : Int) = 3 := by
        by_cases z : (xs.length : Int) = 3
        · exact z
        · rw [decide_eq_false z] at e; cases e
      obtain ⟨la, lb, lc, rfl⟩ := three (xs := xs) (by omega) (by omega)
      have hoks := (okD_tup hok).2
      have hokl : okD la = true := okDs_mem hoks List.mem_cons_self
      have l1 := l.trans l'
      refine wb_nil (wb_cons (ws_tgt (tjs := [3, 4, 5]) (pat := patT 3) (es := [la, lb, lc]) l1 (ee_var (i := 0) rfl h1) (eg_tup rfl (st_cons (st_cons (st_cons st_nil ndNode) ndNode) ndNode)) rfl fun us B2 H2 u2 dus => ?_))
      obtain ⟨ua, ub, uc, rfl, ha, hb, hcc⟩ := ds3 (K := K) dus
      have t2 := t.le u2.b
      have g2 := Dt.le u2.b h2
      have fin : ∀ (k : Bool), nodeF [.tuple [la, lb, lc], .tuple ks, .int m] = .bool k → ∀ v B' H', Up B2 H2 B' H' → Dt K B' v (.bool k) → Q v H' := fun k hk v B' H' u dv => q v B' H' (((Up.le l l').trans u2).trans u) (by rw [hk]; exact dv)
      have whole : nodeF [.tuple [la, lb, lc], .tuple ks, .int m] = .bool (strTup la && ((ks.any fun z => PyData.eqv z la) && (numB lb m && numB lc m))) := rfl
      cases hla : isTup la with
      | false =>
        refine wb_cons (ws_if (k := true) u2.s ((et_not (et_val (ee_isTup BL (ee_var (i := 3) rfl ha)))).cast (by rw [hla]; rfl)) (fun _ H3 l3 => ?_) fun e => by cases e)
        refine wb_one (ws_ret (d := .bool false) (u2.s.trans l3) ee_bl fun v B' H'' u dv => fin false ?_ v B' H'' ((Up.le u2.s l3).trans u) dv)
        rw [whole]
        cases la <;> first | rfl | cases hla
      | true =>
        cases la with
        | tuple ns =>
          have hokn := okD_tup hokl
          refine wb_cons (ws_if (k := false) u2.s ((et_not (et_val (ee_isTup BL (ee_var (i := 3) rfl ha)))).cast rfl) (fun e => by cases e) fun _ H3 l3 => ?_)
          have s3 := u2.s.trans l3
          refine wb_nil (wb_cons (ws_for (B := B2) (ds := ns) (tjs := [6]) (pat := patN) s3 (ei_tup (ee_var (i := 3) rfl ha)) (eg_name ndNode) (fun d hd => ⟨[d], rfl⟩) PassesOwn.never rfl
            (fun i σ' B' H' => Up B2 H3 B' H' ∧ (∃ a, σ' = [some v1, some v2, some (.int m), some ua, some ub, some uc, a]) ∧ (ns.take i).all isStr = true) (fun B' H' u => ⟨u, ⟨none, rfl⟩, rfl⟩) (fun i d es vs σ' B' H' B'' H'' hi hd' lb' hI u4 he dvs N hN => ?_) fun σ' B' H' lb' ls hI => ?_))
          · obtain ⟨u', ⟨a, rfl⟩, hI⟩ := hI
            cases he
            obtain ⟨x, rfl, hx⟩ := ds1 (K := K) dvs
            refine wb_one (ws_if (k := !isStr d) u4.s (et_not (et_val (ee_isStr BL (ee_var (i := 6) rfl hx)))) (fun e H5 l5 => ?_) fun e H5 l5 => ?_)
            · have e3 : ns.all isStr = false := by
                cases h : ns.all isStr with
                | false => rfl
                | true => rw [List.all_eq_true.mp h d (List.mem_of_getElem? hd')] at e; cases e
              refine wb_one (ws_ret (d := .bool false) (u4.s.trans l5) ee_bl fun v B6 H6 u6 dv => fin false ?_ v B6 H6 ((Up.le u2.s l3).trans ((u'.trans u4).trans ((Up.le u4.s l5).trans u6))) dv)
              rw [whole]
              show PyData.bool (ns.all isStr && _) = _
              rw [e3]
              rfl
            · refine wb_nil (hN _ B'' H5 (Le.refl _) (u4.s.trans l5) ⟨(u'.trans u4).trans (Up.le u4.s l5), ⟨_, rfl⟩, ?_⟩)
              have e4 : isStr d = true := by cases h : isStr d with | true => rfl | false => rw [h] at e; cases e
              rw [List.take_add_one, hd', List.all_append, hI]
              show (true && (isStr d && true)) = true
              rw [e4]
              rfl
          · obtain ⟨u', ⟨a, rfl⟩, e3⟩ := hI
            rw [List.take_length] at e3
            obtain ⟨n1, n2, _⟩ := tupF_shaped (fun x hx => str_flat (List.all_eq_true.mp e3 x hx)) hokl
            refine wb_one (ws_ret (d := .bool ((ks.any fun z => PyData.eqv z (.tuple ns)) && (numB lb m && numB lc m))) ls ?_ fun v B5 H5 u5 dv => fin _ ?_ v B5 H5 ((Up.le u2.s l3).trans (u'.trans u5)) dv)
            · refine ee_and (ee_cmp (o_inT (hu65 hr)) (rr_inT n1 hks1 n2 hks2) (ee_var (i := 3) rfl (Dt.le lb' ha)) (ee_var (i := 1) rfl (Dt.le lb' g2))) fun _ => ?_
              refine ee_and (p := numB lb m) (ee_call Fnum hr (by decide) (t2.le lb') (ea_cons (ee_var (i := 4) rfl (Dt.le lb' hb)) (ea_cons (ee_var (i := 2) rfl (.int m)) ea_nil)) ⟨lb, m, rfl⟩) fun _ => ?_
              exact ee_one (ee_call Fnum hr (by decide) (t2.le lb') (ea_cons (ee_var (i := 5) rfl (Dt.le lb' hcc)) (ea_cons (ee_var (i := 2) rfl (.int m)) ea_nil)) ⟨lc, m, rfl⟩)
            · rw [whole]
              show PyData.bool (ns.all isStr && _) = _
              rw [e3]
              rfl
        | _ => cases hla
    | _ => cases ht
end
end K0


set_option Elab.async false
set_option linter.all false
set_option maxRecDepth 100000
set_option maxHeartbeats 2000000
namespace K0
open PySem PySem.Spec PyProof.Rows L2 GxR Tk
variable [LamTab]
section
variable {P : Program} {w : World} {K : PySem.W.Frag} {mg : Str → Option Value} {base : Heap} {f : Addr} {fd : FuncData} {T : List Addr} {c Pt : Addr}

theorem lawLet_all {Pr : PyData → Prop} : ∀ {xs acc : List PyData}, (∀ d ∈ acc, Pr d) → (∀ x ∈ xs, ∀ d, Pr d → Pr (plusN x d)) → ∀ d ∈ lawLet acc xs, Pr d
  | [], acc, h, _, d, hd => h d hd
  | x :: xs, acc, h, hp, d, hd => lawLet_all (xs := xs) (fun e he => by
    rcases List.mem_append.mp he with z | z
    · exact h e z
    · obtain ⟨y, hy, rfl⟩ := List.mem_map.mp z
      exact hp x List.mem_cons_self y (h y (List.mem_filter.mp hy).1)) (fun y hy => hp y (List.mem_cons_of_mem _ hy)) d hd
/-- a letter: a tuple of some names of the scope -/
theorem mem_lettersL {xs : List PyData} {d : PyData} (h3 : xs.length ≤ 3) (h : d ∈ lettersL xs) : ∃ ys, d = .tuple ys ∧ ys.length ≤ 3 ∧ ∀ y ∈ ys, y ∈ xs := by
  have a := lawLet_all (Pr := fun d => ∃ ys, d = .tuple ys ∧ ∀ y ∈ ys, y ∈ xs) (xs := xs) (acc := [.tuple []]) (fun d hd => by
    rw [List.mem_singleton] at hd
    exact ⟨[], hd, fun y hy => by cases hy⟩) (fun x hx d ⟨ys, e, k⟩ => by
    subst e
    refine ⟨ys ++ [x], rfl, fun y hy => ?_⟩
    rcases List.mem_append.mp hy with z | z
    · exact k y z
    · rw [List.mem_singleton.mp z]; exact hx) d h
  have b := lawLet_tups (xs := xs) (acc := [.tuple []]) (n := 0) (fun d hd => by
    rw [List.mem_singleton] at hd
    exact ⟨[], hd, Nat.le_refl _⟩) d h
  obtain ⟨ys, rfl, k⟩ := a
  obtain ⟨zs, e, k2⟩ := b
  cases e
  exact ⟨ys, rfl, by omega, k⟩
theorem lettersL_len {xs : List PyData} (h : xs.length ≤ 3) : (lettersL xs).length ≤ 8 := by
  unfold lettersL
  rw [lawLet_len]
  have : 2 ^ xs.length ≤ 2 ^ 3 := Nat.pow_le_pow_right (by decide) h
  simp only [List.length_cons, List.length_nil]
  omega
theorem letters_shaped {ns : List PyData} (h3 : ns.length ≤ 3) (hs : ∀ x ∈ ns, isStr x = true) (hk : ∀ x ∈ ns, okD x = true) : noDicts (lettersL ns) = true ∧ SeqAt.shaped (.tuple (lettersL ns)) = true := by
  have each : ∀ d ∈ lettersL ns, okD d = true ∧ noDict d = true ∧ d.depth ≤ 1 := fun d hd => by
    obtain ⟨ys, rfl, hl, hy'⟩ := mem_lettersL h3 hd
    have k : okD (.tuple ys) = true := by
      show (decide (ys.length ≤ 100000) && okDs ys) = true
      rw [decide_eq_true (show ys.length ≤ 100000 by omega), okDs_of fun y hy => hk y (hy' y hy)]
      rfl
    obtain ⟨a, _, b⟩ := tupF_shaped (fun y hy => str_flat (hs y (hy' y hy))) k
    exact ⟨k, a, b⟩
  refine tupT_shaped (fun d hd => (each d hd).2) ?_
  show (decide ((lettersL ns).length ≤ 100000) && okDs (lettersL ns)) = true
  rw [decide_eq_true (show (lettersL ns).length ≤ 100000 by have := lettersL_len h3; omega), okDs_of fun d hd => (each d hd).1]
  rfl

/-! ### woods -/
def nodesB : PyData → PyData → Bool
  | .tuple ns, .tuple xs => xs.all fun r => nodeB r (lettersL ns) (xs.length : Int)
  | _, _ => false
def woodB (d : PyData) : Bool := headB d "wood" 3 && match d with
  | .tuple [_, sc, rs] => scopeB sc && (rowB rs 1 400 && nodesB sc rs)
  | _ => false
def woodF : List PyData → PyData
  | [d] => .bool (woodB d)
  | _ => .none
theorem wood_eq (a sc rs : PyData) : woodB (.tuple [a, sc, rs]) = (headB (.tuple [a, sc, rs]) "wood" 3 && (scopeB sc && (rowB rs 1 400 && nodesB sc rs))) := rfl
theorem scWood : FnScope ["thing", "rows", "known", "row"] ["thing"] (defScope sWood) := ⟨rfl, rfl, rfl, by decide +kernel, rfl, by decide +kernel, by decide +kernel⟩
theorem ndWood : List.Nodup (["thing", "rows", "known", "row"] : List Str) := by decide +kernel
theorem head_three {d : PyData} (h : headB d "wood" 3 = true) : ∃ a b c, d = .tuple [a, b, c] := by
  cases d with
  | tuple xs =>
    have h' := (Bool.and_eq_true _ _).mp h
    have h2 := (Bool.and_eq_true _ _).mp h'.2
    have e : (xs.length : Int) = 3 := of_decide_eq_true h2.1
    obtain ⟨a, b, c, rfl⟩ := three (xs := xs) (by omega) (by omega)
    exact ⟨a, b, c, rfl⟩
  | _ => cases h
theorem scope_tup {d : PyData} (h : scopeB d = true) : ∃ ns, d = .tuple ns ∧ ns.length ≤ 3 ∧ ∀ x ∈ ns, isStr x = true := by
  have h' := (Bool.and_eq_true _ _).mp h
  obtain ⟨ns, rfl, _, h2⟩ := row_tup h'.1
  have h3 := (Bool.and_eq_true _ _).mp h'.2
  exact ⟨ns, rfl, by omega, fun x hx => name_str (List.all_eq_true.mp h3.1 x hx)⟩
theorem ok_wood (BL : Blt mg) (hmost : ∃ t, mg "MOST_NODES" = some (.int 400 t)) (Frow : Kn P w K mg base 1 "is_row" ["thing", "least", "most"] (spF K T 3 rowP rowF)) (Fhead : Kn P w K mg base 1 "is_headed" ["thing", "word", "size"] (spF K T 3 headP headF))
    (Fscope : Kn P w K mg base 4 "is_scope" ["thing"] (spF K T 1 nameP scopeF)) (Flet : Kn P w K mg base 2 "letters_of" ["scope"] (spF K T 1 letOfP letOfF)) (Fnode : Kn P w K mg base 2 "is_node" ["thing", "known", "many"] (spF K T 3 nodeP nodeF))
    (F : L2.Fun K "is_wood" "is_wood" sWood f fd) : FnOk P w K mg base CX0 5 f fd ["thing"] (spF K T 1 nameP woodF) := by
  refine fn_pure F scWood rfl fun cdv A outer s H vs B ds Q E hr hcd t l hd hl hp q => ?_
  obtain ⟨d, rfl, hok⟩ := hp
  obtain ⟨v1, rfl, h1⟩ := ds1 hd
  obtain ⟨tm, hm⟩ := hmost
  have no : ∀ {H2 H' H'' B' : Hp} {v : V}, Le H H' → Up B H' B' H'' → Dt K B' v (.bool false) → woodB d = false → Q v H'' := fun l' u dv e => q _ _ _ ((Up.le l l').trans u) (by show Dt K _ _ (.bool (woodB d)); rw [e]; exact dv)
  cases eh : headB d "wood" 3 with
  | false =>
    refine wb_cons (ws_if (k := true) l (et_w (ew_or (p := true) (q := true) ((et_not (et_val (ee_call Fhead hr (by decide) t (ea_cons (ee_var (i := 0) rfl h1) (ea_cons ee_str (ea_cons ee_int ea_nil))) ⟨d, _, _, rfl, by decide⟩ (d := .bool (headB d "wood" 3))))).cast (by rw [eh]; rfl)) fun e => by cases e)) (fun _ H' l' => ?_) fun e => by cases e)
    refine wb_one (ws_ret (d := .bool false) (l.trans l') ee_bl fun v B' H'' u dv => no (H2 := H) l' u dv ?_)
    unfold woodB
    rw [eh]
    rfl
  | true =>
    obtain ⟨a0, sc, rs, rfl⟩ := head_three eh
    have hoks := (okD_tup hok).2
    have hoksc : okD sc = true := okDs_mem hoks (by simp)
    have hokrs : okD rs = true := okDs_mem hoks (by simp)
    refine wb_cons (ws_if (k := !scopeB sc) l (et_w (ew_or (p := false) ((et_not (et_val (ee_call Fhead hr (by decide) t (ea_cons (ee_var (i := 0) rfl h1) (ea_cons ee_str (ea_cons ee_int ea_nil))) ⟨_, _, _, rfl, by decide⟩ (d := .bool (headB (.tuple [a0, sc, rs]) "wood" 3))))).cast (by rw [eh]; rfl)) fun _ =>
      ew_one2 (et_not (et_val (ee_call Fscope hr (by decide) t (ea_cons (ee_ix ix_tup (rr_ixT at1) (ee_var (i := 0) rfl h1) ee_int) ea_nil) ⟨sc, rfl, hoksc⟩))))) (fun e H' l' => ?_) fun e H' l' => ?_)
    · refine wb_one (ws_ret (d := .bool false) (l.trans l') ee_bl fun v B' H'' u dv => no (H2 := H) l' u dv ?_)
      have e2 : scopeB sc = false := by cases h : scopeB sc with | false => rfl | true => rw [h] at e; cases e
      rw [wood_eq, eh, e2]
      rfl
    have e2 : scopeB sc = true := by cases h : scopeB sc with | true => rfl | false => rw [h] at e; cases e
    obtain ⟨ns, rfl, hns, hstr⟩ := scope_tup e2
    obtain ⟨sh1, sh2⟩ := letters_shaped hns hstr fun x hx => okDs_mem (okD_tup hoksc).2 hx
    refine wb_nil (wb_cons (ws_set (i := 1) (l.trans l') (ee_ix ix_tup (rr_ixT at2) (ee_var (i := 0) rfl h1) ee_int) (fun v2 B2 H2 u2 d2 => ?_) ndWood))
    have d2 : Dt K B2 v2 rs := d2
    have t2 := t.le u2.b
    have k1 := Dt.le u2.b h1
    refine wb_cons (ws_if (k := !rowB rs 1 400) u2.s (et_not (et_val (ee_call Frow hr (by decide) t2 (ea_cons (ee_var (i := 1) rfl d2) (ea_cons ee_int (ea_cons (ee_globD (v := .int 400) hm ⟨tm, rfl⟩ fun _ => .int 400) ea_nil))) ⟨rs, 1, 400, rfl⟩))) (fun e H3 l3 => ?_) fun e H3 l3 => ?_)
    · refine wb_one (ws_ret (d := .bool false) (u2.s.trans l3) ee_bl fun v B' H'' u dv => q v B' H'' (((Up.le l l').trans u2).trans ((Up.le u2.s l3).trans u)) ?_)
      have e3 : rowB rs 1 400 = false := by cases h : rowB rs 1 400 with | false => rfl | true => rw [h] at e; cases e
      have e4 : woodB (.tuple [a0, .tuple ns, rs]) = false := by
        rw [wood_eq, eh, e2, e3]
        rfl
      show Dt K B' v (.bool (woodB (.tuple [a0, .tuple ns, rs])))
      rw [e4]
      exact dv
    have e3 : rowB rs 1 400 = true := by cases h : rowB rs 1 400 with | true => rfl | false => rw [h] at e; cases e
    obtain ⟨xs, rfl, _, hxs⟩ := row_tup e3
    refine wb_nil (wb_cons (ws_set (i := 2) (d := .tuple (lettersL ns)) (u2.s.trans l3) (ee_call Flet hr (by decide) t2 (ea_cons (ee_ix ix_tup (rr_ixT at1) (ee_var (i := 0) rfl k1) ee_int) ea_nil) ⟨ns, rfl, hns⟩) (fun v3 B3 H4 u3 d3 => ?_) ndWood))
    have d3 : Dt K B3 v3 (.tuple (lettersL ns)) := d3
    have t3 := t2.le u3.b
    have d2' := Dt.le u3.b d2
    have fin : ∀ (k : Bool), nodesB (.tuple ns) (.tuple xs) = k → ∀ v B' H', Up B3 H4 B' H' → Dt K B' v (.bool k) → Q v H' := fun k hk v B' H' u dv => q v B' H' ((((Up.le l l').trans u2).trans ((Up.le u2.s l3).trans u3)).trans u) (by
      have e4 : woodB (.tuple [a0, .tuple ns, .tuple xs]) = k := by
        rw [wood_eq, eh, e2, e3, hk]
        rfl
      show Dt K B' v (.bool (woodB (.tuple [a0, .tuple ns, .tuple xs])))
      rw [e4]
      exact dv)
    refine wb_cons (ws_for (B := B3) (ds := xs) (tjs := [3]) (pat := patN) u3.s (ei_tup (ee_var (i := 1) rfl d2')) (eg_name ndWood) (fun d hd => ⟨[d], rfl⟩) PassesOwn.never rfl
      (fun i σ' B' H' => Up B3 H4 B' H' ∧ (∃ a, σ' = [some v1, some v2, some v3, a]) ∧ (xs.take i).all (fun r => nodeB r (lettersL ns) (xs.length : Int)) = true) (fun B' H' u => ⟨u, ⟨none, rfl⟩, rfl⟩) (fun i d es vs σ' B' H' B'' H'' hi hd' lb' hI u4 he dvs N hN => ?_) fun σ' B' H' lb' ls hI => ?_)
    · obtain ⟨u', ⟨a, rfl⟩, hI⟩ := hI
      cases he
      obtain ⟨x, rfl, hx⟩ := ds1 (K := K) dvs
      have lB := u'.b.trans u4.b
      refine wb_one (ws_if (k := !nodeB d (lettersL ns) (xs.length : Int)) u4.s (et_not (et_val (ee_call Fnode hr (by decide) (t3.le lB) (ea_cons (ee_var (i := 3) rfl hx) (ea_cons (ee_var (i := 2) rfl (Dt.le lB d3)) (ea_cons (ee_len BL (ee_var (i := 1) rfl (Dt.le lB d2')) rfl fun x z => by cases z) ea_nil))) ⟨d, _, _, rfl, okDs_mem (okD_tup hokrs).2 (List.mem_of_getElem? hd'), sh1, sh2⟩))) (fun e H5 l5 => ?_) fun e H5 l5 => ?_)
      · refine wb_one (ws_ret (d := .bool false) (u4.s.trans l5) ee_bl fun v B6 H6 u6 dv => fin false ?_ v B6 H6 ((u'.trans u4).trans ((Up.le u4.s l5).trans u6)) dv)
        cases h : nodesB (.tuple ns) (.tuple xs) with
        | false => rfl
        | true =>
          have h' : xs.all (fun r => nodeB r (lettersL ns) (xs.length : Int)) = true := h
          rw [List.all_eq_true.mp h' d (List.mem_of_getElem? hd')] at e
          cases e
      · refine wb_nil (hN _ B'' H5 (Le.refl _) (u4.s.trans l5) ⟨(u'.trans u4).trans (Up.le u4.s l5), ⟨_, rfl⟩, ?_⟩)
        have e4 : nodeB d (lettersL ns) (xs.length : Int) = true := by cases h : nodeB d (lettersL ns) (xs.length : Int) with | true => rfl | false => rw [h] at e; cases e
        rw [List.take_add_one, hd', List.all_append, hI]
        show (true && (nodeB d (lettersL ns) (xs.length : Int) && true)) = true
        rw [e4]
        rfl
    · obtain ⟨u', ⟨a, rfl⟩, e5⟩ := hI
      rw [List.take_length] at e5
      exact wb_one (ws_ret (d := .bool true) ls ee_bl fun v B5 H5 u5 dv => fin true e5 v B5 H5 (u'.trans u5) dv)
end
end K0


set_option Elab.async false
set_option linter.all false
set_option maxRecDepth 100000
set_option maxHeartbeats 2000000
namespace K0
open PySem PySem.Spec PyProof.Rows L2 GxR Tk
variable [LamTab]
abbrev sLLet : Stmt := t__law_letters
abbrev sLNum : Stmt := t__law_is_number
section
variable {P : Program} {w : World} {K : PySem.W.Frag} {mg : Str → Option Value} {base : Heap} {f : Addr} {fd : FuncData} {T : List Addr} {c Pt : Addr}
theorem scLLet : FnScope ["scope", "found", "name", "letter"] ["scope"] (defScope sLLet) := ⟨rfl, rfl, rfl, by decide +kernel, rfl, by decide +kernel, by decide +kernel⟩
theorem ndLLet : List.Nodup (["scope", "found", "name", "letter"] : List Str) := by decide +kernel
theorem ok_llet (F : L2.Fun K "_law_letters" "_law_letters" sLLet f fd) : FnOk P w K mg base CX0 1 f fd ["scope"] (spF K T 1 letOfP lawLetF) := by
  refine fn_pure F scLLet rfl fun cdv A outer s H vs B ds Q E hr hcd t l hd hl hp q => ?_
  obtain ⟨xs, rfl, hn⟩ := hp
  obtain ⟨v1, rfl, h1⟩ := ds1 hd
  refine wb_cons (ws_set (i := 1) (d := .list [.tuple []]) l (ee_lst (ea_cons (ee_tup ea_nil (by decide)) ea_nil) (by decide)) (fun v2 B2 H2 u2 d2 => ?_) ndLLet)
  refine wb_cons (ws_for (tjs := [2]) (pat := patN) u2.s (ei_tup (ee_var (i := 0) rfl (Dt.le u2.b h1))) (eg_name ndLLet) (fun d hd => ⟨[d], rfl⟩) PassesOwn.never rfl
    (fun i σ' B' H' => Up B H B' H' ∧ ∃ vf a, σ' = [some v1, some vf, a, none] ∧ Dt K B' vf (.list (lawLet [.tuple []] (xs.take i)))) (fun B' H' u => ⟨u2.trans u, v2, none, rfl, Dt.le u.b d2⟩) (fun i d es vs σ' B' H' B'' H'' hi hd' lb hI u4 he dvs N hN => ?_) fun σ' B' H' lb ls hI => ?_)
  · obtain ⟨u', vf, a, rfl, df⟩ := hI
    cases he
    obtain ⟨x, rfl, hx⟩ := ds1 (K := K) dvs
    have df' := Dt.le u4.b df
    have t0 : tupsN 3 (lawLet [.tuple []] (xs.take i)) := by
      have := lawLet_tups (xs := xs.take i) (acc := [.tuple []]) (n := 0) fun d hd => by
        rw [List.mem_singleton] at hd
        exact ⟨[], hd, Nat.le_refl _⟩
      intro d hd
      obtain ⟨ys, e, k⟩ := this d hd
      have := List.length_take_le i xs
      exact ⟨ys, e, by omega⟩
    have len : (lawLet [.tuple []] (xs.take i)).length ≤ 8 := by
      rw [lawLet_len]
      have : (xs.take i).length ≤ 3 := Nat.le_trans (List.length_take_le i xs) (by omega)
      have : 2 ^ (xs.take i).length ≤ 2 ^ 3 := Nat.pow_le_pow_right (by decide) this
      simp only [List.length_cons, List.length_nil]
      omega
    refine wb_one (ws_set (i := 1) (d := .list (lawLet [.tuple []] (xs.take (i + 1)))) u4.s ?_ (fun v3 B3 H3 u3 d3 => hN _ B3 H3 u3.b u3.s ⟨(u'.trans u4).trans u3, v3, _, rfl, d3⟩) ndLLet)
    rw [take_succ_foldl hd']
    refine ee_op op_catL (rr_catL (by
      rw [List.length_map]
      have := List.length_filter_le (fun _ => true) (lawLet [.tuple []] (xs.take i))
      have : (lawLet [.tuple []] (xs.take i)).length + (List.filter (fun _ => true) (lawLet [.tuple []] (xs.take i))).length ≤ 16 := by omega
      exact Nat.le_trans this (by decide))) (ee_var (i := 1) rfl df') ?_
    refine ee_lc (own := [("letter", 3)]) (tjs := [3]) (pat := patN) (fun _ => true) (plusN d) rfl ndLLet (ei_lst (ee_var (i := 1) rfl df'))
      (blkOk_by (show blkC ["scope", "found", "name", "letter"] (defScope sLLet) _ [("letter", 3)] = true by decide +kernel))
      (fun s H C cl fp => eg_name ndLLet) (fun d hd => ⟨[d], rfl, rfl⟩) (fun vs hv => ?_) (fun B' d es vs lb hd he hv s H C cl fp => ets_nil) (fun B' d' es vs lb hd hb he hv s H C cl fp => ?_) (Nat.lt_of_le_of_lt len (by decide))
    · match vs, hv with
      | [a], _ => rfl
    · cases he
      obtain ⟨y, rfl, hy⟩ := ds1 (K := K) hv
      obtain ⟨ys, rfl, hk⟩ := t0 d' hd
      exact ee_op op_catA (rr_catT (by rw [List.length_cons, List.length_nil]; exact Nat.le_trans (show ys.length + (0 + 1) ≤ 4 by omega) (by decide))) (ee_var (i := 3) rfl hy) (ee_tup (ea_cons (ee_var (i := 2) rfl (Dt.le lb hx)) ea_nil) (by show 1 ≤ sizeLine; decide))
  · obtain ⟨u', vf, a, rfl, df⟩ := hI
    rw [List.take_length] at df
    exact wb_one (ws_ret (d := .list (lawLet [.tuple []] xs)) ls (ee_var (i := 1) rfl df) fun v B3 H3 u3 d3 => q v B3 H3 (u'.trans u3) d3)
end
end K0


set_option Elab.async false
set_option linter.all false
set_option maxRecDepth 100000
set_option maxHeartbeats 1000000
/-! Tk7: int(..), dicts that are read, stores in a cell. -/
namespace Tk
open PySem PySem.Spec PyProof.Rows L2 GxR Gx
variable [LamTab]
def rInt1 : List V → Hp → VK → Prop := fun xs H Q => (∃ i, xs = [V.int i] ∧ Q (.int i) H) ∨ ∃ k, xs = [V.bl k] ∧ Q (.int (if k = true then 1 else 0)) H
theorem c_int1 {X : Cx} : CallR X (.type "int") rInt1 := call_int1
theorem rc_int1 {K : PySem.W.Frag} {H : Hp} {i : Int} : RC1 K rInt1 H [.int i] (.int i) := fun B H1 l l1 vs hv Q q => by
  obtain ⟨v, rfl, h⟩ := ds1 hv
  cases h
  exact .inl ⟨i, rfl, q _ B H1 (Up.refl l1) (.int i)⟩
section
variable {X : Cx} {e a b : Expr} {es : List Expr} {σ : L2.St} {H : Hp} {d : PyData}
theorem ee_int1 {p pos : Pos} {i : Int} (BL : Blt X.mg) (ha : EE X e σ H (.int i)) (hg : Gl X "int" := by rfl) (he : starEach [e] X.env = (false, eval e X.env) :: starEach [] X.env := by rfl) :
    EE X (.Call (.Name "int" p) [e] [] pos) σ H (.int i) := ee_callTy c_int1 hg BL.int boot_int' rc_int1 (ea_cons ha ea_nil he) (by decide) (by decide) he rfl
/-- d["k"] -/
theorem ee_dget {A : Addr} {i : Nat} {x k : Str} {kvs : List (Key × V)} {v : V} {p1 p2 pos : Pos} {j : Nat} (hu : X.A.units + 64 < cLine) (hσ : σ[i]? = some (some (.ref A))) (hA : H A = some (.dK kvs)) (hk : valV kvs (.inr k) = some v) (hd : Dt X.K H v d) (hN : X.N[i]? = some x := by rfl) (hv : Vis X.env.scope x := by first | exact Or.inl rfl | exact Or.inr (Or.inl rfl) | exact Or.inr (Or.inr rfl)) (h1 : (x == ("__debug__" : Str)) = false := by decide) (h2 : (x == ("__classdict__" : Str)) = false := by decide) :
    EE X (.Subscript (.Name x p1) (.Constant (.str k) j p2) pos) σ H d := fun H1 l Q q => by
  have e : H1 A = some (.dK kvs) := l.keep A _ hA fun ps z => by cases z
  have g : DGet H1 A (kV (.inr k)) (some v) := by rw [← hk]; exact DGet.k e
  exact ⟨_, pe_dget (by omega) (pe_var hN hv h1 h2) pe_str (fun _ _ => rfl), _, hσ, A, v, rfl, g, q v H H1 (Up.refl l) hd⟩
end
theorem LeX.put {D : List Addr} {H H1 : Hp} {a : Addr} {o o0 : HO} (l : LeX D H H1) (ha : a ∈ D) (h0 : H1 a = some o0) (hn : ∀ ps, o0 ≠ .tbl ps) : LeX D H (upd H1 a o) :=
  ⟨fun x o' hx q n => by
    rw [upd_ne fun z => hx (by rw [z]; exact ha)]
    exact l.keep x o' hx q n, fun P t => by
    obtain ⟨ps, q1, q2⟩ := l.tab P t
    refine ⟨ps, ?_, q2⟩
    rw [upd_ne fun z => by rw [z, h0] at q1; exact hn ps (Option.some.inj q1)]
    exact q1, fun x q => by
    by_cases z : x = a
    · rw [z, upd_same] at q
      cases q
    · rw [upd_ne z] at q
      exact l.there x q⟩
theorem UpX.self {D : List Addr} {B H H' : Hp} (a : LeX D H H') (b : Le B H') : UpX D B H B H' := ⟨a, Le.refl B, b, fun x h => .inl h⟩
end Tk


set_option Elab.async false
set_option linter.all false
set_option maxRecDepth 100000
set_option maxHeartbeats 2000000
namespace K0
open PySem PySem.Spec PyProof.Rows L2 GxR Tk
variable [LamTab]
abbrev sMix : Stmt := t__law_mixed
def drK (lw lc : Addr) (r t : Int) : List (Key × V) := [(.inr "wide", .ref lw), (.inr "cells", .ref lc), (.inr "rest", .int r), (.inr "turn", .int t)]
def DJ (d lw lc : Addr) (n : Nat) (H : Hp) : Prop := ∃ (ws cs : List Int) (r t : Int), H d = some (.dK (drK lw lc r t)) ∧ H lw = some (.lst (ws.map V.int)) ∧ H lc = some (.lst (cs.map V.int)) ∧ 0 ≤ t ∧ t + n ≤ 2 ^ 40
theorem put_turn {lw lc : Addr} {r t t' : Int} : putK (drK lw lc r t) (.inr "turn") (.int t') = drK lw lc r t' := by rfl
theorem put_rest {lw lc : Addr} {r t r' : Int} : putK (drK lw lc r t) (.inr "rest") (.int r') = drK lw lc r' t := by rfl
theorem get_turn {lw lc : Addr} {r t : Int} : valV (drK lw lc r t) (.inr "turn") = some (.int t) := by rfl
theorem get_rest {lw lc : Addr} {r t : Int} : valV (drK lw lc r t) (.inr "rest") = some (.int r) := by rfl
theorem get_cells {lw lc : Addr} {r t : Int} : valV (drK lw lc r t) (.inr "cells") = some (.ref lc) := by rfl
theorem get_wide {lw lc : Addr} {r t : Int} : valV (drK lw lc r t) (.inr "wide") = some (.ref lw) := by rfl
theorem cells_DJ {d lw lc : Addr} : Cells [d, lw, lc] (DJ d lw lc) where
  at_ := fun n H ⟨ws, cs, r, t, h1, h2, h3, _⟩ a ha => by
    rcases List.mem_cons.mp ha with z | z
    · rw [z]; exact ⟨_, h1, fun ps z => by cases z⟩
    rcases List.mem_cons.mp z with z | z
    · rw [z]; exact ⟨_, h2, fun ps z => by cases z⟩
    · rw [List.mem_singleton.mp z]; exact ⟨_, h3, fun ps z => by cases z⟩
  le := fun n H H' ⟨ws, cs, r, t, h1, h2, h3, h4, h5⟩ l => ⟨ws, cs, r, t, l.keep d _ h1 (fun ps z => by cases z), l.keep lw _ h2 (fun ps z => by cases z), l.keep lc _ h3 (fun ps z => by cases z), h4, h5⟩
  less := fun n m H ⟨ws, cs, r, t, h1, h2, h3, h4, h5⟩ hm => ⟨ws, cs, r, t, h1, h2, h3, h4, by omega⟩
theorem hu1 {A : Around} {k : Nat} (r : Room k A) : A.units + 1 < cLine := by
  have := r.un
  omega
theorem ints_ds {K : PySem.W.Frag} {H : Hp} : ∀ cs : List Int, Ds K H (cs.map V.int) (cs.map PyData.int)
  | [] => .nil
  | c :: cs => .cons (.int c) (ints_ds cs)
section
variable {P : Program} {w : World} {K : PySem.W.Frag} {mg : Str → Option Value} {base : Heap} {f : Addr} {fd : FuncData} {T : List Addr} {d lw lc : Addr}
theorem scMix : FnScope ["draw", "turn", "found", "prime", "blend", "grain"] ["draw"] (defScope sMix) := ⟨rfl, rfl, rfl, by decide +kernel, rfl, by decide +kernel, by decide +kernel⟩
theorem ndMix : List.Nodup (["draw", "turn", "found", "prime", "blend", "grain"] : List Str) := by decide +kernel
theorem prime_of {i : Nat} {x : PyData} (h : ([.int 2147483647, .int 2147483629, .int 2147483587, .int 2147483579] : List PyData)[i]? = some x) : ∃ p : Int, x = .int p ∧ 0 < p ∧ p < 2147483648 := by
  have m := List.mem_of_getElem? h
  simp only [List.mem_cons, List.not_mem_nil, or_false] at m
  rcases m with rfl | rfl | rfl | rfl
  · exact ⟨_, rfl, by decide, by decide⟩
  · exact ⟨_, rfl, by decide, by decide⟩
  · exact ⟨_, rfl, by decide, by decide⟩
  · exact ⟨_, rfl, by decide, by decide⟩
theorem ok_mix (BL : Blt mg) (hTD : ∀ a ∈ [d, lw, lc], a ∉ T) (F : L2.Fun K "_law_mixed" "_law_mixed" sMix f fd) : FnOk P w K mg base CX0 1 f fd ["draw"] (spJ K T [d, lw, lc] (DJ d lw lc) (.ref d) 0 1 (· = []) (fun _ r => ∃ i, r = .int i)) := by
  refine fn_draw hTD F scMix rfl fun cdv A outer s H vs B ds m Q E hr hcd t l ap j hd hl hp q => ?_
  have e0 : vs = [] := List.eq_nil_of_length_eq_zero hl
  subst e0
  obtain ⟨ws, cs, r, t0, hH, hw, hc, h0, hb⟩ := j
  have hu := hu64 hr
  refine wb_cons ⟨_, ps_par (i := 1) (j := 2) rfl ndMix rfl rfl (by decide) rfl rfl pa_w rfl, ?_⟩
  refine (ea_cons (ee_op op_add rr_add (ee_dget (i := 0) hu rfl hH get_turn (.int t0)) ee_int) (ea_cons ee_int ea_nil)) H (Le.refl H) _ fun us B1 H1 u1 dus => ?_
  obtain ⟨x, y, rfl, dx, dy⟩ := ds2 (K := K) dus
  cases dx
  cases dy
  refine ⟨_, _, rfl, ?_⟩
  refine wb_cons ⟨_, ps_dput (hu1 hr) (pe_var (i := 0) rfl (Or.inl rfl)) pe_str (pe_var (i := 1) rfl (Or.inl rfl)) rfl, _, rfl, _, rfl, d, _, rfl, DPut.k (k := .inr "turn") (u1.h.keep d _ hH (fun ps z => by cases z)) (by show 4 < sizeLine; decide), ?_⟩
  rw [put_turn]
  have hHd : H1 d = some (.dK (drK lw lc r t0)) := u1.h.keep d _ hH (fun ps z => by cases z)
  have hdD : d ∈ [d, lw, lc] := List.mem_cons_self
  have lx : LeX [d, lw, lc] H (upd H1 d (.dK (drK lw lc r (t0 + 1)))) := LeX.put (.of u1.h) hdD hHd fun ps z => by cases z
  have lb : Le B (upd H1 d (.dK (drK lw lc r (t0 + 1)))) := (l.trans u1.h).mut (ap d hdD)
  have hlw : lw ≠ d := ne_of (H := H) hw hH (by intro z; cases z)
  have hlc : lc ≠ d := ne_of (H := H) hc hH (by intro z; cases z)
  have hw4 : (upd H1 d (.dK (drK lw lc r (t0 + 1)))) lw = some (.lst (ws.map V.int)) := by rw [upd_ne hlw]; exact u1.h.keep lw _ hw (fun ps z => by cases z)
  have hc4 : (upd H1 d (.dK (drK lw lc r (t0 + 1)))) lc = some (.lst (cs.map V.int)) := by rw [upd_ne hlc]; exact u1.h.keep lc _ hc (fun ps z => by cases z)
  have hd4 : (upd H1 d (.dK (drK lw lc r (t0 + 1)))) d = some (.dK (drK lw lc r (t0 + 1))) := upd_same
  have j4 : DJ d lw lc m (upd H1 d (.dK (drK lw lc r (t0 + 1)))) := ⟨ws, cs, r, t0 + 1, hd4, hw4, hc4, by omega, by omega⟩
  generalize upd H1 d (.dK (drK lw lc r (t0 + 1))) = H4 at lx lb hw4 hc4 hd4 j4 ⊢
  have ht : 0 ≤ t0 + 1 ∧ t0 + 1 ≤ 2 ^ 40 := by omega
  generalize t0 + 1 = t1 at hd4 ht ⊢
  refine wb_cons (ws_for (B := H4) (tjs := [3]) (pat := patN) (ds := [.int 2147483647, .int 2147483629, .int 2147483587, .int 2147483579]) (Le.refl H4) (ei_lst (ee_lst (ea_cons ee_int (ea_cons ee_int (ea_cons ee_int (ea_cons ee_int ea_nil)))) (by show 4 ≤ sizeLine; decide))) (eg_name ndMix) (fun d hd => ⟨[d], rfl⟩) PassesOwn.never rfl
    (fun i σ' B' H' => ∃ g a b c, σ' = [some (.ref d), some (.int t1), some (.int g), a, b, c]) (fun B' H' u => ⟨0, _, _, _, rfl⟩) (fun i e es vs σ' B' H' B'' H'' hi hd' lb' hI u4 he dvs N hN => ?_) fun σ' B' H' lb' ls hI => ?_)
  · obtain ⟨g, a, b, c, rfl⟩ := hI
    obtain ⟨p, rfl, p1, p2⟩ := prime_of hd'
    cases he
    obtain ⟨x, rfl, hx⟩ := ds1 (K := K) dvs
    cases hx
    have lb2 := lb'.trans u4.b
    refine wb_cons (ws_set (i := 4) (d := .int (48271 * t1 + p / 37)) u4.s (ee_op op_add rr_add (ee_op op_mul (rr_I (.inl ⟨by decide, by decide⟩)) ee_int (ee_var (i := 1) rfl (.int t1))) (ee_op op_fdiv (rr_I ⟨by decide, by decide⟩) (ee_var (i := 3) rfl (.int p)) ee_int)) (fun v5 B5 H5 u5 d5 => ?_) ndMix)
    cases d5
    have lb5 := lb2.trans u5.b
    have k0 : 0 ≤ 48271 * t1 + p / 37 ∧ 48271 * t1 + p / 37 < 2 ^ 60 := by omega
    refine wb_cons (ws_for (B := B5) (tjs := [5]) (pat := patN) (ds := cs.map PyData.int) u5.s (ei_lst (ee_dget (i := 0) hu rfl (lb5.keep d _ hd4 (fun ps z => by cases z)) get_cells (.new_lst (lb5.keep lc _ hc4 (fun ps z => by cases z)) (ints_ds cs)))) (eg_name ndMix) (fun d hd => ⟨[d], rfl⟩) PassesOwn.never rfl
      (fun i σ' B' H' => ∃ z c, σ' = [some (.ref d), some (.int t1), some (.int g), some (.int p), some (.int z), c] ∧ 0 ≤ z ∧ z < 2 ^ 60) (fun B' H' u => ⟨_, _, rfl, k0.1, k0.2⟩) (fun i e es vs σ' B' H' B'' H'' hi hd' lb' hI u4 he dvs N hN => ?_) fun σ' B' H' lb' ls hI => ?_)
    · obtain ⟨z, c, rfl, z1, z2⟩ := hI
      obtain ⟨y, hy, rfl⟩ := List.mem_map.mp (List.mem_of_getElem? hd')
      cases he
      obtain ⟨x, rfl, hx⟩ := ds1 (K := K) dvs
      cases hx
      refine wb_one (ws_set (i := 4) (d := .int ((z * 69621 + y + t1) % p)) u4.s (ee_op op_mod (rr_I p1) (ee_int1 BL (ee_op op_add rr_add (ee_op op_add rr_add (ee_op op_mul (rr_I (.inr ⟨by decide, by decide⟩)) (ee_var (i := 4) rfl (.int z)) ee_int) (ee_var (i := 5) rfl (.int y))) (ee_var (i := 1) rfl (.int t1)))) (ee_var (i := 3) rfl (.int p))) (fun v6 B6 H6 u6 d6 => ?_) ndMix)
      cases d6
      refine hN _ B6 H6 u6.b u6.s ⟨_, _, rfl, Int.emod_nonneg _ (by omega), ?_⟩
      have := Int.emod_lt_of_pos (z * 69621 + y + t1) p1
      omega
    · obtain ⟨z, c, rfl, z1, z2⟩ := hI
      have lb6 := lb5.trans lb'
      refine wb_one (ws_set (i := 2) (d := .int (g * 2147483647 + z ^ (5 : Int).toNat % p)) ls (ee_op op_add rr_add (ee_op op_mul (rr_I (.inr ⟨by decide, by decide⟩)) (ee_var (i := 2) rfl (.int g)) ee_int) (ee_op op_mod (rr_I p1) (ee_int1 BL (ee_op op_pow (rr_I ⟨by decide, by decide, by omega⟩) (ee_var (i := 4) rfl (.int z)) ee_int)) (ee_var (i := 3) rfl (.int p)))) (fun v7 B7 H7 u7 d7 => ?_) ndMix)
      cases d7
      exact hN _ B7 H7 ((u5.b.trans lb').trans u7.b) u7.s ⟨_, _, _, _, rfl⟩
  · obtain ⟨g, a, b, c, rfl⟩ := hI
    refine wb_one (ws_ret (d := .int g) ls (ee_var (i := 2) rfl (.int g)) fun v B3 H3 u3 d3 => ?_)
    have e4 : Le H4 H3 := ((lb'.trans u3.b).trans u3.s)
    exact q v (.int g) B H3 (UpX.self (lx.trans (.of e4)) (lb.trans e4)) (cells_DJ.le m _ _ j4 e4) (by cases d3; exact .int g) ⟨g, rfl⟩
end
end K0


set_option Elab.async false
set_option linter.all false
set_option maxRecDepth 100000
set_option maxHeartbeats 2000000
namespace K0
open PySem PySem.Spec PyProof.Rows L2 GxR Tk
variable [LamTab]
abbrev sTake : Stmt := t__law_take
theorem ints_lay : ∀ cs : List Int, PyData.canLayAll0 (cs.map PyData.int) = true
  | [] => by simp only [List.map_nil, PyData.canLayAll0]
  | c :: cs => by
    simp only [List.map_cons, PyData.canLayAll0, PyData.canLay0, Bool.true_and]
    exact ints_lay cs
theorem ints_depth : ∀ cs : List Int, PyData.depthAll (cs.map PyData.int) = 0
  | [] => by simp only [List.map_nil, PyData.depthAll]
  | c :: cs => by
    simp only [List.map_cons, PyData.depthAll, PyData.depth, ints_depth cs]
    rfl
theorem ints_shaped (cs : List Int) : SeqAt.shaped (.list (cs.map PyData.int)) = true := by
  unfold SeqAt.shaped
  rw [Bool.and_eq_true]
  refine ⟨?_, ?_⟩
  · simp only [PyData.canLay0]
    exact ints_lay cs
  · simp only [PyData.depth, ints_depth cs]
    decide
theorem ints_noDicts : ∀ cs : List Int, noDicts (cs.map PyData.int) = true
  | [] => rfl
  | c :: cs => by
    show (noDict (PyData.int c) && noDicts (cs.map PyData.int)) = true
    rw [ints_noDicts cs]
    rfl
/-- what is drawn -/
def takeP (ds : List PyData) : Prop := ∃ m : Int, ds = [.int m] ∧ 0 < m ∧ m < 1000000
def takeR (ds : List PyData) (r : PyData) : Prop := ∃ m i : Int, ds = [.int m] ∧ r = .int i ∧ 0 ≤ i ∧ i < m
section
variable {P : Program} {w : World} {K : PySem.W.Frag} {mg : Str → Option Value} {base : Heap} {f : Addr} {fd : FuncData} {T : List Addr} {d lw lc : Addr}
abbrev KnJ (P : Program) (w : World) (K : PySem.W.Frag) (mg : Str → Option Value) (base : Heap) (lv : Nat) (x : Str) (ps : List Str) (T : List Addr) (d lw lc : Addr) (k n : Nat) (pre : List PyData → Prop) (R : List PyData → PyData → Prop) : Prop :=
  Kn P w K mg base lv x ps (spJ K T [d, lw, lc] (DJ d lw lc) (.ref d) k n pre R)
theorem scTake : FnScope ["draw", "many", "found"] ["draw", "many"] (defScope sTake) := ⟨rfl, rfl, rfl, by decide +kernel, rfl, by decide +kernel, by decide +kernel⟩
theorem ndTake : List.Nodup (["draw", "many", "found"] : List Str) := by decide +kernel
theorem dj_put {m : Nat} {H H1 : Hp} {ws cs : List Int} {r t r' : Int} (h1 : H1 d = some (.dK (drK lw lc r t))) (h2 : H1 lw = some (.lst (ws.map V.int))) (h3 : H1 lc = some (.lst (cs.map V.int))) (h4 : 0 ≤ t) (h5 : t + m ≤ 2 ^ 40) (hx : LeX [d, lw, lc] H H1) {B : Hp} (lb : Le B H1) (ap : Apt [d, lw, lc] B) :
    LeX [d, lw, lc] H (upd H1 d (.dK (drK lw lc r' t))) ∧ Le B (upd H1 d (.dK (drK lw lc r' t))) ∧ DJ d lw lc m (upd H1 d (.dK (drK lw lc r' t))) := by
  refine ⟨hx.put List.mem_cons_self h1 (fun ps z => by cases z), lb.mut (ap d List.mem_cons_self), ws, cs, r', t, upd_same, ?_, ?_, h4, h5⟩
  · rw [upd_ne (ne_of (H := H1) h2 h1 (by intro z; cases z))]
    exact h2
  · rw [upd_ne (ne_of (H := H1) h3 h1 (by intro z; cases z))]
    exact h3
theorem ok_take (BL : Blt mg) (hTD : ∀ a ∈ [d, lw, lc], a ∉ T) (hne : lw ≠ lc) (Fmix : KnJ P w K mg base 1 "_law_mixed" ["draw"] T d lw lc 0 1 (· = []) (fun _ r => ∃ i, r = .int i)) (F : L2.Fun K "_law_take" "_law_take" sTake f fd) :
    FnOk P w K mg base CX0 2 f fd ["draw", "many"] (spJ K T [d, lw, lc] (DJ d lw lc) (.ref d) 1 1 takeP takeR) := by
  refine fn_draw hTD F scTake rfl fun cdv A outer s H vs B ds m Q E hr hcd t l ap j hd hl hp q => ?_
  obtain ⟨many, rfl, hm0, hm1⟩ := hp
  obtain ⟨v1, rfl, h1⟩ := ds1 (K := K) hd
  cases h1
  have hu := hu64 hr
  have rest : ∀ H', LeX [d, lw, lc] H H' → Le B H' → DJ d lw lc m H' → WB (cxOf CX0 P w K mg base ["draw", "many", "found"] "_law_take" (defScope sTake) f cdv A outer s H E).nox ((defBody sTake).drop 1) { nx := fun _ H' => Q .non H', rt := Q } (start ["draw", "many", "found"] [.ref d, .int many]) H' := fun H' lx lb j' => by
    obtain ⟨ws, cs, r, t0, hH, hw, hc, h0, hb⟩ := id j'
    refine wb_cons (ws_set (i := 2) (d := .int (r % many)) (Le.refl H') (ee_op op_mod (rr_I hm0) (ee_int1 BL (ee_dget (i := 0) hu rfl hH get_rest (.int r))) (ee_var (i := 1) rfl (.int many))) (fun v5 B5 H5 u5 d5 => ?_) ndTake)
    cases d5
    have hH5 : H5 d = some (.dK (drK lw lc r t0)) := u5.h.keep d _ hH (fun ps z => by cases z)
    refine wb_cons ⟨_, ps_dput (hu1 hr) (pe_var (i := 0) rfl (Or.inl rfl)) pe_str pe_w rfl, (ee_op op_fdiv (rr_I ⟨hm0, by omega⟩) (ee_dget (i := 0) hu rfl hH5 get_rest (.int r)) (ee_var (i := 1) rfl (.int many))) H5 (Le.refl _) _ fun v6 B6 H6 u6 d6 => ⟨_, rfl, d, _, rfl, DPut.k (k := .inr "rest") (u6.h.keep d _ hH5 (fun ps z => by cases z)) (by show 4 < sizeLine; decide), ?_⟩⟩
    cases d6
    rw [put_rest]
    have k6 : ∀ {a : Addr} {xs : List V}, H' a = some (.lst xs) → H6 a = some (.lst xs) := fun e => (u5.h.trans u6.h).keep _ _ e (fun ps z => by cases z)
    obtain ⟨x1, x2, x3⟩ := dj_put (m := m) (r' := r / many) (u6.h.keep d _ hH5 (fun ps z => by cases z)) (k6 hw) (k6 hc) h0 hb (lx.trans (.of (u5.h.trans u6.h))) (lb.trans (u5.h.trans u6.h)) ap
    generalize upd H6 d (.dK (drK lw lc (r / many) t0)) = H7 at x1 x2 x3 ⊢
    refine wb_one (ws_ret (B := B) (d := .int (r % many)) x2 (ee_var (i := 2) rfl (.int _)) fun v B3 H3 u3 d3 => q v _ B3 H3 ((UpX.self x1 x2).trans cells_DJ x3 (.of u3)) (cells_DJ.le m _ _ x3 u3.h) d3 ⟨many, _, rfl, rfl, Int.emod_nonneg _ (by omega), Int.emod_lt_of_pos _ hm0⟩)
  obtain ⟨ws, cs, r, t0, hH, hw, hc, h0, hb⟩ := id j
  refine wb_cons (ws_if (B := H) (k := decide (r = 0)) (Le.refl H) (et_cmp op_eq rr_eqI (ee_dget (i := 0) hu rfl hH get_rest (.int r)) ee_int) (fun _ H1 l1 => ?_) fun _ H1 l1 => wb_nil (rest H1 (.of l1) (l.trans l1) (cells_DJ.less _ _ _ (cells_DJ.le _ _ _ j l1) (by omega))))
  have hH1 : H1 d = some (.dK (drK lw lc r t0)) := l1.keep d _ hH (fun ps z => by cases z)
  have hw1 : H1 lw = some (.lst (ws.map V.int)) := l1.keep lw _ hw (fun ps z => by cases z)
  have hc1 : H1 lc = some (.lst (cs.map V.int)) := l1.keep lc _ hc (fun ps z => by cases z)
  refine wb_one ⟨_, ps_dput (hu1 hr) (pe_var (i := 0) rfl (Or.inl rfl)) pe_str (pe_ifExp pt_w pe_w pe_w) rfl, ?_⟩
  refine (et_cmp (op_neD hu) (rr_neD (d := .list (ws.map PyData.int)) (e := .list []) (ints_noDicts ws) rfl (ints_shaped ws) (by decide)) (ee_dget (i := 0) hu rfl hH1 get_wide (.new_lst hw1 (ints_ds ws))) (ee_lst ea_nil (by decide))) H1 (Le.refl _) _ fun H2 l2 => ?_
  have j2 : DJ d lw lc (m + (0 + 1)) H2 := cells_DJ.le _ _ _ j (l1.trans l2)
  have hH2 : H2 d = some (.dK (drK lw lc r t0)) := l2.keep d _ hH1 (fun ps z => by cases z)
  have hw2 : H2 lw = some (.lst (ws.map V.int)) := l2.keep lw _ hw1 (fun ps z => by cases z)
  have hc2 : H2 lc = some (.lst (cs.map V.int)) := l2.keep lc _ hc1 (fun ps z => by cases z)
  have lb2 : Le B H2 := l.trans (l1.trans l2)
  have lx2 : LeX [d, lw, lc] H H2 := .of (l1.trans l2)
  split
  · rename_i hk
    cases ws with
    | nil => exact absurd hk (by decide)
    | cons w0 ws' =>
      refine ⟨_, pe_bm PySem.F.plainAttrs_list PySem.F.slot_list_pop PySem.F.type_list_pop mt_popAt (pe_dget (hu1 hr) (pe_var (i := 0) rfl (Or.inl rfl)) pe_str (fun _ _ => rfl)) (pa_cons pe_int pa_nil), _, rfl, d, .ref lw, rfl, ?_, .inl ⟨rfl, _, SqL.of hw2⟩, lw, _, 0, 0, .int w0, rfl, rfl, hw2, by decide, by decide, (by rw [List.length_map, List.length_cons]; unfold seqIndex?; simp), rfl, ?_⟩
      · have := DGet.k (k := .inr "wide") hH2
        rw [get_wide] at this
        exact this
      have lx3 : LeX [d, lw, lc] H (upd H2 lw (.lst (((w0 :: ws').map V.int).eraseIdx 0))) := lx2.put (List.mem_cons_of_mem _ List.mem_cons_self) hw2 fun ps z => by cases z
      have lb3 : Le B (upd H2 lw (.lst (((w0 :: ws').map V.int).eraseIdx 0))) := lb2.mut (ap lw (List.mem_cons_of_mem _ List.mem_cons_self))
      have hw3 : (upd H2 lw (.lst (((w0 :: ws').map V.int).eraseIdx 0))) lw = some (.lst (ws'.map V.int)) := upd_same
      have hH3 : (upd H2 lw (.lst (((w0 :: ws').map V.int).eraseIdx 0))) d = some (.dK (drK lw lc r t0)) := by rw [upd_ne (ne_of (H := H2) hH2 hw2 (by intro z; cases z))]; exact hH2
      have hc3 : (upd H2 lw (.lst (((w0 :: ws').map V.int).eraseIdx 0))) lc = some (.lst (cs.map V.int)) := by rw [upd_ne (fun z => hne z.symm)]; exact hc2
      generalize upd H2 lw (.lst (((w0 :: ws').map V.int).eraseIdx 0)) = H3 at lx3 lb3 hw3 hH3 hc3 ⊢
      refine ⟨_, rfl, d, _, rfl, DPut.k (k := .inr "rest") hH3 (by show 4 < sizeLine; decide), ?_⟩
      rw [put_rest]
      obtain ⟨x1, x2, x3⟩ := dj_put (m := m) (r' := w0) hH3 hw3 hc3 h0 (by omega) lx3 lb3 ap
      exact rest _ x1 x2 x3
  · refine (ej_call cells_DJ Fmix hr (by decide) t (i := 0) rfl eaj_nil (fun ds h => ⟨h, by rw [h]; rfl⟩)) m H2 lb2 ap j2 _ fun v e B3 H3 u3 j3 dv re => ?_
    obtain ⟨_, _, i, rfl⟩ := re
    cases dv
    obtain ⟨ws3, cs3, r3, t3, g1, g2, g3, g4, g5⟩ := id j3
    refine ⟨_, rfl, d, _, rfl, DPut.k (k := .inr "rest") g1 (by show 4 < sizeLine; decide), ?_⟩
    rw [put_rest]
    obtain ⟨x1, x2, x3⟩ := dj_put (m := m) (r' := i) g1 g2 g3 g4 g5 (lx2.trans u3.h) (u3.b.trans u3.s) ap
    exact rest _ x1 x2 x3
end
end K0


set_option Elab.async false
set_option linter.all false
set_option maxRecDepth 100000
set_option maxHeartbeats 1000000
/-! Tk8: list comprehensions whose elements draw. -/
namespace Tk
open PySem PySem.Spec PyProof.Rows L2 GxR Gx
variable [LamTab]
theorem Le.add {B H : Hp} {p : Addr} {o : HO} (l : Le B H) (h : H p = some o) (n : ∀ ps, o ≠ .tbl ps) : Le (upd B p o) H :=
  ⟨fun a u q k => by
    by_cases z : a = p
    · rw [z, upd_same] at q
      rw [z, h]
      exact q
    · rw [upd_ne z] at q
      exact l.keep a u q k, fun P t => by
    obtain ⟨ps, q1, q2⟩ := t
    by_cases z : P = p
    · rw [z, upd_same] at q1
      exact absurd (Option.some.inj q1) (n ps)
    · rw [upd_ne z] at q1
      exact l.tab P ⟨ps, q1, q2⟩, fun a q => by
    by_cases z : a = p
    · rw [z, h] at q
      cases q
    · rw [upd_ne z]
      exact l.there a q⟩
theorem LeX.mut {D : List Addr} {H H1 : Hp} {p : Addr} {o : HO} (l : LeX D H H1) (h : H p = none) : LeX D H (upd H1 p o) :=
  ⟨fun a u hx q n => by
    rw [upd_ne fun z => by rw [z, h] at q; cases q]
    exact l.keep a u hx q n, fun P t => by
    obtain ⟨ps, q1, q2⟩ := l.tab P t
    refine ⟨ps, ?_, q2⟩
    obtain ⟨ps0, r1, _⟩ := t
    rw [upd_ne fun z => by rw [z, h] at r1; cases r1]
    exact q1, fun a q => by
    by_cases z : a = p
    · rw [z, upd_same] at q
      cases q
    · rw [upd_ne z] at q
      exact l.there a q⟩
theorem yes_read {σ : L2.St} {H : Hp} {Q : Bool → Hp → Prop} (h : Q true H) : tYes σ H Q := h
def Off (D : List Addr) (J : Nat → Hp → Prop) : Prop := ∀ n H p o, J n H → p ∉ D → J n (upd H p o)
section
variable {X : Cx} {tg iter elt : Expr} {scope : Scope} {own : List (Str × Nat)} {pos : Pos} {σ : L2.St} {B : Hp} {tjs : List Nat} {pat : PyData → Option (List PyData)} {D : List Addr} {J : Nat → Hp → Prop}
/-- a walk that may draw -/
def EIJ (X : Cx) (D : List Addr) (J : Nat → Hp → Prop) (tg iter : Expr) (σ : L2.St) (B : Hp) (n : Nat) (RI : List PyData → Prop) : Prop := ∀ m H1, Le B H1 → Apt D B → J (m + n) H1 → ∀ R : It → Hp → Prop, (∀ Jt B2 H2 ds, UpX D B H1 B2 H2 → J m H2 → Walk X.K Jt B2 ds → RI ds → R Jt H2) → WI X tg iter σ H1 R
theorem eij_pure (C : Cells D J) {ds : List PyData} (h : EI X tg iter σ B ds) : EIJ X D J tg iter σ B 0 (· = ds) := fun m H1 l ap j R q => h H1 l R fun Jt B2 H2 u w => q Jt B2 H2 ds (.of u) (C.le _ _ _ j u.h) w rfl
theorem eij_lst {n : Nat} {R : List PyData → Prop} (h : EJ X D J iter σ B n (fun d => ∃ ds, d = .list ds ∧ R ds)) : EIJ X D J tg iter σ B n R := fun m H1 l ap j R' q => ⟨_, pi_list pe_w, h m H1 l ap j _ fun v d B2 H2 u jj dv r => by
  obtain ⟨ds, rfl, r⟩ := r
  cases dv with
  | lst s t h0 =>
    refine ⟨_, rfl, ⟨_, sqL_le u.s s⟩, q _ B2 H2 ds u jj (fun B' H' l1 l2 => ⟨fun i hi => ?_, ⟨_, sqL_le (l1.trans l2) s, Nat.le_of_eq h0.length⟩, fun i x H'' hi hy => ?_⟩) r⟩
    · obtain ⟨v, h1, _⟩ := h0.get (List.getElem?_eq_getElem hi)
      exact ⟨_, v, sqL_le (l1.trans l2) s, h1⟩
    · obtain ⟨e1, hy⟩ := hy
      subst e1
      obtain ⟨d, h1, h2⟩ := h0.getV (hy _ (sqL_le (l1.trans l2) s))
      exact ⟨B', d, Up.refl l2, h1, Dt.le l1 h2⟩⟩
/-- each of both lists -/
inductive Both (R : PyData → PyData → Prop) : List PyData → List PyData → Prop
  | nil : Both R [] []
  | cons {a b as bs} : R a b → Both R as bs → Both R (a :: as) (b :: bs)
theorem Both.snoc {R : PyData → PyData → Prop} : ∀ {as bs : List PyData} {a b : PyData}, Both R as bs → R a b → Both R (as ++ [a]) (bs ++ [b])
  | _, _, _, _, .nil, h => .cons h .nil
  | _, _, _, _, .cons r t, h => .cons r (t.snoc h)
theorem Both.length {R : PyData → PyData → Prop} : ∀ {as bs : List PyData}, Both R as bs → as.length = bs.length
  | _, _, .nil => rfl
  | _, _, .cons _ t => by rw [List.length_cons, List.length_cons, t.length]
theorem Both.mem {R : PyData → PyData → Prop} : ∀ {as bs : List PyData} {b : PyData}, Both R as bs → b ∈ bs → ∃ a ∈ as, R a b
  | _, _, _, .nil, h => by cases h
  | _, _, _, .cons r t, h => by
    rcases List.mem_cons.mp h with z | z
    · rw [z]; exact ⟨_, List.mem_cons_self, r⟩
    · obtain ⟨a, ha, hr⟩ := t.mem z
      exact ⟨a, List.mem_cons_of_mem _ ha, hr⟩
abbrev tokJ (X : Cx) (tg iter elt : Expr) (scope : Scope) (own : List (Str × Nat)) : TE := tLc (WI X tg iter) (fun v σ H Q => ∀ s H0 C cl fp, WG (blkX X s H0 scope C cl fp) tg v σ H Q) (fun σ H Q => ∀ s H0 C cl fp, WTs (blkX X s H0 scope C cl fp) [] σ H Q) (fun σ H Q => ∀ s H0 C cl fp, WE (blkX X s H0 scope C cl fp) elt σ H Q) (own.map (·.2))
theorem lcJ_read {n1 n2 k : Nat} {RI : List PyData → Prop} {RE : PyData → PyData → Prop} (C : Cells D J) (O : Off D J) (hc : X.calm = true) (nd : X.N.Nodup) (hi : EIJ X D J tg iter σ B n1 RI) (hk : ∀ ds, RI ds → ds.length ≤ k) (hks : k < sizeLine)
    (hg : ∀ s H C cl fp, EG (blkX X s H scope C cl fp) tg tjs pat) (hpat : ∀ ds, RI ds → ∀ d ∈ ds, ∃ es, pat d = some es ∧ es.length = tjs.length)
    (hw : ∀ vs : List V, vs.length = tjs.length → wipe (setsS (wipe σ (own.map (·.2))) tjs vs) (own.map (·.2)) = wipe σ (own.map (·.2)))
    (body : ∀ B' ds d es vs, Le B B' → RI ds → d ∈ ds → pat d = some es → Ds X.K B' vs es → ∀ s H C cl fp, EJ (blkX X s H scope C cl fp) D J elt (setsS (wipe σ (own.map (·.2))) tjs vs) B' n2 (RE d)) :
    ∀ m H1, Le B H1 → Apt D B → J (m + (n1 + k * n2)) H1 → ∀ Q : VK, (∀ A acc B2 H2 ds rs, H1 A = none → UpX D B H1 B2 H2 → J m H2 → B2 A = some (.lst acc) → H2 A = some (.lst acc) → Ds X.K B2 acc rs → RI ds → Both RE ds rs → Q (.ref A) H2) → tokJ X tg iter elt scope own σ H1 Q := fun m H1 l ap j Q q => by
  refine hi (m + k * n2) H1 l ap (by rw [show m + k * n2 + n1 = m + (n1 + k * n2) by omega]; exact j) _ fun Jt B2 H2 ds u2 j2 wk ri A hA => ?_
  have hlen := hk ds ri
  have hA1 : H1 A = none := u2.h.there A hA
  have hAD : A ∉ D := fun z => by
    obtain ⟨o, e, _⟩ := C.at_ _ H2 j2 A z
    rw [hA] at e
    cases e
  have hB2A : B2 A = none := u2.s.there A hA
  refine ⟨fun i mm H' => mm = ds.length - i ∧ i ≤ ds.length ∧ ∃ B' acc rs, Le B2 B' ∧ UpX D B H1 B' H' ∧ J (m + (k - i) * n2) H' ∧ B' A = none ∧ H' A = some (.lst acc) ∧ Ds X.K B' acc rs ∧ Both RE (ds.take i) rs, ⟨ds.length, rfl, Nat.zero_le _, B2, [], [], Le.refl _, ⟨u2.h.trans (.of (Le.new hA)), u2.b, u2.s.trans (Le.new hA), u2.n⟩, C.le _ _ _ j2 (Le.new hA), hB2A, upd_same, .nil, by rw [List.take_zero]; exact .nil⟩, ?_⟩
  rintro i mm H' ⟨rfl, hi', B', acc, rs, lb, u', jj, hBA, hacc, dacc, rr⟩
  obtain ⟨w1, w2, w3⟩ := wk B' H' lb u'.s
  by_cases hlt : i < ds.length
  · refine .inr ⟨w1 i hlt, fun H'' => ∃ B'' acc' rs', Le B2 B'' ∧ UpX D B H1 B'' H'' ∧ J (m + (k - (i + 1)) * n2) H'' ∧ B'' A = none ∧ H'' A = some (.lst acc') ∧ Ds X.K B'' acc' rs' ∧ Both RE (ds.take (i + 1)) rs', fun H'' h => ⟨ds.length - (i + 1), by omega, rfl, hlt, h⟩, fun x H4 hy => ?_⟩
    obtain ⟨B4, d, u4, hd, dx⟩ := w3 i x H4 hlt hy
    have hmem : d ∈ ds := List.mem_of_getElem? hd
    obtain ⟨es, hes, hel⟩ := hpat ds ri d hmem
    have hB4A : B4 A = none := by
      cases h : B4 A with
      | none => rfl
      | some o =>
        rcases u4.n A (by rw [h]; simp) with y | y | ⟨⟨ps, y⟩, _⟩
        · exact absurd hBA y
        · rw [hacc] at y; cases y
        · rw [hacc] at y; cases y
    have hH4A : H4 A = some (.lst acc) := u4.h.keep A _ hacc fun ps z => by cases z
    intro s H0 C' cl fp
    refine hg s H0 C' cl fp x d es _ B4 H4 u4.s dx hes _ fun vs dvs => ?_
    have hvl : vs.length = tjs.length := by rw [dvs.length, hel]
    refine ⟨hw vs hvl, fun s H0 C' cl fp => ⟨_, pts_nil, ?_⟩⟩
    have ta : ds.take (i + 1) = ds.take i ++ [d] := by rw [List.take_add_one, hd]; rfl
    have j4 := C.le _ _ _ jj u4.h
    have u5 : UpX D B H1 B4 H4 := u'.trans C jj (.of u4)
    refine yes_read ((if_pos rfl).mpr ?_)
    intro s H0 C' cl fp
    have lb4 : Le B B4 := u5.b
    have ap4 : Apt D B4 := u5.apt C j ap
    have kk : k - i = (k - (i + 1)) + 1 := by omega
    refine body B4 ds d es vs lb4 ri hmem hes dvs s H0 C' cl fp (m + (k - (i + 1)) * n2) H4 u5.s ap4 (by rw [kk, Nat.add_mul, Nat.one_mul, ← Nat.add_assoc] at j4; exact j4) _ fun v r B6 H6 u6 j6 dv re => ?_
    have hB6A : B6 A = none := by
      cases h : B6 A with
      | none => rfl
      | some o =>
        rcases u6.n A (by rw [h]; simp) with y | y | ⟨⟨ps, y⟩, _⟩
        · exact absurd hB4A y
        · rw [hH4A] at y; cases y
        · rw [hH4A] at y; cases y
    have hlen2 : acc.length < sizeLine := by
      have e1 := dacc.length
      have e2 := rr.length
      rw [List.length_take] at e2
      omega
    have u7 := u5.trans C j4 u6
    refine ⟨acc, u6.h.keep A _ hAD hH4A (fun ps z => by cases z), hlen2, B6, acc ++ [v], rs ++ [r], (lb.trans u4.b).trans u6.b, ⟨u7.h.mut hA1, u7.b, u7.s.mut hB6A, u7.n⟩, O _ _ _ _ j6 hAD, hB6A, upd_same, (Ds.le (u4.b.trans u6.b) dacc).snoc dv, ?_⟩
    rw [ta]
    exact rr.snoc re
  · have ei : i = ds.length := by omega
    subst ei
    rw [List.take_length] at rr
    refine .inl ⟨w2, ?_⟩
    have hs8 : Le (upd B' A (.lst acc)) H' := u'.s.add hacc (fun ps z => by cases z)
    have u8 : UpX D B H1 (upd B' A (.lst acc)) H' := ⟨u'.h, u'.b.trans (Le.new hBA), hs8, fun a qa => by
      by_cases z : a = A
      · rw [z]
        exact .inr (.inl hA1)
      · rw [upd_ne z] at qa
        exact u'.n a qa⟩
    exact q A acc _ _ ds rs hA1 u8 (C.less _ _ _ jj (by omega)) upd_same hacc (Ds.le (Le.new hBA) dacc) ri rr
theorem ej_lc {n1 n2 k : Nat} {RI : List PyData → Prop} {RE : PyData → PyData → Prop} (C : Cells D J) (O : Off D J) (hc : X.calm = true) (nd : X.N.Nodup) (hi : EIJ X D J tg iter σ B n1 RI) (hk : ∀ ds, RI ds → ds.length ≤ k) (hks : k < sizeLine) (hb : BlkOk X.N X.env.scope scope own)
    (hg : ∀ s H C cl fp, EG (blkX X s H scope C cl fp) tg tjs pat) (hpat : ∀ ds, RI ds → ∀ d ∈ ds, ∃ es, pat d = some es ∧ es.length = tjs.length)
    (hw : ∀ vs : List V, vs.length = tjs.length → wipe (setsS (wipe σ (own.map (·.2))) tjs vs) (own.map (·.2)) = wipe σ (own.map (·.2)))
    (body : ∀ B' ds d es vs, Le B B' → RI ds → d ∈ ds → pat d = some es → Ds X.K B' vs es → ∀ s H C cl fp, EJ (blkX X s H scope C cl fp) D J elt (setsS (wipe σ (own.map (·.2))) tjs vs) B' n2 (RE d)) (hs : ∀ x, foldedSetIterable iter X.env x = pure x := by intro _; rfl) :
    EJ X D J (.ListComp elt [⟨tg, iter, [], 0⟩] scope pos) σ B (n1 + k * n2) (fun d => ∃ ds rs, d = .list rs ∧ RI ds ∧ Both RE ds rs) := fun m H1 l ap j Q q =>
  ⟨_, pe_lc (wi := WI X tg iter) (g := fun v σ H Q => ∀ s H0 C cl fp, WG (blkX X s H0 scope C cl fp) tg v σ H Q) (tt := fun σ H Q => ∀ s H0 C cl fp, WTs (blkX X s H0 scope C cl fp) [] σ H Q) (te := fun σ H Q => ∀ s H0 C cl fp, WE (blkX X s H0 scope C cl fp) elt σ H Q) hc nd pi_w hb
    (fun s H C cl fp => ⟨fun pins s' σ H' v u Q I r h => pg_w.run pins s' σ H' v u Q I r (h s H C cl fp)⟩) (fun s H C cl fp => ⟨fun pins s' σ H' Q I h => pts_w.run pins s' σ H' Q I (h s H C cl fp)⟩) (fun s H C cl fp => ⟨fun pins s' σ H' Q I h => pe_w.run pins s' σ H' Q I (h s H C cl fp)⟩) hs,
    lcJ_read C O hc nd hi hk hks hg hpat hw body m H1 l ap j Q fun A acc B2 H2 ds rs _ u jj e _ dv ri rr => q _ _ B2 H2 u jj (.new_lst e dv) ⟨ds, rs, rfl, ri, rr⟩⟩
end
end Tk


set_option Elab.async false
set_option linter.all false
set_option maxRecDepth 100000
set_option maxHeartbeats 2000000
namespace K0
open PySem PySem.Spec PyProof.Rows L2 GxR Tk
variable [LamTab]
abbrev sPick : Stmt := t__law_pick
abbrev sShuf : Stmt := t__law_shuffled
section
variable {P : Program} {w : World} {K : PySem.W.Frag} {mg : Str → Option Value} {base : Heap} {f : Addr} {fd : FuncData} {T : List Addr} {d lw lc : Addr}
abbrev KnTake (P : Program) (w : World) (K : PySem.W.Frag) (mg : Str → Option Value) (base : Heap) (T : List Addr) (d lw lc : Addr) : Prop := KnJ P w K mg base 2 "_law_take" ["draw", "many"] T d lw lc 1 1 takeP takeR
def pickP (ds : List PyData) : Prop := ∃ xs, ds = [.list xs] ∧ 0 < xs.length ∧ xs.length < 1000000
def pickR (ds : List PyData) (r : PyData) : Prop := ∃ xs, ds = [.list xs] ∧ r ∈ xs
theorem scPick : FnScope ["draw", "some"] ["draw", "some"] (defScope sPick) := ⟨rfl, rfl, rfl, by decide +kernel, rfl, by decide +kernel, by decide +kernel⟩
/-- take of what a pure expression is worth -/
theorem ej_take {X : Cx} {σ : L2.St} {B : Hp} {many : Int} {a : Expr} {p p2 pos : Pos} {j i : Nat} {y : Str} (F : KnTake P w K mg base T d lw lc) (hr : Room j X.A) (hk : 2 ≤ j) (t : Tbs T B) (hσ : σ[i]? = some (some (.ref d))) (ha : EE X a σ B (.int many)) (h0 : 0 < many) (h1 : many < 1000000)
    (eP : X.prog = P := by rfl) (ew : X.w = w := by rfl) (eK : X.K = K := by rfl) (em : X.mg = mg := by rfl) (eb : X.base = base := by rfl) (hg : Gl X "_law_take" := by rfl)
    (hN : X.N[i]? = some y := by rfl) (hv : Vis X.env.scope y := by first | exact Or.inl rfl | exact Or.inr (Or.inl rfl) | exact Or.inr (Or.inr rfl)) (hdy : (y == ("__debug__" : Str)) = false := by decide) (hcy : (y == ("__classdict__" : Str)) = false := by decide)
    (he : starEach [.Name y p2, a] X.env = (false, eval (.Name y p2) X.env) :: starEach [a] X.env := by rfl) (he2 : starEach [a] X.env = (false, eval a X.env) :: starEach [] X.env := by rfl) (hpl : (backTo pos (starEach [a] X.env)).any (·.1) = false := by rfl) :
    EJ X [d, lw, lc] (DJ d lw lc) (.Call (.Name "_law_take" p) [.Name y p2, a] [] pos) σ B 1 (fun r => ∃ i : Int, r = .int i ∧ 0 ≤ i ∧ i < many) := by
  have := ej_call (p := p) (pos := pos) (p2 := p2) (i := i) cells_DJ F hr hk t hσ (eaj_cons cells_DJ (ej_pure (R := (· = .int many)) cells_DJ ha rfl) (fun B' l => eaj_nil) he2) (fun ds h => by
    obtain ⟨e, r, rfl, rfl, rfl⟩ := h
    exact ⟨⟨many, rfl, h0, h1⟩, rfl⟩) eP ew eK em eb hg hN hv hdy hcy (by decide) he hpl
  refine this.weak cells_DJ (fun e h => ?_) (by omega)
  obtain ⟨ds, ⟨e1, r, rfl, rfl, rfl⟩, m, i, e2, rfl, i0, i1⟩ := h
  cases e2
  exact ⟨i, rfl, i0, i1⟩
theorem atI_mem {xs : List PyData} {i : Int} (h0 : 0 ≤ i) (h1 : i < xs.length) : ∃ x, atI xs i = some x ∧ x ∈ xs := by
  have hi : i.toNat < xs.length := by omega
  have e : Int.ofNat i.toNat = i := Int.toNat_of_nonneg h0
  have g := atI_nat (j := i.toNat) (List.getElem?_eq_getElem hi)
  refine ⟨xs[i.toNat], ?_, List.getElem_mem hi⟩
  exact (congrArg (atI xs) e).symm.trans g
theorem ok_pick (BL : Blt mg) (hTD : ∀ a ∈ [d, lw, lc], a ∉ T) (Ft : KnTake P w K mg base T d lw lc) (F : L2.Fun K "_law_pick" "_law_pick" sPick f fd) :
    FnOk P w K mg base CX0 3 f fd ["draw", "some"] (spJ K T [d, lw, lc] (DJ d lw lc) (.ref d) 1 1 pickP pickR) := by
  refine fn_draw hTD F scPick rfl fun cdv A outer s H vs B ds m Q E hr hcd t l ap j hd hl hp q => ?_
  obtain ⟨xs, rfl, n0, n1⟩ := hp
  obtain ⟨v1, rfl, h1⟩ := ds1 (K := K) hd
  refine wb_one (ws_retJ (n := 1) (R := (· ∈ xs)) l ap j ?_ fun v e B' H' u jj dv r => q v e B' H' u jj dv ⟨xs, rfl, r⟩)
  refine (ej_ix (n1 := 0) (n2 := 1) (R3 := (· ∈ xs)) cells_DJ ix_list ?_ (ej_pure (R := (· = .list xs)) cells_DJ (ee_var (i := 1) rfl h1) rfl) (ej_take Ft hr (by decide) t (i := 0) rfl (ee_len BL (ee_var (i := 1) rfl h1) rfl fun x z => by cases z) (by omega) (by omega))).weak cells_DJ (fun _ h => h) (by omega)
  refine rj_of fun d1 d2 h1 h2 => ?_
  obtain ⟨i, rfl, i0, i1⟩ := h2
  subst h1
  obtain ⟨x, e, hx⟩ := atI_mem i0 i1
  exact ⟨x, rr_ixL e, hx⟩
theorem seqIx {i : Int} {n : Nat} (h0 : 0 ≤ i) (h1 : i < n) : seqIndex? i n = some i.toNat := by
  have e : ¬ i < 0 := by omega
  unfold seqIndex?
  rw [if_neg e]
  have e2 : (decide (0 ≤ i) && decide (i < (n : Int))) = true := by rw [decide_eq_true h0, decide_eq_true h1]; rfl
  exact if_pos e2
/-- what may be put in another order -/
def easyD (x : PyData) : Prop := noDict x = true ∧ x.depth ≤ 1 ∧ okD x = true
/-- in another order -/
def shufP (ds : List PyData) : Prop := ∃ xs, ds = [.list xs] ∧ xs.length ≤ 90 ∧ (∀ x ∈ xs, easyD x)
def shufR (ds : List PyData) (r : PyData) : Prop := ∃ xs ys, ds = [.list xs] ∧ r = .list ys ∧ ys.Perm xs
theorem scShuf : FnScope ["draw", "some", "left", "found"] ["draw", "some"] (defScope sShuf) := ⟨rfl, rfl, rfl, by decide +kernel, rfl, by decide +kernel, by decide +kernel⟩
theorem ndShuf : List.Nodup (["draw", "some", "left", "found"] : List Str) := by decide +kernel
theorem strs_shaped {xs : List PyData} (h : ∀ x ∈ xs, easyD x) : noDict (.list xs) = true ∧ SeqAt.shaped (.list xs) = true := by
  have n : noDicts xs = true := noDicts_of fun x hx => (h x hx).1
  have o : okDs xs = true := okDs_of fun x hx => (h x hx).2.2
  refine ⟨n, ?_⟩
  have dp : PyData.depthAll xs ≤ 1 := depthAll_le fun x hx => (h x hx).2.1
  unfold SeqAt.shaped
  rw [Bool.and_eq_true]
  refine ⟨?_, decide_eq_true ?_⟩
  · simp only [PyData.canLay0]
    exact okDs_lay o n
  · simp only [PyData.depth]
    omega
theorem eqv_cons_nil {x : PyData} {xs : List PyData} : PyData.eqv (.list (x :: xs)) (.list []) = false := by
  simp [PyData.eqv, PyData.eqvAll]
theorem erase_split : ∀ {xs : List PyData} {i : Nat} {x : PyData}, xs[i]? = some x → xs.Perm (x :: xs.eraseIdx i)
  | y :: xs, 0, x, h => by cases h; exact List.Perm.refl _
  | y :: xs, i + 1, x, h => by
    have p := erase_split (xs := xs) (i := i) (x := x) h
    exact (p.cons y).trans (List.Perm.swap x y _)
theorem ds_erase {H : Hp} : ∀ {vs : List V} {ds : List PyData} (i : Nat), Ds K H vs ds → Ds K H (vs.eraseIdx i) (ds.eraseIdx i)
  | _, _, _, .nil => by simp only [List.eraseIdx_nil]; exact .nil
  | _, _, 0, .cons h t => t
  | _, _, i + 1, .cons h t => .cons h (ds_erase i t)
theorem ok_shuf (BL : Blt mg) (hTD : ∀ a ∈ [d, lw, lc], a ∉ T) (Ft : KnTake P w K mg base T d lw lc) (F : L2.Fun K "_law_shuffled" "_law_shuffled" sShuf f fd) :
    FnOk P w K mg base CX0 3 f fd ["draw", "some"] (spJ K T [d, lw, lc] (DJ d lw lc) (.ref d) 1 90 shufP shufR) := by
  refine fn_draw hTD F scShuf rfl fun cdv A outer s H vs B ds m Q E hr hcd t l ap j hd hl hp q => ?_
  obtain ⟨xs, rfl, hn, hs⟩ := hp
  obtain ⟨v1, rfl, h1⟩ := ds1 (K := K) hd
  have hu := hu64 hr
  refine wb_cons ⟨_, ps_par (i := 2) (j := 3) rfl ndShuf rfl rfl (by decide) rfl rfl pa_w rfl, ?_⟩
  -- left, a new list
  refine ⟨_, pa_cons (pe_callTy c_list rfl BL.list boot_list' (pa_cons (pe_var (i := 1) rfl (Or.inl rfl)) pa_nil) (by decide) (by decide) rfl rfl) (pa_cons (pe_lst pa_nil) pa_nil) rfl, _, rfl, ?_⟩
  cases h1 with
  | lst s1 t1 hds =>
  rename_i a us
  refine ⟨a, us, rfl, .inl (sqL_le l s1), fun ll hll => ⟨by decide, fun lf hlf => ⟨_, _, rfl, ?_⟩⟩⟩
  have hlf0 : H lf = none := (Le.new hll).there lf hlf
  have hne : lf ≠ ll := fun z => by rw [z, upd_same] at hlf; cases hlf
  have e1 : (upd (upd H ll (.lst us)) lf (.lst [])) ll = some (.lst us) := by rw [upd_ne (fun z => hne z.symm)]; exact upd_same
  have e2 : (upd (upd H ll (.lst us)) lf (.lst [])) lf = some (.lst []) := upd_same
  have l2 : Le H (upd (upd H ll (.lst us)) lf (.lst [])) := (Le.new hll).trans (Le.new hlf)
  have hBl : B ll = none := l.there ll hll
  have hBf : B lf = none := l.there lf hlf0
  have hDl : ll ∉ [d, lw, lc] := fun z => by
    obtain ⟨o, e, _⟩ := (cells_DJ (d := d) (lw := lw) (lc := lc)).at_ _ H j ll z
    rw [hll] at e
    cases e
  have hDf : lf ∉ [d, lw, lc] := fun z => by
    obtain ⟨o, e, _⟩ := (cells_DJ (d := d) (lw := lw) (lc := lc)).at_ _ H j lf z
    rw [hlf0] at e
    cases e
  have lx0 : LeX [d, lw, lc] H (upd (upd H ll (.lst us)) lf (.lst [])) := .of l2
  have lb0 : Le B (upd (upd H ll (.lst us)) lf (.lst [])) := l.trans l2
  have j0 : DJ d lw lc (m + xs.length) (upd (upd H ll (.lst us)) lf (.lst [])) := cells_DJ.le _ _ _ (cells_DJ.less _ _ _ j (by omega)) l2
  generalize upd (upd H ll (.lst us)) lf (.lst []) = H0 at e1 e2 lx0 lb0 j0 ⊢
  refine wb_cons ⟨_, ps_while PassesOwn.never pt_w pss_w, ?_⟩
  refine ⟨fun k σ' H' => ∃ (ls fs : List PyData) (lv fv : List V), σ' = [some (.ref d), some (.ref a), some (.ref ll), some (.ref lf)] ∧ k = ls.length ∧ H' ll = some (.lst lv) ∧ H' lf = some (.lst fv) ∧ LeX [d, lw, lc] H H' ∧ Le B H' ∧ Ds K B lv ls ∧ Ds K B fv fs ∧ (fs ++ ls).Perm xs ∧ DJ d lw lc (m + ls.length) H',
    ⟨xs.length, xs, [], us, [], rfl, rfl, e1, e2, lx0, lb0, hds, .nil, by rw [List.nil_append], j0⟩, ?_⟩
  rintro k σ' H' ⟨ls, fs, lv, fv, rfl, rfl, hl1, hf1, lx1, lb1, dl, df, pm, j1⟩
  have hls : ∀ x ∈ ls, easyD x := fun x hx => hs x (pm.mem_iff.mp (List.mem_append_right _ hx))
  obtain ⟨nd, sh⟩ := strs_shaped hls
  have lenp := pm.length_eq
  rw [List.length_append] at lenp
  refine (et_cmp (k := !PyData.eqv (.list ls) (.list [])) (op_neD hu) (rr_neD nd rfl sh (by decide)) (ee_var (i := 2) rfl (.new_lst hl1 (Ds.le lb1 dl))) (ee_lst ea_nil (by decide))) H' (Le.refl _) _ fun H2 l2 => ?_
  have hl2 : H2 ll = some (.lst lv) := l2.keep ll _ hl1 (fun ps z => by cases z)
  have hf2 : H2 lf = some (.lst fv) := l2.keep lf _ hf1 (fun ps z => by cases z)
  have lx2 : LeX [d, lw, lc] H H2 := lx1.trans (.of l2)
  have lb2 : Le B H2 := lb1.trans l2
  have j2 := cells_DJ.le _ _ _ j1 l2
  cases ls with
  | nil =>
    refine (if_neg (by decide)).mpr ?_
    rw [List.append_nil] at pm
    have hs2 : Le (upd B lf (.lst fv)) H2 := lb2.add hf2 (fun ps z => by cases z)
    refine wb_one (ws_ret (B := upd B lf (.lst fv)) (d := .list fs) hs2 (ee_var (i := 3) rfl (.new_lst upd_same (Ds.le (Le.new hBf) df))) fun v B3 H3 u3 d3 => ?_)
    have ux : UpX [d, lw, lc] B H (upd B lf (.lst fv)) H2 := ⟨lx2, Le.new hBf, hs2, fun x hx => by
      by_cases z : x = lf
      · rw [z]; exact .inr (.inl hlf0)
      · rw [upd_ne z] at hx; exact .inl hx⟩
    exact q v _ B3 H3 (ux.trans cells_DJ j2 (.of u3)) (cells_DJ.le m _ _ (cells_DJ.less _ _ _ j2 (by omega)) u3.h) d3 ⟨xs, fs, rfl, rfl, pm⟩
  | cons y ls =>
    rw [eqv_cons_nil]
    refine (if_pos rfl).mpr ?_
    have hk : Le (upd B ll (.lst lv)) H2 := lb2.add hl2 (fun ps z => by cases z)
    have apk : Apt [d, lw, lc] (upd B ll (.lst lv)) := fun x hx => by
      rw [upd_ne fun z => hDl (by rw [← z]; exact hx)]
      exact ap x hx
    have tk : Tbs T (upd B ll (.lst lv)) := t.le (Le.new hBl)
    have jk : DJ d lw lc ((m + ls.length) + 1) H2 := by
      rw [List.length_cons] at j2
      exact cells_DJ.less _ _ _ j2 (by omega)
    have len8 : (y :: ls).length ≤ 90 := by omega
    refine ⟨fun σ2 H5 => ∃ (ls' fs : List PyData) (lv fv : List V), ls'.length = ls.length ∧ σ2 = [some (.ref d), some (.ref a), some (.ref ll), some (.ref lf)] ∧ H5 ll = some (.lst lv) ∧ H5 lf = some (.lst fv) ∧ LeX [d, lw, lc] H H5 ∧ Le B H5 ∧ Ds K B lv ls' ∧ Ds K B fv fs ∧ (fs ++ ls').Perm xs ∧ DJ d lw lc (m + ls'.length) H5,
      fun σ2 H5 ⟨ls', fs, lv, fv, z0, z⟩ => ⟨ls'.length, by rw [z0, List.length_cons]; omega, ls', fs, lv, fv, z.1, rfl, z.2⟩, ?_⟩
    refine wb_one ⟨_, ps_expr (pe_bm PySem.F.plainAttrs_list PySem.F.slot_list_append PySem.F.type_list_append mt_append (pe_var (i := 3) rfl (Or.inl rfl)) (pa_cons (pe_bm PySem.F.plainAttrs_list PySem.F.slot_list_pop PySem.F.type_list_pop mt_popAt (pe_var (i := 2) rfl (Or.inl rfl)) (pa_cons pe_w pa_nil)) pa_nil)),
      _, rfl, .inl ⟨rfl, _, SqL.of hf2⟩, _, rfl, .inl ⟨rfl, _, SqL.of hl2⟩, ?_⟩
    refine (ej_take (B := upd B ll (.lst lv)) (many := ((y :: ls).length : Int)) Ft hr (by decide) tk (i := 0) rfl (ee_len BL (ee_var (i := 2) rfl (.new_lst upd_same (Ds.le (Le.new hBl) dl))) rfl fun x z => by cases z) (by rw [List.length_cons]; omega) (by omega)) (m + ls.length) H2 hk apk jk _ fun v e B3 H3 u3 j3 dv re => ?_
    obtain ⟨i, rfl, i0, i1⟩ := re
    cases dv
    have hl3 : H3 ll = some (.lst lv) := u3.h.keep ll _ hDl hl2 (fun ps z => by cases z)
    have hf3 : H3 lf = some (.lst fv) := u3.h.keep lf _ hDf hf2 (fun ps z => by cases z)
    have ix : i.toNat < (y :: ls).length := by omega
    obtain ⟨x, hx1, hx2⟩ := dl.get (List.getElem?_eq_getElem ix)
    have lvl := dl.length
    refine ⟨ll, lv, i, i.toNat, x, rfl, rfl, hl3, by omega, by omega, seqIx i0 (by rw [lvl]; exact i1), hx1, ?_⟩
    refine ⟨lf, fv, x, rfl, rfl, by rw [upd_ne hne]; exact hf3, ?_, ?_⟩
    · rw [df.length]
      exact Nat.lt_of_le_of_lt (show fs.length ≤ 90 by omega) (by decide)
    have pe := erase_split (List.getElem?_eq_getElem ix)
    have el : ((y :: ls).eraseIdx i.toNat).length = ls.length := by
      have := pe.length_eq
      simp only [List.length_cons] at this ⊢
      omega
    have lx4 : LeX [d, lw, lc] H (upd (upd H3 ll (.lst (lv.eraseIdx i.toNat))) lf (.lst (fv ++ [x]))) := ((lx2.trans u3.h).mut hll).mut hlf0
    have lb4 : Le B (upd (upd H3 ll (.lst (lv.eraseIdx i.toNat))) lf (.lst (fv ++ [x]))) := (((Le.new hBl).trans (u3.b.trans u3.s)).mut hBl).mut hBf
    obtain ⟨ws, cs, r, t0, g1, g2, g3, g4, g5⟩ := j3
    have off : ∀ {b : Addr} {o : HO}, b ∈ [d, lw, lc] → H3 b = some o → (upd (upd H3 ll (.lst (lv.eraseIdx i.toNat))) lf (.lst (fv ++ [x]))) b = some o := fun {b o} hb e => by
      rw [upd_ne fun z => hDf (by rw [← z]; exact hb), upd_ne fun z => hDl (by rw [← z]; exact hb)]
      exact e
    refine ⟨(y :: ls).eraseIdx i.toNat, fs ++ [(y :: ls)[i.toNat]], lv.eraseIdx i.toNat, fv ++ [x], el, rfl, by rw [upd_ne (fun z => hne z.symm)]; exact upd_same, upd_same, lx4, lb4, ds_erase _ dl, df.snoc hx2, ?_, ?_⟩
    · refine List.Perm.trans ?_ pm
      rw [List.append_assoc]
      exact List.Perm.append_left fs pe.symm
    · rw [el]
      exact ⟨ws, cs, r, t0, off List.mem_cons_self g1, off (List.mem_cons_of_mem _ List.mem_cons_self) g2, off (List.mem_cons_of_mem _ (List.mem_cons_of_mem _ List.mem_cons_self)) g3, g4, g5⟩
end
end K0


set_option Elab.async false
set_option linter.all false
set_option maxRecDepth 100000
set_option maxHeartbeats 2000000
namespace K0
open PySem PySem.Spec PyProof.Rows L2 GxR Tk
variable [LamTab]
theorem rr_ge {K : PySem.W.Frag} {H : Hp} {i j : Int} : RR K (rI0 fun i j => .bl (decide (j ≤ i))) H (.int i) (.int j) (.bool (decide (j ≤ i))) := fun B H1 l l1 x y hx hy Q q => by
  cases hx
  cases hy
  exact ⟨i, j, rfl, rfl, q _ B H1 (Up.refl l1) (.bl _)⟩
def rAbs : List V → Hp → VK → Prop := fun xs H Q => ∃ i, xs = [V.int i] ∧ Q (.int (if i < 0 then -i else i)) H
theorem c_abs {X : Cx} : CallR X (.builtin "abs") rAbs := call_abs
theorem boot_abs' : bootBuiltins "abs" = some (.builtin "abs") := by decide +kernel
theorem ee_abs {X : Cx} {e : Expr} {σ : L2.St} {H : Hp} {i : Int} {p pos : Pos} (BL : X.mg "abs" = none) (ha : EE X e σ H (.int i)) (hg : Gl X "abs" := by rfl) (he : starEach [e] X.env = (false, eval e X.env) :: starEach [] X.env := by rfl) :
    EE X (.Call (.Name "abs" p) [e] [] pos) σ H (.int (if i < 0 then -i else i)) := ee_callB c_abs hg BL boot_abs' (fun B H1 l l1 vs hv Q q => by
      obtain ⟨v, rfl, h⟩ := ds1 hv
      cases h
      exact ⟨i, rfl, q _ B H1 (Up.refl l1) (.int _)⟩) (ea_cons ha ea_nil he) (by decide) (by decide) he rfl
/-- a def of any promise -/
theorem fn_any {P : Program} {w : World} {K : PySem.W.Frag} {mg : Str → Option Value} {base : Heap} {x qual : Str} {st : Stmt} {fa : Addr} {fd : FuncData} {N ps : List Str} {lv : Nat} {sp : Sp}
    (F : L2.Fun K x qual st fa fd) (S : FnScope N ps (defScope st)) (hn : ∀ vs H Q E, sp vs H Q E → vs.length = ps.length)
    (hbody : ∀ (cdv : Value) (A : Around) (outer : List Env) (s : Shared) (H : Hp) (vs : List V) (Q : VK) (E : XK), Room lv (A.deeper (envOfC qual (defScope st) s.heap.objs.size fa cdv)) → fd.code = cdv → sp vs H Q E →
      WB (cxOf CX0 P w K mg base N qual (defScope st) fa cdv A outer s H E).nox (defBody st) { nx := fun _ H' => Q .non H', rt := Q } (start N vs) H) :
    FnOk P w K mg base CX0 (lv + 1) fa fd ps sp := by
  obtain ⟨oc, od, kV, doc, pm, an, cdv, ct, osl, rfl, lk, hcd⟩ := F.ex
  refine fn_of lk hcd S (fun vs H Q E h => hn vs H Q E h) fun A outer s H vs Q E hr h => ?_
  obtain ⟨t, t1, t2⟩ := hbody cdv A outer s H vs Q E hr rfl h
  exact ⟨t, t1.nox, t2⟩
abbrev sBegun : Stmt := t__law_begun
def spBegun (K : PySem.W.Frag) : Sp := fun vs H Q _ => ∃ (a : Addr) (B : Hp) (xs : List Int), vs = [.ref a] ∧ Le B H ∧ Dt K B (.ref a) (.list (xs.map PyData.int)) ∧ xs.length ≤ 1000 ∧
  ∀ (d lw lc : Addr) (H' : Hp), Le H H' → H d = none → H lw = none → H lc = none → lw ≠ lc → DJ d lw lc (2 ^ 40) H' → Q (.ref d) H'
def absI (i : Int) : Int := if i < 0 then -i else i
def wideB : PyData → Bool
  | .int i => decide ((10 : Int) ^ (18 : Int).toNat ≤ absI i)
  | _ => false
def wideD : PyData → PyData
  | .int i => .int (absI i - (10 : Int) ^ (18 : Int).toNat)
  | _ => .none
def cellD : PyData → PyData
  | .int i => .int (absI i % 2147483629)
  | _ => .none
theorem ints_map {xs : List Int} {p : PyData → Bool} {f : PyData → PyData} (g : Int → Int) (h : ∀ i, f (.int i) = .int (g i)) : ∃ ys : List Int, ((xs.map PyData.int).filter p).map f = ys.map PyData.int := by
  induction xs with
  | nil => exact ⟨[], rfl⟩
  | cons x xs ih =>
    obtain ⟨ys, e⟩ := ih
    rw [List.map_cons, List.filter_cons]
    split
    · exact ⟨g x :: ys, by rw [List.map_cons, e, h]; rfl⟩
    · exact ⟨ys, e⟩
theorem ds_ints {K : PySem.W.Frag} {H : Hp} : ∀ {ys : List Int} {vs : List V}, Ds K H vs (ys.map PyData.int) → vs = ys.map V.int
  | [], _, .nil => rfl
  | y :: ys, _, .cons h t => by
    cases h
    rw [ds_ints t]
    rfl
section
variable {P : Program} {w : World} {K : PySem.W.Frag} {mg : Str → Option Value} {base : Heap} {f : Addr} {fd : FuncData} {T : List Addr} {d lw lc : Addr}
theorem scBegun : FnScope ["script", "wide", "grain"] ["script"] (defScope sBegun) := ⟨rfl, rfl, rfl, by decide +kernel, rfl, by decide +kernel, by decide +kernel⟩
theorem ndBegun : List.Nodup (["script", "wide", "grain"] : List Str) := by decide +kernel
theorem ok_begun (BL : Blt mg) (habs : mg "abs" = none) (F : L2.Fun K "_law_begun" "_law_begun" sBegun f fd) : FnOk P w K mg base CX0 1 f fd ["script"] (spBegun K) := by
  refine fn_any F scBegun (fun vs H Q E h => by obtain ⟨a, B, xs, rfl, _⟩ := h; rfl) fun cdv A outer s H vs Q E hr hcd h => ?_
  obtain ⟨a, B, xs, rfl, l, dv, hn, q⟩ := h
  have t0 : ∀ i : Int, ∀ {X : Cx} {σ : L2.St} {B' : Hp} {e : Expr} {pos pos2 : Pos}, X.mg = mg → Gl X "abs" → EE X e σ B' (.int i) → starEach [e] X.env = (false, eval e X.env) :: starEach [] X.env → EE X (.Call (.Name "abs" pos) [e] [] pos2) σ B' (.int (absI i)) := fun i X σ B' e pos pos2 hm hg he hs => ee_abs (by rw [hm]; exact habs) he hg hs
  refine wb_cons (ws_setLc (own := [("grain", 2)]) (tjs := [2]) (pat := patN) (i := 1) wideB wideD l rfl ndBegun (ei_lst (ee_var (i := 0) rfl dv))
    (blkOk_by (show blkC ["script", "wide", "grain"] (defScope sBegun) _ [("grain", 2)] = true by decide +kernel)) (fun s H C cl fp => eg_name ndBegun) (fun d hd => ⟨[d], rfl, rfl⟩) (fun vs hv => ?_)
    (fun B' e es vs lb hd he hv s H C cl fp => ?_) (fun B' e es vs lb hd hb he hv s H C cl fp => ?_) ?_ (fun lw wl B1 H1 n1 u1 e1 e2 dw => ?_) (sw_true rfl rfl rfl (by decide +kernel)))
  · match vs, hv with
    | [a], _ => rfl
  · obtain ⟨i, _, rfl⟩ := List.mem_map.mp hd
    cases he
    obtain ⟨v, rfl, hx⟩ := ds1 (K := K) hv
    exact ets_one (et_cmp op_ge rr_ge (t0 i rfl rfl (ee_var (i := 2) rfl hx) rfl) (ee_op op_pow (rr_I ⟨by decide, by decide, by decide⟩) ee_int ee_int))
  · obtain ⟨i, _, rfl⟩ := List.mem_map.mp hd
    cases he
    obtain ⟨v, rfl, hx⟩ := ds1 (K := K) hv
    exact ee_op op_sub rr_sub (t0 i rfl rfl (ee_var (i := 2) rfl hx) rfl) (ee_op op_pow (rr_I ⟨by decide, by decide, by decide⟩) ee_int ee_int)
  · rw [List.length_map]
    exact Nat.lt_of_le_of_lt hn (by decide)
  obtain ⟨ws, hws⟩ := ints_map (xs := xs) (p := wideB) (f := wideD) (fun i => absI i - (10 : Int) ^ (18 : Int).toNat) fun _ => rfl
  rw [hws] at dw
  have ewl := ds_ints dw
  subst ewl
  refine wb_one ⟨_, ps_ret (pe_disp (pps_cons pe_str (pe_var (i := 1) rfl (Or.inl rfl)) (pps_cons pe_str pe_w (pps_cons pe_str pe_int (pps_cons pe_str pe_int pps_nil)))) (by rfl) (by rfl) (fun z => by cases z) (by decide)), fun p hp => ⟨_, rfl, ?_⟩⟩
  have hB1p : B1 p = none := u1.s.there p hp
  have dv1 : Dt K B1 (.ref a) (.list (xs.map PyData.int)) := Dt.le u1.b dv
  refine ee_lcR (own := [("grain", 2)]) (tjs := [2]) (pat := patN) (fun _ => true) cellD rfl ndBegun (ei_lst (ee_var (i := 0) rfl dv1))
    (blkOk_by (show blkC ["script", "wide", "grain"] (defScope sBegun) _ [("grain", 2)] = true by decide +kernel)) (fun s H C cl fp => eg_name ndBegun) (fun d hd => ⟨[d], rfl, rfl⟩) (fun vs hv => ?_)
    (fun B' e es vs lb hd he hv s H C cl fp => ets_nil) (fun B' e es vs lb hd hb he hv s H C cl fp => ?_) ?_ (fun _ => rfl) _ (u1.s.trans (Le.new hp)) _ fun lc cl B2 H2 n2 u2 e3 e4 dc => ?_
  · match vs, hv with
    | [a], _ => rfl
  · obtain ⟨i, _, rfl⟩ := List.mem_map.mp hd
    cases he
    obtain ⟨v, rfl, hx⟩ := ds1 (K := K) hv
    exact ee_op op_mod (rr_I (by decide)) (ee_int1 BL (t0 i rfl rfl (ee_var (i := 2) rfl hx) rfl)) ee_int
  · rw [List.length_map]
    exact Nat.lt_of_le_of_lt hn (by decide)
  obtain ⟨cs, hcs⟩ := ints_map (xs := xs) (p := fun _ => true) (f := cellD) (fun i => absI i % 2147483629) fun _ => rfl
  rw [hcs] at dc
  have ecl := ds_ints dc
  subst ecl
  have hp2 : H2 p = some (.dK []) := u2.h.keep p _ upd_same (fun ps z => by cases z)
  have hlp : lw ≠ p := fun z => by rw [z, hp] at e2; cases e2
  have hcp : lc ≠ p := fun z => by rw [z, upd_same] at n2; cases n2
  have hlw1 : (upd H1 p (.dK [])) lw = some (.lst (ws.map V.int)) := by rw [upd_ne hlp]; exact e2
  have hlc : lw ≠ lc := fun z => by rw [z, n2] at hlw1; cases hlw1
  have hlw2 : H2 lw = some (.lst (ws.map V.int)) := u2.h.keep lw _ hlw1 (fun ps z => by cases z)
  refine ⟨hp2, [(.inr "wide", .ref lw), (.inr "cells", .ref lc), (.inr "rest", .int 0), (.inr "turn", .int 0)], rfl, (by show 4 ≤ 15; decide), ?_⟩
  have em : mergeK [] [(.inr "wide", .ref lw), (.inr "cells", .ref lc), (.inr "rest", .int 0), (.inr "turn", .int 0)] = drK lw lc 0 0 := by rfl
  rw [em]
  have hHp : H p = none := u1.h.there p hp
  have l2 : Le H H2 := (u1.h.trans (Le.new hp)).trans u2.h
  refine q p lw lc _ (l2.mut hHp) hHp n1 ?_ hlc ⟨ws, cs, 0, 0, upd_same, by rw [upd_ne hlp]; exact hlw2, by rw [upd_ne hcp]; exact e4, by decide, by decide⟩
  exact u1.h.there lc ((Le.new hp).there lc n2)
end
end K0


set_option Elab.async false
set_option linter.all false
set_option maxRecDepth 100000
set_option maxHeartbeats 1000000
namespace Tk
open PySem PySem.Spec PyProof.Rows L2 GxR Gx
variable [LamTab]
/-- a call of one that draws, with one more argument -/
theorem ej_call1 {X : Cx} {D : List Addr} {J : Nat → Hp → Prop} {a : Expr} {σ : L2.St} {B : Hp} {n : Nat} {T : List Addr} {lv : Nat} {pre : List PyData → Prop} {R : List PyData → PyData → Prop} {x y : Str} {ps : List Str} {dr : V} {d1 : PyData}
    {P : Program} {w : World} {K : PySem.W.Frag} {mg : Str → Option Value} {base : Heap} {p p2 pos : Pos} {j i : Nat} (C : Cells D J) (F : Kn P w K mg base lv x ps (spJ K T D J dr 1 n pre R)) (hr : Room j X.A) (hk : lv ≤ j) (t : Tbs T B) (hσ : σ[i]? = some (some dr))
    (ha : EE X a σ B d1) (hp : pre [d1]) (eP : X.prog = P := by rfl) (ew : X.w = w := by rfl) (eK : X.K = K := by rfl) (em : X.mg = mg := by rfl) (eb : X.base = base := by rfl) (hg : Gl X x := by rfl)
    (hN : X.N[i]? = some y := by rfl) (hv : Vis X.env.scope y := by first | exact Or.inl rfl | exact Or.inr (Or.inl rfl) | exact Or.inr (Or.inr rfl)) (hdy : (y == ("__debug__" : Str)) = false := by decide) (hcy : (y == ("__classdict__" : Str)) = false := by decide)
    (hdb : (x == ("__debug__" : Str)) = false := by decide) (he : starEach [.Name y p2, a] X.env = (false, eval (.Name y p2) X.env) :: starEach [a] X.env := by rfl) (he2 : starEach [a] X.env = (false, eval a X.env) :: starEach [] X.env := by rfl) (hpl : (backTo pos (starEach [a] X.env)).any (·.1) = false := by rfl) :
    EJ X D J (.Call (.Name x p) [.Name y p2, a] [] pos) σ B n (R [d1]) := by
  have := ej_call (p := p) (pos := pos) (p2 := p2) (i := i) C F hr hk t hσ (eaj_cons C (ej_pure (R := (· = d1)) C ha rfl) (fun B' l => eaj_nil) he2) (fun ds h => by
    obtain ⟨e, r, rfl, rfl, rfl⟩ := h
    exact ⟨hp, rfl⟩) eP ew eK em eb hg hN hv hdy hcy hdb he hpl
  refine this.weak C (fun e h => ?_) (by omega)
  obtain ⟨ds, ⟨e1, r, rfl, rfl, rfl⟩, hx⟩ := h
  exact hx
end Tk


set_option Elab.async false
set_option linter.all false
set_option maxRecDepth 100000
set_option maxHeartbeats 2000000
namespace K0
open PySem PySem.Spec PyProof.Rows L2 GxR Tk
variable [LamTab]
abbrev sNames : Stmt := t__law_names
theorem off_DJ {d lw lc : Addr} : Off [d, lw, lc] (DJ d lw lc) := fun n H p o ⟨ws, cs, r, t, h1, h2, h3, h4, h5⟩ hp => by
  have k : ∀ {b : Addr}, b ∈ [d, lw, lc] → b ≠ p := fun hb z => hp (z ▸ hb)
  exact ⟨ws, cs, r, t, by rw [upd_ne (k List.mem_cons_self)]; exact h1, by rw [upd_ne (k (List.mem_cons_of_mem _ List.mem_cons_self))]; exact h2, by rw [upd_ne (k (List.mem_cons_of_mem _ (List.mem_cons_of_mem _ List.mem_cons_self)))]; exact h3, h4, h5⟩
/-- a list's part -/
theorem ej_cutL {X : Cx} {D : List Addr} {J : Nat → Hp → Prop} {e : Expr} {σ : L2.St} {B : Hp} {n : Nat} {R : List PyData → Prop} {hi : Option Expr} {j : Option Int} {pos p2 : Pos} (C : Cells D J) (ha : EJ X D J e σ B n (fun d => ∃ ds, d = .list ds ∧ R ds)) (h2 : EO X hi σ B j) :
    EJ X D J (.Subscript e (.Slice none hi none p2) pos) σ B n (fun d => ∃ ds, d = .list (Tk.cutD ds none j) ∧ R ds) := fun m H1 l ap jj Q q =>
  ⟨_, pe_slice sl_list pe_w po_none po_w, ha m H1 l ap jj _ fun v d B2 H2 u j2 dv r => h2 H2 (u.b.trans u.s) _ fun H4 l4 => by
    obtain ⟨ds, rfl, r⟩ := r
    have u4 := u.trans C j2 (.of (Up.le u.s l4))
    cases dv with
    | lst s t h0 =>
      refine ⟨_, _, rfl, sqL_le u4.s s, fun p hp => q _ _ _ _ (u4.new hp fun ps z => by cases z) (C.le _ _ _ (C.le _ _ _ j2 l4) (Le.new hp)) (.new_lst upd_same ?_) ⟨ds, rfl, r⟩⟩
      unfold cutV Tk.cutD
      rw [h0.length]
      exact ((Ds.le (Le.new (u4.s.there p hp)) h0).drop _).take _⟩
def plusS (x : PyData) : PyData → PyData
  | .str b => match x with
    | .str a => .str (a ++ b)
    | _ => .none
  | _ => .none
def stemAcc (vs : List PyData) : List PyData → List PyData → List PyData
  | acc, [] => acc
  | acc, x :: xs => stemAcc vs (acc ++ (vs.filter fun _ => true).map (plusS x)) xs
def consS : Str := "bcdfghklmnprstvwxz"
def vowS : Str := "aeiou"
def stems : List PyData := stemAcc (Tk.signs vowS) [] (Tk.signs consS)
theorem stem_take {vs acc : List PyData} : ∀ {xs : List PyData} {i : Nat} {x : PyData}, xs[i]? = some x → stemAcc vs acc (xs.take (i + 1)) = stemAcc vs acc (xs.take i) ++ (vs.filter fun _ => true).map (plusS x)
  | y :: xs, 0, x, h => by cases h; rfl
  | y :: xs, i + 1, x, h => by
    rw [List.take_succ_cons, List.take_succ_cons]
    exact stem_take (acc := acc ++ (vs.filter fun _ => true).map (plusS y)) (xs := xs) (i := i) h
theorem stem_len {vs : List PyData} : ∀ {xs acc : List PyData}, (stemAcc vs acc xs).length = acc.length + vs.length * xs.length
  | [], acc => by simp [stemAcc]
  | x :: xs, acc => by
    have e : (vs.filter fun _ => true) = vs := List.filter_eq_self.mpr fun _ _ => rfl
    show (stemAcc vs _ xs).length = _
    rw [stem_len, List.length_append, List.length_map, e, List.length_cons, Nat.mul_succ]
    omega
def stemB : PyData → Bool
  | .str z => decide (z.cps.size = 2) && okD (.str z)
  | _ => false
theorem stems_ok : stems.all stemB = true := by decide +kernel
theorem stems_len : stems.length = 90 := by decide +kernel
def sufs : List PyData := [.str "q", .str "k", .str "x", .str "mu"]
/-- a name of a stem -/
def nameOf (s n : PyData) : Prop := ∃ z b, s = .str z ∧ .str b ∈ sufs ∧ n = .str (z ++ b)
def namesP (ds : List PyData) : Prop := ∃ m : Int, ds = [.int m] ∧ 0 ≤ m ∧ m ≤ 3
def namesR (ds : List PyData) (r : PyData) : Prop := ∃ ss ys zs : List PyData, r = .list ys ∧ ss.Perm stems ∧ zs = ss.take ys.length ∧ ys.length ≤ 3 ∧ Both nameOf zs ys
section
variable {P : Program} {w : World} {K : PySem.W.Frag} {mg : Str → Option Value} {base : Heap} {f : Addr} {fd : FuncData} {T : List Addr} {d lw lc : Addr}
abbrev KnShuf (P : Program) (w : World) (K : PySem.W.Frag) (mg : Str → Option Value) (base : Heap) (T : List Addr) (d lw lc : Addr) : Prop := KnJ P w K mg base 3 "_law_shuffled" ["draw", "some"] T d lw lc 1 90 shufP shufR
abbrev KnPick (P : Program) (w : World) (K : PySem.W.Frag) (mg : Str → Option Value) (base : Heap) (T : List Addr) (d lw lc : Addr) : Prop := KnJ P w K mg base 3 "_law_pick" ["draw", "some"] T d lw lc 1 1 pickP pickR
/-- pick of a list that is known -/
theorem ej_pick {X : Cx} {σ : L2.St} {B : Hp} {xs : List PyData} {a : Expr} {p p2 pos : Pos} {j i : Nat} {y : Str} (F : KnPick P w K mg base T d lw lc) (hr : Room j X.A) (hk : 3 ≤ j) (t : Tbs T B) (hσ : σ[i]? = some (some (.ref d))) (ha : EE X a σ B (.list xs)) (h0 : 0 < xs.length) (h1 : xs.length < 1000000)
    (eP : X.prog = P := by rfl) (ew : X.w = w := by rfl) (eK : X.K = K := by rfl) (em : X.mg = mg := by rfl) (eb : X.base = base := by rfl) (hg : Gl X "_law_pick" := by rfl)
    (hN : X.N[i]? = some y := by rfl) (hv : Vis X.env.scope y := by first | exact Or.inl rfl | exact Or.inr (Or.inl rfl) | exact Or.inr (Or.inr rfl)) (hdy : (y == ("__debug__" : Str)) = false := by decide) (hcy : (y == ("__classdict__" : Str)) = false := by decide)
    (he : starEach [.Name y p2, a] X.env = (false, eval (.Name y p2) X.env) :: starEach [a] X.env := by rfl) (he2 : starEach [a] X.env = (false, eval a X.env) :: starEach [] X.env := by rfl) (hpl : (backTo pos (starEach [a] X.env)).any (·.1) = false := by rfl) :
    EJ X [d, lw, lc] (DJ d lw lc) (.Call (.Name "_law_pick" p) [.Name y p2, a] [] pos) σ B 1 (· ∈ xs) := by
  have := ej_call (p := p) (pos := pos) (p2 := p2) (i := i) cells_DJ F hr hk t hσ (eaj_cons cells_DJ (ej_pure (R := (· = .list xs)) cells_DJ ha rfl) (fun B' l => eaj_nil) he2) (fun ds h => by
    obtain ⟨e, r, rfl, rfl, rfl⟩ := h
    exact ⟨⟨xs, rfl, h0, h1⟩, rfl⟩) eP ew eK em eb hg hN hv hdy hcy (by decide) he hpl
  refine this.weak cells_DJ (fun e h => ?_) (by omega)
  obtain ⟨ds, ⟨e1, r, rfl, rfl, rfl⟩, xs', e2, hx⟩ := h
  cases e2
  exact hx
theorem scNames : FnScope ["draw", "many", "some", "one", "other", "stem"] ["draw", "many"] (defScope sNames) := ⟨rfl, rfl, rfl, by decide +kernel, rfl, by decide +kernel, by decide +kernel⟩
theorem ndNames : List.Nodup (["draw", "many", "some", "one", "other", "stem"] : List Str) := by decide +kernel
theorem rr_addS {H : Hp} {i j : Str} (h : i.length + j.length ≤ sizeLine) : RR K (fun x y H Q => ∃ i j, x = V.str i ∧ y = V.str j ∧ i.length + j.length ≤ sizeLine ∧ Q (.str (i ++ j)) H) H (.str i) (.str j) (.str (i ++ j)) := fun B H1 l l1 x y hx hy Q q => by
  cases hx
  cases hy
  exact ⟨i, j, rfl, rfl, h, q _ B H1 (Up.refl l1) (.str _)⟩
theorem sign_one {z : Str} {i : Nat} {x : PyData} (h : x ∈ Tk.signs z) : ∃ c, x = .str ⟨#[c]⟩ := by
  unfold Tk.signs at h
  obtain ⟨c, _, rfl⟩ := List.mem_map.mp h
  exact ⟨c, rfl⟩
theorem ok_names (BL : Blt mg) (hTD : ∀ a ∈ [d, lw, lc], a ∉ T) (Fs : KnShuf P w K mg base T d lw lc) (Fp : KnPick P w K mg base T d lw lc) (F : L2.Fun K "_law_names" "_law_names" sNames f fd) :
    FnOk P w K mg base CX0 4 f fd ["draw", "many"] (spJ K T [d, lw, lc] (DJ d lw lc) (.ref d) 1 100 namesP namesR) := by
  refine fn_draw hTD F scNames rfl fun cdv A outer s H vs B ds m Q E hr hcd t l ap j hd hl hp q => ?_
  obtain ⟨many, rfl, hm0, hm3⟩ := hp
  obtain ⟨v1, rfl, h1⟩ := ds1 (K := K) hd
  cases h1
  refine wb_cons (ws_set (i := 2) (d := .list []) l (ee_lst ea_nil (by decide)) (fun v2 B2 H2 u2 d2 => ?_) ndNames)
  refine wb_cons (ws_for (tjs := [3]) (pat := patN) u2.s (ei_str (x := consS) ee_str) (eg_name ndNames) (fun d hd => ⟨[d], rfl⟩) PassesOwn.never rfl
    (fun i σ' B' H' => Up B2 H2 B' H' ∧ ∃ vf a, σ' = [some (.ref d), some (.int many), some vf, a, none, none] ∧ Dt K B' vf (.list (stemAcc (Tk.signs vowS) [] ((Tk.signs consS).take i)))) (fun B' H' u => ⟨u, v2, none, rfl, Dt.le u.b d2⟩) (fun i e es vs σ' B' H' B'' H'' hi hd' lb hI u4 he dvs N hN => ?_) fun σ' B' H' lb ls hI => ?_)
  · obtain ⟨u', vf, a, rfl, df⟩ := hI
    cases he
    obtain ⟨x, rfl, hx⟩ := ds1 (K := K) dvs
    have df' := Dt.le u4.b df
    obtain ⟨c0, rfl⟩ := sign_one (i := i) (List.mem_of_getElem? hd')
    refine wb_one (ws_set (i := 2) (d := .list (stemAcc (Tk.signs vowS) [] ((Tk.signs consS).take (i + 1)))) u4.s ?_ (fun v3 B3 H3 u3 d3 => hN _ B3 H3 u3.b u3.s ⟨(u'.trans u4).trans u3, v3, _, rfl, d3⟩) ndNames)
    rw [stem_take hd']
    refine ee_op op_catL (rr_catL ?_) (ee_var (i := 2) rfl df') ?_
    · rw [stem_len, List.length_map, List.length_take]
      have e5 : (Tk.signs vowS).length = 5 := by decide +kernel
      have e18 : (Tk.signs consS).length = 18 := by decide +kernel
      have := List.length_filter_le (fun _ => true) (Tk.signs vowS)
      rw [e5] at this ⊢
      rw [e18, List.length_nil]
      refine Nat.le_trans (show _ ≤ 200 from ?_) (by decide)
      have : min i 18 ≤ 18 := Nat.min_le_right _ _
      omega
    refine ee_lc (own := [("other", 4)]) (tjs := [4]) (pat := patN) (fun _ => true) (plusS (.str ⟨#[c0]⟩)) rfl ndNames (ei_str (x := vowS) ee_str)
      (blkOk_by (show blkC ["draw", "many", "some", "one", "other", "stem"] (defScope sNames) _ [("other", 4)] = true by decide +kernel))
      (fun s H C cl fp => eg_name ndNames) (fun d hd => ⟨[d], rfl, rfl⟩) (fun vs hv => ?_) (fun B' d es vs lb hd he hv s H C cl fp => ets_nil) (fun B' d' es vs lb hd hb he hv s H C cl fp => ?_) (by decide +kernel)
    · match vs, hv with
      | [a], _ => rfl
    · cases he
      obtain ⟨y, rfl, hy⟩ := ds1 (K := K) hv
      obtain ⟨c1, rfl⟩ := sign_one (i := i) hd
      exact ee_op op_add_str (rr_addS (show 1 + 1 ≤ sizeLine by decide)) (ee_var (i := 3) rfl (Dt.le lb hx)) (ee_var (i := 4) rfl hy)
  · obtain ⟨u', vf, a, rfl, df⟩ := hI
    rw [List.take_length] at df
    have uu := u2.trans u'
    have j' : DJ d lw lc (m + 100) H' := cells_DJ.le _ _ _ j uu.h
    have lx : UpX [d, lw, lc] B H B' H' := .of uu
    have ap' : Apt [d, lw, lc] B' := lx.apt cells_DJ j ap
    have t' : Tbs T B' := t.le uu.b
    refine wb_one (ws_retJ (n := 100) (R := namesR [.int many]) ls ap' j' ?_ fun v e B3 H3 u3 j3 dv r => q v e B3 H3 (lx.trans cells_DJ j' u3) j3 dv r)
    refine (ej_lc (own := [("stem", 5)]) (tjs := [5]) (pat := patN) (n1 := 90) (n2 := 1) (k := 3) (RI := fun ds => ∃ ss, ss.Perm stems ∧ ds = Tk.cutD ss none (some many)) (RE := nameOf) cells_DJ off_DJ rfl ndNames (eij_lst ?_) ?_ (by decide)
      (blkOk_by (show blkC ["draw", "many", "some", "one", "other", "stem"] (defScope sNames) _ [("stem", 5)] = true by decide +kernel)) (fun s H C cl fp => eg_name ndNames) (fun ds _ d hd => ⟨[d], rfl, rfl⟩) (fun vs hv => ?_) (fun B' ds e es vs lb ri hd he hv s H C cl fp => ?_)).weak cells_DJ (fun e h => ?_) (by omega)
    · refine (ej_cutL (R := fun ss => ss.Perm stems) cells_DJ ((ej_call1 (d1 := .list stems) (i := 0) cells_DJ Fs hr (Nat.le_refl _) t' rfl (ee_var (i := 2) rfl df) ⟨stems, rfl, Nat.le_of_eq stems_len, fun x hx => ?_⟩).weak (n1 := 90) cells_DJ (fun e h => ?_) (Nat.le_refl _)) (eo_some (ee_var (i := 1) rfl (.int many)))).weak cells_DJ (fun e ⟨ds, h1, h2⟩ => ⟨_, h1, ds, h2, rfl⟩) (Nat.le_refl _)
      · have := List.all_eq_true.mp stems_ok x hx
        cases x with
        | str z => exact ⟨rfl, by simp [PyData.depth], ((Bool.and_eq_true _ _).mp this).2⟩
        | _ => cases this
      · obtain ⟨xs, ys, e2, rfl, pm⟩ := h
        cases e2
        exact ⟨ys, rfl, pm⟩
    · rintro ds ⟨ss, hp, rfl⟩
      obtain ⟨k, rfl⟩ : ∃ k : Nat, many = (k : Int) := ⟨many.toNat, (Int.toNat_of_nonneg hm0).symm⟩
      rw [cutD_take (by rw [hp.length_eq, stems_len]; omega), List.length_take]
      omega
    · match vs, hv with
      | [a], _ => rfl
    · obtain ⟨ss, hp, rfl⟩ := ri
      cases he
      obtain ⟨y, rfl, hy⟩ := ds1 (K := K) hv
      have hmem : e ∈ stems := hp.mem_iff.mp (List.mem_of_mem_drop (List.mem_of_mem_take hd))
      have hb := List.all_eq_true.mp stems_ok e hmem
      cases e with
      | str z =>
        have hz : z.cps.size = 2 := of_decide_eq_true ((Bool.and_eq_true _ _).mp hb).1
        refine (ej_op (n1 := 0) (n2 := 1) (Ra := (· = .str z)) (Rb := (· ∈ sufs)) (R3 := nameOf (.str z)) cells_DJ op_add_str ?_ (ej_pure cells_DJ (ee_var (i := 5) rfl hy) rfl) (ej_pick Fp hr (Nat.le_refl _) (t'.le lb) (i := 0) rfl (ee_lst (ea_cons ee_str (ea_cons ee_str (ea_cons ee_str (ea_cons ee_str ea_nil)))) (by show 4 ≤ sizeLine; decide)) (by decide) (by decide))).weak cells_DJ (fun _ h => h) (by omega)
        refine rj_of fun d1 d2 h1 h2 => ?_
        subst h1
        have hb2 : ∃ b : Str, d2 = .str b ∧ b.length ≤ 2 := by
          unfold sufs at h2
          simp only [List.mem_cons, List.not_mem_nil, or_false] at h2
          rcases h2 with rfl | rfl | rfl | rfl
          · exact ⟨_, rfl, by decide⟩
          · exact ⟨_, rfl, by decide⟩
          · exact ⟨_, rfl, by decide⟩
          · exact ⟨_, rfl, by decide⟩
        obtain ⟨b, rfl, hbl⟩ := hb2
        exact ⟨.str (z ++ b), rr_addS (by
          have e : z.length = 2 := hz
          exact Nat.le_trans (show z.length + b.length ≤ 4 by omega) (by decide)), z, b, rfl, h2, rfl⟩
      | _ => cases hb
    · obtain ⟨ds, rs, rfl, ⟨ss, hp, rfl⟩, rr⟩ := h
      obtain ⟨k, rfl⟩ : ∃ k : Nat, many = (k : Int) := ⟨many.toNat, (Int.toNat_of_nonneg hm0).symm⟩
      have hle : k ≤ ss.length := by rw [hp.length_eq, stems_len]; omega
      rw [cutD_take hle] at rr
      have e2 := rr.length
      rw [List.length_take, Nat.min_eq_left hle] at e2
      exact ⟨ss, rs, ss.take k, rfl, hp, by rw [e2], by omega, rr⟩
end
end K0


set_option Elab.async false
set_option linter.all false
set_option maxRecDepth 100000
set_option maxHeartbeats 2000000
namespace Tk
open PySem PySem.Spec PyProof.Rows L2 GxR Gx
variable [LamTab]
/-- a built-in's answer, of one argument -/
def RCJ (K : PySem.W.Frag) (r : List V → Hp → VK → Prop) (B : Hp) (R R' : PyData → Prop) : Prop := ∀ B1 H1, Le B B1 → Le B1 H1 → ∀ x d, Dt K B1 x d → R d → ∀ Q : VK, (∀ v d' B2 H2, Up B1 H1 B2 H2 → Dt K B2 v d' → R' d' → Q v H2) → r [x] H1 Q
theorem rcj_of {K : PySem.W.Frag} {r : List V → Hp → VK → Prop} {B : Hp} {R R' : PyData → Prop} (h : ∀ d, R d → ∃ d', RC1 K r B [d] d' ∧ R' d') : RCJ K r B R R' := fun B1 H1 l l1 x d dx rd Q q => by
  obtain ⟨d', hr, r'⟩ := h d rd
  exact hr B1 H1 l l1 [x] (.cons dx .nil) Q fun v B2 H2 u dv => q v d' B2 H2 u dv r'
section
variable {X : Cx} {D : List Addr} {J : Nat → Hp → Prop} {e : Expr} {σ : L2.St} {B : Hp} {n : Nat} {R R' : PyData → Prop}
theorem ej_b1 {x : Str} {p pos : Pos} {id : String} {r : List V → Hp → VK → Prop} (C : Cells D J) (hc : CallR X (.builtin id) r) (hm : X.mg x = none) (hv : bootBuiltins x = some (.builtin id)) (hr : RCJ X.K r B R R') (ha : EJ X D J e σ B n R) (hg : Gl X x := by rfl)
    (h1 : x ≠ "__name__" := by decide) (h2 : (x == ("__debug__" : Str)) = false := by decide) (he : starEach [e] X.env = (false, eval e X.env) :: starEach [] X.env := by rfl) :
    EJ X D J (.Call (.Name x p) [e] [] pos) σ B n R' := fun m H1 l ap j Q q =>
  ⟨_, pe_callB hc hg hm hv (pa_cons pe_w pa_nil he) h1 h2 he rfl, ha m H1 l ap j _ fun v d B2 H2 u jj dv rd => hr B2 H2 u.b u.s v d dv rd Q fun v' d' B3 H3 u3 d3 r3 => q v' d' B3 H3 (u.trans C jj (.of u3)) (C.le _ _ _ jj u3.h) d3 r3⟩
theorem ej_t1 {x : Str} {p pos : Pos} {T : String} {r : List V → Hp → VK → Prop} (C : Cells D J) (hc : CallR X (.type T) r) (hm : X.mg x = none) (hv : bootBuiltins x = some (.type T)) (hr : RCJ X.K r B R R') (ha : EJ X D J e σ B n R) (hg : Gl X x := by rfl)
    (h1 : x ≠ "__name__" := by decide) (h2 : (x == ("__debug__" : Str)) = false := by decide) (he : starEach [e] X.env = (false, eval e X.env) :: starEach [] X.env := by rfl) :
    EJ X D J (.Call (.Name x p) [e] [] pos) σ B n R' := fun m H1 l ap j Q q =>
  ⟨_, pe_callTy hc hg hm hv (pa_cons pe_w pa_nil he) h1 h2 he rfl, ha m H1 l ap j _ fun v d B2 H2 u jj dv rd => hr B2 H2 u.b u.s v d dv rd Q fun v' d' B3 H3 u3 d3 r3 => q v' d' B3 H3 (u.trans C jj (.of u3)) (C.le _ _ _ jj u3.h) d3 r3⟩
end
theorem boot_sorted' : bootBuiltins "sorted" = some (.builtin "sorted") := by decide +kernel
theorem ds_strs {K : PySem.W.Frag} {H : Hp} : ∀ {ys : List Str} {vs : List V}, Ds K H vs (ys.map PyData.str) → vs = ys.map V.str
  | [], _, .nil => rfl
  | y :: ys, _, .cons h t => by
    cases h
    rw [ds_strs t]
    rfl
theorem strs_ds {K : PySem.W.Frag} {H : Hp} : ∀ ys : List Str, Ds K H (ys.map V.str) (ys.map PyData.str)
  | [] => .nil
  | y :: ys => .cons (.str y) (strs_ds ys)
theorem rcj_sorted {K : PySem.W.Frag} {B : Hp} {R : List Str → Prop} : RCJ K (rSortedS K) B (fun d => ∃ xs : List Str, d = .list (xs.map .str) ∧ xs.length < 64 ∧ R xs) (fun d => ∃ xs ys : List Str, d = .list (ys.map .str) ∧ ys.Perm xs ∧ sortedS ys = true ∧ R xs) := fun B1 H1 l l1 x d dx rd Q q => by
  obtain ⟨xs, rfl, hn, r⟩ := rd
  cases dx with
  | lst s t h0 =>
    have e := ds_strs h0
    subst e
    exact ⟨_, xs, rfl, sqL_le l1 s, hn, fun ys p pm so hp => q _ _ _ _ ((Up.refl l1).new hp fun ps z => by cases z) (.new_lst upd_same (strs_ds ys)) ⟨xs, ys, rfl, pm, so, r⟩⟩
end Tk
namespace K0
open PySem PySem.Spec PyProof.Rows L2 GxR Tk
variable [LamTab]
theorem names_ok : stems.all (fun s => sufs.all fun b => nameB (plusS s b) && okD (plusS s b)) = true := by decide +kernel
def strOf : PyData → List Nat
  | .str z => z.cps.toList
  | _ => []
theorem stems_nodup0 : (stems.map strOf).Nodup := by decide +kernel
theorem nodup_of_map {α β : Type} (f : α → β) : ∀ {l : List α}, (l.map f).Nodup → l.Nodup
  | [], _ => List.nodup_nil
  | x :: l, h => by
    rw [List.map_cons, List.nodup_cons] at h
    exact List.nodup_cons.mpr ⟨fun m => h.1 (List.mem_map_of_mem m), nodup_of_map f h.2⟩
theorem stems_nodup : stems.Nodup := nodup_of_map strOf stems_nodup0
theorem nameOf_inj {a b n : PyData} (ha : stemB a = true) (hb : stemB b = true) (h : nameOf a n) (k : nameOf b n) : a = b := by
  obtain ⟨z1, b1, rfl, _, e1⟩ := h
  obtain ⟨z2, b2, rfl, _, e2⟩ := k
  have s1 : z1.cps.size = 2 := of_decide_eq_true ((Bool.and_eq_true _ _).mp ha).1
  have s2 : z2.cps.size = 2 := of_decide_eq_true ((Bool.and_eq_true _ _).mp hb).1
  rw [e1] at e2
  have e3 : z1 ++ b1 = z2 ++ b2 := PyData.str.inj e2
  have e4 : (z1.cps ++ b1.cps).toList = (z2.cps ++ b2.cps).toList := congrArg (fun x : Str => x.cps.toList) e3
  rw [Array.toList_append, Array.toList_append] at e4
  have l1 : z1.cps.toList.length = z2.cps.toList.length := by rw [Array.length_toList, Array.length_toList, s1, s2]
  have e5 := (List.append_inj e4 l1).1
  have e6 : z1.cps = z2.cps := Array.toList_inj.mp e5
  have e7 : z1 = z2 := by
    cases z1
    cases z2
    cases e6
    rfl
  rw [e7]
theorem both_nodup : ∀ {zs xs : List PyData}, Both nameOf zs xs → zs.Nodup → (∀ z ∈ zs, stemB z = true) → xs.Nodup
  | _, _, .nil, _, _ => List.nodup_nil
  | _, _, .cons r t, h, k => by
    rw [List.nodup_cons] at h
    refine List.nodup_cons.mpr ⟨fun m => ?_, both_nodup t h.2 fun z hz => k z (List.mem_cons_of_mem _ hz)⟩
    obtain ⟨a', ha', r'⟩ := t.mem m
    exact h.1 (by rw [nameOf_inj (k _ List.mem_cons_self) (k _ (List.mem_cons_of_mem _ ha')) r r']; exact ha')
theorem both_names : ∀ {zs xs : List PyData}, Both nameOf zs xs → (∀ z ∈ zs, z ∈ stems) → ∀ x ∈ xs, nameB x = true ∧ okD x = true
  | _, _, .nil, _, x, h => by cases h
  | _, _, .cons r t, k, x, h => by
    rcases List.mem_cons.mp h with z | z
    · rw [z]
      have m := k _ List.mem_cons_self
      obtain ⟨z1, b1, rfl, hs, rfl⟩ := r
      have := List.all_eq_true.mp (List.all_eq_true.mp names_ok _ m) _ hs
      exact (Bool.and_eq_true _ _).mp this
    · exact both_names t (fun z hz => k z (List.mem_cons_of_mem _ hz)) x z
def allNames : List PyData := stems.flatMap fun s => sufs.map (plusS s)
theorem both_all : ∀ {zs xs : List PyData}, Both nameOf zs xs → (∀ z ∈ zs, z ∈ stems) → ∀ x ∈ xs, x ∈ allNames
  | _, _, .nil, _, x, h => by cases h
  | _, _, .cons r t, k, x, h => by
    rcases List.mem_cons.mp h with z | z
    · rw [z]
      have m := k _ List.mem_cons_self
      obtain ⟨z1, b1, rfl, hs, rfl⟩ := r
      exact List.mem_flatMap.mpr ⟨_, m, List.mem_map.mpr ⟨_, hs, rfl⟩⟩
    · exact both_all t (fun z hz => k z (List.mem_cons_of_mem _ hz)) x z
theorem lt_of_rise {a b : Str} (h : (!Spec.ltCps b.cps.toList a.cps.toList) = true) (n : a ≠ b) : ltD (.str a) (.str b) = true := by
  rw [ltCps_eq] at h
  show decide (a.cps.toList < b.cps.toList) = true
  refine decide_eq_true (Std.lt_of_le_of_ne (List.not_lt.mp fun z => ?_) fun z => n ?_)
  · rw [decide_eq_true z] at h
    cases h
  · have e : a.cps = b.cps := Array.toList_inj.mp z
    cases a
    cases b
    cases e
    rfl
theorem asc_rise : ∀ {ys : List Str}, ys.length ≤ 3 → sortedS ys = true → ys.Nodup → ascB (ys.map PyData.str) = true
  | [], _, _, _ => rfl
  | [a], _, _, _ => rfl
  | [a, b], _, s, n => by
    have s1 : (!Spec.ltCps b.cps.toList a.cps.toList) = true := ((Bool.and_eq_true _ _).mp s).1
    have n1 : a ≠ b := fun z => by rw [z] at n; simp at n
    show (ltD (.str a) (.str b) && true) = true
    rw [lt_of_rise s1 n1]
    rfl
  | [a, b, c], _, s, n => by
    have s1 : (!Spec.ltCps b.cps.toList a.cps.toList) = true := ((Bool.and_eq_true _ _).mp s).1
    have s2 : (!Spec.ltCps c.cps.toList b.cps.toList) = true := ((Bool.and_eq_true _ _).mp ((Bool.and_eq_true _ _).mp s).2).1
    have n1 : a ≠ b := fun z => by rw [z] at n; simp at n
    have n2 : b ≠ c := fun z => by rw [z] at n; simp at n
    show (ltD (.str a) (.str b) && (ltD (.str b) (.str c) && true)) = true
    rw [lt_of_rise s1 n1, lt_of_rise s2 n2]
    rfl
  | _ :: _ :: _ :: _ :: r, h, _, _ => by simp at h
theorem strs_of : ∀ {xs : List PyData}, (∀ x ∈ xs, isStr x = true) → ∃ ys : List Str, xs = ys.map PyData.str
  | [], _ => ⟨[], rfl⟩
  | x :: xs, h => by
    obtain ⟨ys, e⟩ := strs_of fun y hy => h y (List.mem_cons_of_mem _ hy)
    have := h x List.mem_cons_self
    cases x with
    | str z => exact ⟨z :: ys, by rw [e]; rfl⟩
    | _ => cases this
/-- what a drawn scope is -/
theorem scope_good {ss xs : List PyData} {xs' ys : List Str} (hp : ss.Perm stems) (hn : xs.length ≤ 3) (hb : Both nameOf (ss.take xs.length) xs) (e : xs = xs'.map PyData.str) (pm : ys.Perm xs') (so : sortedS ys = true) :
    scopeB (.tuple (ys.map PyData.str)) = true ∧ okD (.tuple (ys.map PyData.str)) = true ∧ ys.length ≤ 3 ∧ ∀ x ∈ ys.map PyData.str, x ∈ allNames := by
  subst e
  rw [List.length_map] at hn hb
  have hl : ys.length ≤ 3 := by rw [pm.length_eq]; exact hn
  have hm : ∀ z ∈ ss.take xs'.length, z ∈ stems := fun z hz => hp.mem_iff.mp (List.mem_of_mem_take hz)
  have nm := both_names hb hm
  have nd : (xs'.map PyData.str).Nodup := both_nodup hb ((List.Nodup.sublist (List.take_sublist _ _) (hp.nodup_iff.mpr stems_nodup))) fun z hz => List.all_eq_true.mp stems_ok z (hm z hz)
  have nd2 : ys.Nodup := pm.nodup_iff.mpr (nodup_of_map _ nd)
  have all2 : ∀ x ∈ ys.map PyData.str, nameB x = true ∧ okD x = true := fun x hx => nm x ((pm.map PyData.str).mem_iff.mp hx)
  refine ⟨?_, ?_, hl, fun x hx => both_all hb hm x ((pm.map PyData.str).mem_iff.mp hx)⟩
  · show (rowB (.tuple (ys.map PyData.str)) 0 3 && ((ys.map PyData.str).all nameB && ascB (ys.map PyData.str))) = true
    rw [asc_rise hl so nd2, List.all_eq_true.mpr fun x hx => (all2 x hx).1]
    show (decide (0 ≤ ((ys.map PyData.str).length : Int)) && decide (((ys.map PyData.str).length : Int) ≤ 3)) && true = true
    rw [decide_eq_true (by omega), decide_eq_true (by rw [List.length_map]; omega)]
    rfl
  · show (decide ((ys.map PyData.str).length ≤ 100000) && okDs (ys.map PyData.str)) = true
    rw [decide_eq_true (by rw [List.length_map]; omega), okDs_of fun x hx => (all2 x hx).2]
    rfl
abbrev sLScope : Stmt := t__law_scope
def mostP (ds : List PyData) : Prop := ds = [.int 2]
def scopeR (ds : List PyData) (r : PyData) : Prop := ∃ ys : List Str, r = .tuple (ys.map PyData.str) ∧ scopeB r = true ∧ okD r = true ∧ ys.length ≤ 3 ∧ ∀ x ∈ ys.map PyData.str, x ∈ allNames
section
variable {P : Program} {w : World} {K : PySem.W.Frag} {mg : Str → Option Value} {base : Heap} {f : Addr} {fd : FuncData} {T : List Addr} {d lw lc : Addr}
abbrev KnNames (P : Program) (w : World) (K : PySem.W.Frag) (mg : Str → Option Value) (base : Heap) (T : List Addr) (d lw lc : Addr) : Prop := KnJ P w K mg base 4 "_law_names" ["draw", "many"] T d lw lc 1 100 namesP namesR
theorem scLScope : FnScope ["draw", "most"] ["draw", "most"] (defScope sLScope) := ⟨rfl, rfl, rfl, by decide +kernel, rfl, by decide +kernel, by decide +kernel⟩
theorem ok_lscope (BL : Blt mg) (hso : mg "sorted" = none) (hTD : ∀ a ∈ [d, lw, lc], a ∉ T) (Ft : KnTake P w K mg base T d lw lc) (Fn : KnNames P w K mg base T d lw lc) (F : L2.Fun K "_law_scope" "_law_scope" sLScope f fd) :
    FnOk P w K mg base CX0 5 f fd ["draw", "most"] (spJ K T [d, lw, lc] (DJ d lw lc) (.ref d) 1 101 mostP scopeR) := by
  refine fn_draw hTD F scLScope rfl fun cdv A outer s H vs B ds m Q E hr hcd t l ap j hd hl hp q => ?_
  cases hp
  obtain ⟨v1, rfl, h1⟩ := ds1 (K := K) hd
  cases h1
  refine wb_one (ws_retJ (n := 101) (R := scopeR [.int 2]) l ap j ?_ fun v e B3 H3 u3 j3 dv r => q v e B3 H3 u3 j3 dv r)
  refine ej_t1 (R := fun d => ∃ ys : List Str, d = .list (ys.map .str) ∧ scopeR [.int 2] (.tuple (ys.map .str))) cells_DJ c_tup BL.tuple boot_tuple' (rcj_of fun d ⟨ys, h1, h2⟩ => ⟨.tuple (ys.map .str), by subst h1; exact rc_tup, h2⟩) ?_
  refine (ej_b1 (R := fun d => ∃ xs : List Str, d = .list (xs.map .str) ∧ xs.length < 64 ∧ ∃ ss : List PyData, ss.Perm stems ∧ xs.length ≤ 3 ∧ Both nameOf (ss.take xs.length) (xs.map .str)) cells_DJ cr_sortedS hso boot_sorted' rcj_sorted ?_).weak (n1 := 101) cells_DJ (fun e h => ?_) (Nat.le_refl _)
  · refine (ej_call (i := 0) cells_DJ Fn hr (Nat.le_refl _) t rfl (eaj_cons cells_DJ (ej_take Ft hr (by decide) t (i := 0) rfl (ee_op op_add rr_add (ee_var (i := 1) rfl (.int 2)) ee_int) (by decide) (by decide)) (fun B' l => eaj_nil)) (fun ds h => ?_)).weak cells_DJ (fun e h => ?_) (by omega)
    · obtain ⟨e, r, rfl, ⟨i, rfl, i0, i1⟩, rfl⟩ := h
      exact ⟨⟨i, rfl, i0, by omega⟩, rfl⟩
    · obtain ⟨ds, _, ss, ys, zs, rfl, hp, rfl, hn, hb⟩ := h
      obtain ⟨xs, rfl⟩ := strs_of fun x hx => name_str (both_names hb (fun z hz => hp.mem_iff.mp (List.mem_of_mem_take hz)) x hx).1
      rw [List.length_map] at hn hb
      exact ⟨xs, rfl, by omega, ss, hp, hn, hb⟩
  · obtain ⟨xs, ys, rfl, pm, so, ss, hp, hn, hb⟩ := h
    obtain ⟨g1, g2, g3, g4⟩ := scope_good (xs := xs.map .str) hp (by rw [List.length_map]; exact hn) (by rw [List.length_map]; exact hb) rfl pm so
    exact ⟨ys, rfl, ys, rfl, g1, g2, g3, g4⟩
end
end K0


set_option Elab.async false
set_option linter.all false
set_option maxRecDepth 100000
set_option maxHeartbeats 2000000
namespace Tk
open PySem PySem.Spec PyProof.Rows L2 GxR Gx
variable [LamTab]
section
variable {X : Cx} {tg iter elt : Expr} {scope : Scope} {own : List (Str × Nat)} {pos : Pos} {σ : L2.St} {B : Hp} {tjs : List Nat} {pat : PyData → Option (List PyData)} {D : List Addr} {J : Nat → Hp → Prop}
theorem ws_setLcJ {Dn : L2.Ends} {H : Hp} {m : Nat} {y : Str} {py spos : Pos} {i : Nat} {n1 n2 k : Nat} {RI : List PyData → Prop} {RE : PyData → PyData → Prop} (l : Le B H) (ap : Apt D B) (j : J (m + (n1 + k * n2)) H) (C : Cells D J) (O : Off D J) (hc : X.calm = true) (nd : X.N.Nodup) (hi : EIJ X D J tg iter σ B n1 RI) (hk : ∀ ds, RI ds → ds.length ≤ k) (hks : k < sizeLine) (hb : BlkOk X.N X.env.scope scope own)
    (hg : ∀ s H C cl fp, EG (blkX X s H scope C cl fp) tg tjs pat) (hpat : ∀ ds, RI ds → ∀ d ∈ ds, ∃ es, pat d = some es ∧ es.length = tjs.length)
    (hw : ∀ vs : List V, vs.length = tjs.length → wipe (setsS (wipe σ (own.map (·.2))) tjs vs) (own.map (·.2)) = wipe σ (own.map (·.2)))
    (body : ∀ B' ds d es vs, Le B B' → RI ds → d ∈ ds → pat d = some es → Ds X.K B' vs es → ∀ s H C cl fp, EJ (blkX X s H scope C cl fp) D J elt (setsS (wipe σ (own.map (·.2))) tjs vs) B' n2 (RE d))
    (q : ∀ A acc B2 H2 ds rs, H A = none → UpX D B H B2 H2 → J m H2 → B2 A = some (.lst acc) → H2 A = some (.lst acc) → Ds X.K B2 acc rs → RI ds → Both RE ds rs → Dn.nx (σ.set i (some (.ref A))) H2)
    (hsw : swapsWith (.ListComp elt [⟨tg, iter, [], 0⟩] scope pos) (some (.Name y py)) spos.line X.env = pure true) (hy : X.N[i]? = some y := by rfl) (hyl : X.env.scope.names.lookup y = some .local := by rfl) (hs : ∀ x, foldedSetIterable iter X.env x = pure x := by intro _; rfl) :
    WS X (.Assign [.Name y py] (.ListComp elt [⟨tg, iter, [], 0⟩] scope pos) spos) Dn σ H :=
  ⟨_, ps_setLc (wi := WI X tg iter) (g := fun v σ H Q => ∀ s H0 C cl fp, WG (blkX X s H0 scope C cl fp) tg v σ H Q) (tt := fun σ H Q => ∀ s H0 C cl fp, WTs (blkX X s H0 scope C cl fp) [] σ H Q) (te := fun σ H Q => ∀ s H0 C cl fp, WE (blkX X s H0 scope C cl fp) elt σ H Q) hc nd hy hyl hsw pi_w hb
    (fun s H C cl fp => ⟨fun pins s' σ H' v u Q I r h => pg_w.run pins s' σ H' v u Q I r (h s H C cl fp)⟩) (fun s H C cl fp => ⟨fun pins s' σ H' Q I h => pts_w.run pins s' σ H' Q I (h s H C cl fp)⟩) (fun s H C cl fp => ⟨fun pins s' σ H' Q I h => pe_w.run pins s' σ H' Q I (h s H C cl fp)⟩) hs,
    lcJ_read C O hc nd hi hk hks hg hpat hw body m H l ap j _ fun A acc B2 H2 ds rs h u jj e1 e2 dv ri rr => q A acc B2 H2 ds rs h u jj e1 e2 dv ri rr⟩
theorem ws_tgtJ {Dn : L2.Ends} {H : Hp} {m n : Nat} {e : Expr} {R : PyData → Prop} (l : Le B H) (ap : Apt D B) (j : J (m + n) H) (h : EJ X D J e σ B n R) (hg : EG X tg tjs pat) (hp : ∀ d, R d → ∃ es, pat d = some es) (q : ∀ vs es d B' H', UpX D B H B' H' → J m H' → pat d = some es → R d → Ds X.K B' vs es → Dn.nx (setsS σ tjs vs) H')
    (h1 : swapsWithSole [tg] e pos.line X.env = pure false := by rfl) (h2 : swappedStores [tg] e X.env = pure none := by rfl) (h3 : (assignEach [tg] X.env).map (fun x => x.2) = [assign tg X.env] := by rfl) : WS X (.Assign [tg] e pos) Dn σ H :=
  ⟨_, ps_asg pe_w pg_w h1 h2 h3, h m H l ap j _ fun v d B' H' u jj dv r => by
    obtain ⟨es, he⟩ := hp d r
    exact hg v d es σ B' H' u.s dv he _ fun vs dvs => q vs es d B' H' u jj he r dvs⟩
end
end Tk
namespace K0
open PySem PySem.Spec PyProof.Rows L2 GxR Tk
variable [LamTab]
abbrev sLWood : Stmt := t__law_wood
def woodP (ds : List PyData) : Prop := ∃ xs, ∃ k : Int, ds = [.tuple xs, .int k] ∧ xs.length ≤ 3 ∧ 1 ≤ k ∧ k ≤ 6
def woodRows (xs rs : List PyData) : Prop := 1 ≤ rs.length ∧ rs.length ≤ 6 ∧ ∀ x ∈ rs, ∃ (l : PyData) (a b : Int), x = .tuple [l, .int a, .int b] ∧ l ∈ lawLet [.tuple []] xs ∧ 0 ≤ a ∧ a < rs.length ∧ 0 ≤ b ∧ b < rs.length
def woodR (ds : List PyData) (r : PyData) : Prop := ∃ xs rs, ∃ k : Int, ds = [.tuple xs, .int k] ∧ r = .tuple [.str "wood", .tuple xs, .tuple rs] ∧ woodRows xs rs
section
variable {P : Program} {w : World} {K : PySem.W.Frag} {mg : Str → Option Value} {base : Heap} {f : Addr} {fd : FuncData} {T : List Addr} {d lw lc : Addr}
abbrev KnLet (P : Program) (w : World) (K : PySem.W.Frag) (mg : Str → Option Value) (base : Heap) (T : List Addr) : Prop := Kn P w K mg base 1 "_law_letters" ["scope"] (spF K T 1 letOfP lawLetF)
theorem scLWood : FnScope ["draw", "scope", "most", "many", "marks", "rows", "k"] ["draw", "scope", "most"] (defScope sLWood) := ⟨rfl, rfl, rfl, by decide +kernel, rfl, by decide +kernel, by decide +kernel⟩
theorem ndLWood : List.Nodup (["draw", "scope", "most", "many", "marks", "rows", "k"] : List Str) := by decide +kernel
theorem lawLet_small {xs : List PyData} (h : xs.length ≤ 3) : 0 < (lawLet [.tuple []] xs).length ∧ (lawLet [.tuple []] xs).length ≤ 8 := by
  rw [lawLet_len]
  have h1 : 2 ^ xs.length ≤ 2 ^ 3 := Nat.pow_le_pow_right (by decide) h
  have h2 : 0 < 2 ^ xs.length := Nat.pow_pos (by decide)
  simp only [List.length_cons, List.length_nil]
  omega
theorem ok_lwood (BL : Blt mg) (hTD : ∀ a ∈ [d, lw, lc], a ∉ T) (Ft : KnTake P w K mg base T d lw lc) (Fp : KnPick P w K mg base T d lw lc) (Fl : KnLet P w K mg base T) (F : L2.Fun K "_law_wood" "_law_wood" sLWood f fd) :
    FnOk P w K mg base CX0 4 f fd ["draw", "scope", "most"] (spJ K T [d, lw, lc] (DJ d lw lc) (.ref d) 2 19 woodP woodR) := by
  refine fn_draw hTD F scLWood rfl fun cdv A outer s H vs B ds m Q E hr hcd t l ap j hd hl hp q => ?_
  obtain ⟨xs, k0, rfl, hn, k1, k6⟩ := hp
  obtain ⟨v1, v2, rfl, h1, h2⟩ := ds2 (K := K) hd
  cases h2
  obtain ⟨len0, len8⟩ := lawLet_small hn
  refine wb_cons (ws_tgtJ (m := m + 18) (n := 1) (tjs := [3, 4]) (pat := patT 2) (R := fun r => ∃ i : Int, r = .tuple [.int i, .list (lawLet [.tuple []] xs)] ∧ 1 ≤ i ∧ i ≤ 6) l ap j
    ((ej_tup (n := 1 + (0 + 0)) cells_DJ (eaj_cons cells_DJ ((ej_op (n1 := 0) (n2 := 1) (Ra := (· = .int 1)) (Rb := fun r => ∃ i : Int, r = .int i ∧ 0 ≤ i ∧ i < k0) (R3 := fun r => ∃ i : Int, r = .int i ∧ 1 ≤ i ∧ i ≤ 6) cells_DJ op_add (rj_of fun d1 d2 e1 e2 => ?_) (ej_pure cells_DJ ee_int rfl) (ej_take Ft hr (by decide) t (i := 0) rfl (ee_var (i := 2) rfl (.int k0)) (by omega) (by omega))).weak cells_DJ (fun _ h => h) (by omega))
      fun B' lb => eaj_cons cells_DJ (ej_pure (R := (· = .list (lawLet [.tuple []] xs))) cells_DJ (ee_call (f := lawLetF) (d := .list (lawLet [.tuple []] xs)) Fl hr (by decide) (t.le lb) (ea_cons (ee_var (i := 1) rfl (Dt.le lb h1)) ea_nil) ⟨xs, rfl, hn⟩) rfl) fun B' l => eaj_nil) fun ds h => ?_).weak cells_DJ (fun e h => ?_) (by omega))
    (eg_tup rfl (st_cons (st_cons st_nil ndLWood) ndLWood)) (fun e ⟨i, h, _⟩ => by subst h; exact ⟨_, rfl⟩) fun us es e B1 H1 u1 j1 pe re dus => ?_)
  · subst e1
    obtain ⟨i, rfl, i0, i1⟩ := e2
    exact ⟨.int (1 + i), rr_add, 1 + i, rfl, by omega, by omega⟩
  · obtain ⟨a, b, rfl, _, c, g, rfl, _, rfl⟩ := h
    show 2 ≤ sizeLine
    decide
  · obtain ⟨ds, rfl, a, b, rfl, ⟨i, rfl, i0, i1⟩, c, g, rfl, rfl, rfl⟩ := h
    exact ⟨i, rfl, i0, i1⟩
  obtain ⟨many, rfl, m1, m5⟩ := re
  cases pe
  obtain ⟨x, y, rfl, dx, dy⟩ := ds2 (K := K) dus
  cases dx
  have ap1 := u1.apt cells_DJ j ap
  have t1 := t.le u1.b
  refine wb_cons (ws_setLcJ (own := [("k", 6)]) (tjs := [6]) (pat := patN) (i := 5) (n1 := 0) (n2 := 3) (k := 6) (m := m) (RI := (· = upto many.toNat)) (RE := fun _ r => ∃ (l : PyData) (a b : Int), r = .tuple [l, .int a, .int b] ∧ l ∈ lawLet [.tuple []] xs ∧ 0 ≤ a ∧ a < many ∧ 0 ≤ b ∧ b < many) u1.s ap1 (cells_DJ.less _ _ _ j1 (by omega)) cells_DJ off_DJ rfl ndLWood (eij_pure cells_DJ (ei_range (n := many) BL.range (ee_var (i := 3) rfl (.int many)) (by omega) (by omega))) (fun ds e => ?_) (by decide)
    (blkOk_by (show blkC ["draw", "scope", "most", "many", "marks", "rows", "k"] (defScope sLWood) _ [("k", 6)] = true by decide +kernel)) (fun s H C cl fp => eg_name ndLWood) (fun ds _ d hd => ⟨[d], rfl, rfl⟩) (fun vs hv => ?_)
    (fun B' ds e es vs lb ri hd he hv s H C cl fp => ?_) (fun A acc B2 H2 ds rs hA u2 j2 e1 e2 dv ri rr => ?_) (sw_true rfl rfl rfl (by decide +kernel)))
  · subst e
    unfold upto
    rw [List.length_map, List.length_range]
    omega
  · match vs, hv with
    | [a], _ => rfl
  · cases he
    obtain ⟨v, rfl, hx⟩ := ds1 (K := K) hv
    refine (ej_tup (n := 1 + (1 + (1 + 0))) cells_DJ (eaj_cons cells_DJ (ej_pick Fp hr (by decide) (t1.le lb) (i := 0) rfl (ee_var (i := 4) rfl (Dt.le lb dy)) len0 (by omega)) fun B3 l3 => eaj_cons cells_DJ (ej_take Ft hr (by decide) ((t1.le lb).le l3) (i := 0) rfl (ee_var (i := 3) rfl (.int many)) (by omega) (by omega)) fun B4 l4 => eaj_cons cells_DJ (ej_take Ft hr (by decide) (((t1.le lb).le l3).le l4) (i := 0) rfl (ee_var (i := 3) rfl (.int many)) (by omega) (by omega)) fun B5 l5 => eaj_nil) (fun ds h => ?_)).weak cells_DJ (fun e h => ?_) (by omega)
    · obtain ⟨a, b, rfl, _, c, g, rfl, _, k, n, rfl, _, rfl⟩ := h
      show 3 ≤ sizeLine
      decide
    · obtain ⟨ds, rfl, a, b, rfl, ha, c, g, rfl, ⟨i1, rfl, g1, g2⟩, k, n, rfl, ⟨i2, rfl, g3, g4⟩, rfl⟩ := h
      exact ⟨a, i1, i2, rfl, ha, g1, g2, g3, g4⟩
  · have hlen : (rs.length : Int) = many := by
      rw [← rr.length, ri]
      unfold upto
      rw [List.length_map, List.length_range]
      omega
    have ux := u1.trans cells_DJ j1 u2
    refine wb_one (ws_ret (B := B2) (d := .tuple [.str "wood", .tuple xs, .tuple rs]) u2.s (ee_tup (ea_cons ee_str (ea_cons (ee_var (i := 1) rfl (Dt.le ux.b h1)) (ea_cons (ee_tuple BL (ee_var (i := 5) rfl (.new_lst e1 dv))) ea_nil))) (by show 3 ≤ sizeLine; decide)) fun v B3 H3 u3 d3 => ?_)
    refine q v _ B3 H3 (ux.trans cells_DJ j2 (.of u3)) (cells_DJ.le _ _ _ j2 u3.h) d3 ⟨xs, rs, k0, rfl, rfl, by omega, by omega, fun x hx => ?_⟩
    obtain ⟨_, _, l, a, b, h1, h2, h3, h4, h5, h6⟩ := rr.mem hx
    exact ⟨l, a, b, h1, h2, h3, by omega, h5, by omega⟩
end
end K0


set_option Elab.async false
set_option linter.all false
set_option maxRecDepth 100000
set_option maxHeartbeats 2000000
namespace Tk
open PySem PySem.Spec PyProof.Rows L2 GxR Gx
variable [LamTab]
theorem ee_neg {X : Cx} {e : Expr} {σ : L2.St} {B : Hp} {i : Int} {pos : Pos} (ha : EE X e σ B (.int i)) : EE X (.UnaryOp .USub e pos) σ B (.int (-i)) := fun H1 l Q q =>
  ⟨_, pe_un un_neg pe_w, ha H1 l _ fun v B2 H2 u dv => by
    cases dv
    exact ⟨i, rfl, q _ B2 H2 u (.int _)⟩⟩
end Tk
namespace K0
open PySem PySem.Spec PyProof.Rows L2 GxR Tk
variable [LamTab]
abbrev sLBad : Stmt := t__law_bad_wood
def oneD : PyData := .tuple [.tuple [], .int 0, .int 0]
def wd (w : PyData) (a b : PyData) : PyData := .tuple [w, a, b]
def bad1 : List PyData := [.none, .int 5, .str "wood", .tuple [.str "wood", .tuple []], .tuple [.str "wood", .tuple [], .tuple []], .tuple [.str "wood", .tuple [], .tuple [.tuple [.tuple [], .int 0, .int 1]]], .tuple [.str "wood", .tuple [], .list [oneD]], .tuple [.str "wood", .tuple [.str "a", .str "a"], .tuple [oneD]]]
def bad2 : List PyData := [.tuple [.str "wood", .tuple [.str "b", .str "a"], .tuple [oneD]], .tuple [.str "wood", .tuple [.str "a", .str "b", .str "c", .str "d"], .tuple [oneD]], .tuple [.str "wood", .tuple [.str "a"], .tuple [.tuple [.tuple [.str "b"], .int 0, .int 0]]]]
def bad3 : List PyData := [.tuple [.str "wood", .tuple [], .tuple [.tuple [.int 0, .int 0]]], .tuple [.str "wood", .tuple [], .tuple [.tuple [.tuple [], .int 0, .bool true]]], .tuple [.str "woods", .tuple [], .tuple [oneD]], .list [.str "wood", .tuple [], .tuple [oneD]], .tuple [.str "wood", .tuple [], .tuple [.tuple [.tuple [], .int (-1), .int 0]]]]
def bad4 : List PyData := [.tuple [.str "wood", .tuple [.str "A"], .tuple [oneD]], .tuple [.str "wood", .tuple [.str "a"], .tuple [.tuple [.list [.str "a"], .int 0, .int 0]]], .tuple [.str "wood", .tuple [], .tuple [.tuple [.tuple [], .int 0, .int 0, .int 0]]]]
def bads : List PyData := bad1 ++ bad2 ++ bad3 ++ bad4
theorem bads_ok : bads.all (fun x => !woodB x && okD x) = true := by decide +kernel
section
variable {P : Program} {w : World} {K : PySem.W.Frag} {mg : Str → Option Value} {base : Heap} {f : Addr} {fd : FuncData} {T : List Addr} {d lw lc : Addr}
theorem scLBad : FnScope ["draw", "one", "some"] ["draw"] (defScope sLBad) := ⟨rfl, rfl, rfl, by decide +kernel, rfl, by decide +kernel, by decide +kernel⟩
theorem ndLBad : List.Nodup (["draw", "one", "some"] : List Str) := by decide +kernel
def badR (ds : List PyData) (r : PyData) : Prop := r ∈ bads
theorem ok_lbad (BL : Blt mg) (hTD : ∀ a ∈ [d, lw, lc], a ∉ T) (Fp : KnPick P w K mg base T d lw lc) (F : L2.Fun K "_law_bad_wood" "_law_bad_wood" sLBad f fd) :
    FnOk P w K mg base CX0 4 f fd ["draw"] (spJ K T [d, lw, lc] (DJ d lw lc) (.ref d) 0 1 (· = []) badR) := by
  refine fn_draw hTD F scLBad rfl fun cdv A outer s H vs B ds m Q E hr hcd t l ap j hd hl hp q => ?_
  have e0 : vs = [] := List.eq_nil_of_length_eq_zero hl
  subst e0
  refine wb_cons (ws_set (i := 1) (d := oneD) l (ee_tup (ea_cons (ee_tup ea_nil (by decide)) (ea_cons ee_int (ea_cons ee_int ea_nil))) (by decide)) (fun v1 B1 H1 u1 d1 => ?_) ndLBad)
  refine wb_cons (ws_set (i := 2) (d := .list bad1) u1.s ?_ (fun v2 B2 H2 u2 d2 => ?_) ndLBad)
  · unfold bad1
    repeat (first | exact ea_nil | exact ee_non | exact ee_int | exact ee_str | exact ee_bl | exact ee_var (i := 1) rfl d1 | refine ee_tup ?_ (by decide) | refine ee_lst ?_ (by decide) | refine ea_cons ?_ ?_)
  refine wb_cons (ws_set (i := 2) (d := .list (bad1 ++ bad2)) u2.s (ee_op op_catL (rr_catL (by decide)) (ee_var (i := 2) rfl d2) ?_) (fun v3 B3 H3 u3 d3 => ?_) ndLBad)
  · have d1 := Dt.le u2.b d1
    unfold bad2
    repeat (first | exact ea_nil | exact ee_non | exact ee_int | exact ee_str | exact ee_bl | exact ee_var (i := 1) rfl d1 | refine ee_tup ?_ (by decide) | refine ee_lst ?_ (by decide) | refine ea_cons ?_ ?_)
  refine wb_cons (ws_set (i := 2) (d := .list (bad1 ++ bad2 ++ bad3)) u3.s (ee_op op_catL (rr_catL (by decide)) (ee_var (i := 2) rfl d3) ?_) (fun v4 B4 H4 u4 d4 => ?_) ndLBad)
  · have d1 := Dt.le (u2.b.trans u3.b) d1
    unfold bad3
    repeat (first | exact ea_nil | exact ee_non | exact ee_int | exact ee_str | exact ee_bl | exact ee_var (i := 1) rfl d1 | exact ee_neg (i := 1) ee_int | refine ee_tup ?_ (by decide) | refine ee_lst ?_ (by decide) | refine ea_cons ?_ ?_)
  have uu := ((u1.trans u2).trans u3).trans u4
  have ux : UpX [d, lw, lc] B H B4 H4 := .of uu
  have j4 := cells_DJ.le _ _ _ j uu.h
  refine wb_one (ws_retJ (n := 1) (R := badR []) u4.s (ux.apt cells_DJ j ap) j4 (ej_pick (xs := bads) Fp hr (Nat.le_refl _) (t.le uu.b) (i := 0) rfl (ee_op op_catL (rr_catL (by decide)) (ee_var (i := 2) rfl d4) ?_) (by decide) (by decide)) fun v e B5 H5 u5 j5 dv r => q v e B5 H5 (ux.trans cells_DJ j4 u5) j5 dv r)
  have d1 := Dt.le ((u2.b.trans u3.b).trans u4.b) d1
  unfold bad4
  repeat (first | exact ea_nil | exact ee_non | exact ee_int | exact ee_str | exact ee_bl | exact ee_var (i := 1) rfl d1 | refine ee_tup ?_ (by decide) | refine ee_lst ?_ (by decide) | refine ea_cons ?_ ?_)
end
end K0


set_option Elab.async false
set_option linter.all false
set_option maxRecDepth 100000
set_option maxHeartbeats 4000000
namespace K0
open PySem PySem.Spec PyProof.Rows L2 GxR Tk
variable [LamTab]
theorem beq_str {a b : Str} : (a == b) = decide (a = b) := by
  by_cases h : a = b
  · subst h; simp
  · rw [decide_eq_false h]
    exact beq_eq_false_iff_ne.mpr h
theorem eqv_str {a b : Str} : PyData.eqv (.str a) (.str b) = decide (a = b) := by
  show (a == b) = _
  exact beq_str
theorem eqv_strs : ∀ {xs ys : List Str}, PyData.eqvAll (xs.map PyData.str) (ys.map PyData.str) = decide (xs = ys)
  | [], [] => rfl
  | [], y :: ys => by simp [PyData.eqvAll]
  | x :: xs, [] => by simp [PyData.eqvAll]
  | x :: xs, y :: ys => by
    have := eqv_strs (xs := xs) (ys := ys)
    simp only [List.map_cons, PyData.eqvAll, eqv_str, this]
    by_cases h1 : x = y <;> by_cases h2 : xs = ys <;> simp [h1, h2]
def ltS (a b : Str) : Prop := a.cps.toList < b.cps.toList
theorem ltS_trans {a b c : Str} (h : ltS a b) (k : ltS b c) : ltS a c := List.lt_trans h k
theorem ltS_irrefl {a : Str} : ¬ ltS a a := List.lt_irrefl _
theorem ltD_iff {a b : Str} : ltD (.str a) (.str b) = true ↔ ltS a b := by
  show decide (a.cps.toList < b.cps.toList) = true ↔ _
  exact decide_eq_true_iff
/-- ascending -/
def asc (xs : List Str) : Prop := xs.Pairwise ltS
theorem asc_iff {xs : List Str} : ascB (xs.map PyData.str) = true ↔ asc xs := by
  have e1 : ascB (xs.map PyData.str) = true ↔ ∀ i, ∀ (h : i + 1 < xs.length), ltS xs[i] xs[i + 1] := by
    unfold ascB
    rw [List.all_eq_true]
    refine ⟨fun h i hi => ?_, fun h d hd => ?_⟩
    · have hm : PyData.int (Int.ofNat i) ∈ upto (((xs.map PyData.str).length : Int) - 1).toNat := by
        unfold upto
        rw [List.length_map]
        exact List.mem_map.mpr ⟨i, List.mem_range.mpr (by omega), rfl⟩
      have := h _ hm
      have k : ltD ((xs.map PyData.str).getD i .none) ((xs.map PyData.str).getD (i + 1) .none) = true := this
      rw [List.getD_eq_getElem?_getD, List.getD_eq_getElem?_getD, List.getElem?_map, List.getElem?_map, List.getElem?_eq_getElem (by omega), List.getElem?_eq_getElem hi] at k
      exact ltD_iff.mp k
    · obtain ⟨i, hi, rfl⟩ := mem_upto hd
      rw [List.length_map] at hi
      have h1 : i + 1 < xs.length := by omega
      show ltD ((xs.map PyData.str).getD i .none) ((xs.map PyData.str).getD (i + 1) .none) = true
      rw [List.getD_eq_getElem?_getD, List.getD_eq_getElem?_getD, List.getElem?_map, List.getElem?_map, List.getElem?_eq_getElem (by omega), List.getElem?_eq_getElem h1]
      exact ltD_iff.mpr (h i h1)
  rw [e1]
  refine ⟨fun h => ?_, fun h i hi => (List.pairwise_iff_getElem.mp h) i (i + 1) (by omega) hi (by omega)⟩
  refine List.pairwise_iff_getElem.mpr fun i j hi hj hij => ?_
  obtain ⟨k, rfl⟩ : ∃ k, j = i + 1 + k := ⟨j - i - 1, by omega⟩
  clear hij
  induction k with
  | zero => exact h i (by omega)
  | succ k ih =>
    have h1 := ih (by omega)
    have h2 := h (i + 1 + k) (by omega)
    exact ltS_trans h1 h2
theorem sub_of : ∀ {ns ys : List Str}, asc ns → asc ys → (∀ y ∈ ys, y ∈ ns) → ys.Sublist ns
  | [], [], _, _, _ => List.Sublist.slnil
  | [], y :: ys, _, _, h => absurd (h y List.mem_cons_self) (by simp)
  | n :: ns, [], _, _, _ => List.nil_sublist _
  | n :: ns, y :: ys, an, ay, h => by
    obtain ⟨a1, a2⟩ := List.pairwise_cons.mp an
    obtain ⟨b1, b2⟩ := List.pairwise_cons.mp ay
    rcases List.mem_cons.mp (h y List.mem_cons_self) with z | z
    · subst z
      refine List.Sublist.cons₂ _ (sub_of a2 b2 fun x hx => ?_)
      rcases List.mem_cons.mp (h x (List.mem_cons_of_mem _ hx)) with w | w
      · exact absurd (w ▸ b1 x hx) ltS_irrefl
      · exact w
    · refine List.Sublist.cons _ (sub_of a2 ay fun x hx => ?_)
      have hy : ltS n y := a1 y z
      rcases List.mem_cons.mp hx with w | w
      · rw [w]; exact z
      · rcases List.mem_cons.mp (h x hx) with v | v
        · exact absurd (ltS_trans hy (v ▸ b1 x w)) ltS_irrefl
        · exact v
/-- the letters of a scope, as texts -/
def lets : List Str → List (List Str)
  | [] => [[]]
  | [a] => [[], [a]]
  | [a, b] => [[], [a], [b], [a, b]]
  | [a, b, c] => [[], [a], [b], [a, b], [c], [a, c], [b, c], [a, b, c]]
  | _ => []
def tupS (l : List Str) : PyData := .tuple (l.map PyData.str)
theorem lettersL_eq : ∀ {ns : List Str}, ns.length ≤ 3 → lettersL (ns.map PyData.str) = (lets ns).map tupS
  | [], _ => by rfl
  | [a], _ => by rfl
  | [a, b], _ => by kernel_rfl
  | [a, b, c], _ => by kernel_rfl
  | _ :: _ :: _ :: _ :: r, h => by simp at h
theorem lawLet_eq : ∀ {ns : List Str}, ns.length ≤ 3 → lawLet [.tuple []] (ns.map PyData.str) = (lets ns).map tupS
  | [], _ => by rfl
  | [a], _ => by rfl
  | [a, b], _ => by rfl
  | [a, b, c], _ => by rfl
  | _ :: _ :: _ :: _ :: r, h => by simp at h
theorem lets_sub : ∀ {ns l : List Str}, ns.length ≤ 3 → (l ∈ lets ns ↔ l.Sublist ns)
  | [], l, _ => by simp [lets]
  | [a], l, _ => by
    simp only [lets, List.mem_cons, List.not_mem_nil, or_false]
    constructor
    · rintro (rfl | rfl) <;> simp
    · intro h
      cases h with
      | cons _ h => cases h; simp
      | cons_cons _ h => cases h; simp
  | [a, b], l, _ => by
    simp only [lets, List.mem_cons, List.not_mem_nil, or_false]
    constructor
    · rintro (rfl | rfl | rfl | rfl) <;> simp
    · intro h
      cases h with
      | cons _ h =>
        cases h with
        | cons _ h => cases h; simp
        | cons_cons _ h => cases h; simp
      | cons_cons _ h =>
        cases h with
        | cons _ h => cases h; simp
        | cons_cons _ h => cases h; simp
  | [a, b, c], l, _ => by
    simp only [lets, List.mem_cons, List.not_mem_nil, or_false]
    constructor
    · rintro (rfl | rfl | rfl | rfl | rfl | rfl | rfl | rfl) <;> simp
    · intro h
      cases h with
      | cons _ h =>
        cases h with
        | cons _ h =>
          cases h with
          | cons _ h => cases h; simp
          | cons_cons _ h => cases h; simp
        | cons_cons _ h =>
          cases h with
          | cons _ h => cases h; simp
          | cons_cons _ h => cases h; simp
      | cons_cons _ h =>
        cases h with
        | cons _ h =>
          cases h with
          | cons _ h => cases h; simp
          | cons_cons _ h => cases h; simp
        | cons_cons _ h =>
          cases h with
          | cons _ h => cases h; simp
          | cons_cons _ h => cases h; simp
  | _ :: _ :: _ :: _ :: r, l, h => by simp at h
end K0


set_option Elab.async false
set_option linter.all false
set_option maxRecDepth 100000
set_option maxHeartbeats 1000000
/-! Q0: woods as rows of nodes; the walk through them. -/
namespace K0
open PySem PySem.Spec PyProof.Rows L2 GxR Tk
/-- a node: its letter, the numbers of both goals -/
abbrev Nd : Type := PyData × Nat × Nat
def ndD (r : Nd) : PyData := .tuple [r.1, .int (r.2.1 : Int), .int (r.2.2 : Int)]
def rowsOk (R : List Nd) : Prop := ∀ r ∈ R, r.2.1 < R.length ∧ r.2.2 < R.length
def addG (o : List Nat) (g : Nat) : List Nat := if g ∈ o then o else o ++ [g]
def bfs (R : List Nd) : Nat → List Nat → Nat → List Nat
  | 0, o, _ => o
  | f + 1, o, i => match o[i]? with
    | some k => (match R[k]? with
      | some r => bfs R f (addG (addG o r.2.1) r.2.2) (i + 1)
      | none => o)
    | none => o
def walkO (R : List Nd) (s : Nat) : List Nat := bfs R R.length [s] 0
def renum (R : List Nd) (o : List Nat) (k : Nat) : PyData := match R[k]? with
  | some r => .tuple [r.1, .int (o.idxOf r.2.1 : Nat), .int (o.idxOf r.2.2 : Nat)]
  | none => .none
def walkL (R : List Nd) (s : Nat) : List PyData := (walkO R s).map (renum R (walkO R s))
def goodO (n : Nat) (o : List Nat) : Prop := o.Nodup ∧ ∀ k ∈ o, k < n
theorem nd_len : ∀ (n : Nat) (o : List Nat), o.Nodup → (∀ k ∈ o, k < n) → o.length ≤ n
  | 0, o, _, h => by
    cases o with
    | nil => exact Nat.le_refl _
    | cons k o => exact absurd (h k List.mem_cons_self) (Nat.not_lt_zero _)
  | n + 1, o, nd, h => by
    have h1 := nd_len n (o.filter fun k => decide (k ≠ n)) (nd.filter _) fun k hk => by
      obtain ⟨a, b⟩ := List.mem_filter.mp hk
      have := h k a
      have := of_decide_eq_true b
      omega
    have h2 : o.length ≤ (o.filter fun k => decide (k ≠ n)).length + 1 := by
      have e : ∀ o : List Nat, o.Nodup → o.length ≤ (o.filter fun k => decide (k ≠ n)).length + 1 ∧ (n ∉ o → o.length ≤ (o.filter fun k => decide (k ≠ n)).length) := fun o => by
        induction o with
        | nil => intro _; exact ⟨by simp, fun _ => by simp⟩
        | cons k o ih =>
          intro nd
          obtain ⟨a, b⟩ := List.nodup_cons.mp nd
          obtain ⟨i1, i2⟩ := ih b
          by_cases z : k = n
          · subst z
            have := i2 a
            rw [List.filter_cons_of_neg (by simp)]
            exact ⟨by rw [List.length_cons]; omega, fun hn => absurd List.mem_cons_self hn⟩
          · have e : List.filter (fun k => decide (k ≠ n)) (k :: o) = k :: List.filter (fun k => decide (k ≠ n)) o := by
              rw [List.filter_cons]
              exact if_pos (decide_eq_true z)
            rw [e, List.length_cons, List.length_cons]
            exact ⟨by omega, fun hn => by have := i2 fun y => hn (List.mem_cons_of_mem _ y); omega⟩
      exact (e o nd).1
    omega
theorem goodO_len {n : Nat} {o : List Nat} (h : goodO n o) : o.length ≤ n := nd_len n o h.1 h.2
theorem goodO_add {n g : Nat} {o : List Nat} (h : goodO n o) (hg : g < n) : goodO n (addG o g) := by
  unfold addG
  split
  · exact h
  · rename_i hn
    refine ⟨List.nodup_append.mpr ⟨h.1, by simp, fun a ha b hb e => ?_⟩, fun k hk => ?_⟩
    · rw [List.mem_singleton.mp hb] at e
      exact hn (by rw [← e]; exact ha)
    · rcases List.mem_append.mp hk with z | z
      · exact h.2 k z
      · rw [List.mem_singleton.mp z]; exact hg
theorem addG_pre {o : List Nat} {g : Nat} : o <+: addG o g := by
  unfold addG
  split
  · exact List.prefix_refl _
  · exact List.prefix_append _ _
theorem addG_mem {o : List Nat} {g : Nat} : g ∈ addG o g := by
  unfold addG
  split
  · assumption
  · exact List.mem_append_right _ (List.mem_singleton.mpr rfl)
theorem bfs_pre {R : List Nd} : ∀ (f : Nat) (o : List Nat) (i : Nat), o <+: bfs R f o i
  | 0, o, _ => List.prefix_refl _
  | f + 1, o, i => by
    unfold bfs
    split
    · split
      · exact (addG_pre.trans addG_pre).trans (bfs_pre f _ _)
      · exact List.prefix_refl _
    · exact List.prefix_refl _
theorem bfs_step {R : List Nd} {f i k : Nat} {o : List Nat} {r : Nd} (h : o[i]? = some k) (hr : R[k]? = some r) : bfs R (f + 1) o i = bfs R f (addG (addG o r.2.1) r.2.2) (i + 1) := by
  rw [bfs, h]
  show (match R[k]? with | some r => bfs R f (addG (addG o r.2.1) r.2.2) (i + 1) | none => o) = _
  rw [hr]
theorem bfs_end {R : List Nd} {f : Nat} {o : List Nat} : bfs R f o o.length = o := by
  cases f with
  | zero => rfl
  | succ f =>
    rw [bfs, List.getElem?_eq_none (Nat.le_refl _)]
theorem idx_pre {o W : List Nat} {k : Nat} (h : o <+: W) (hk : k ∈ o) : W.idxOf k = o.idxOf k := by
  obtain ⟨t, rfl⟩ := h
  rw [List.idxOf_append, if_pos hk]
/-! the dict of numbers -/
def kvF (i : Nat) : List Nat → List (Key × V)
  | [] => []
  | k :: o => (Sum.inl (k : Int), V.int (i : Int)) :: kvF (i + 1) o
theorem kvF_app : ∀ (i : Nat) (o : List Nat) (g : Nat), kvF i (o ++ [g]) = kvF i o ++ [(Sum.inl (g : Int), V.int ((i + o.length : Nat) : Int))]
  | i, [], g => by simp [kvF]
  | i, k :: o, g => by
    show (Sum.inl (k : Int), V.int (i : Int)) :: kvF (i + 1) (o ++ [g]) = (Sum.inl (k : Int), V.int (i : Int)) :: (kvF (i + 1) o ++ [_])
    rw [kvF_app (i + 1) o g, List.length_cons, show i + 1 + o.length = i + (o.length + 1) by omega]
theorem kvF_len : ∀ (i : Nat) (o : List Nat), (kvF i o).length = o.length
  | _, [] => rfl
  | i, k :: o => by
    show (kvF (i + 1) o).length + 1 = o.length + 1
    rw [kvF_len]
theorem kvF_val : ∀ (i : Nat) (o : List Nat) (g : Nat), valV (kvF i o) (Sum.inl (g : Int)) = if g ∈ o then some (V.int ((i + o.idxOf g : Nat) : Int)) else none
  | i, [], g => rfl
  | i, k :: o, g => by
    by_cases z : k = g
    · subst z
      rw [if_pos List.mem_cons_self, List.idxOf_cons_self]
      show Option.map _ (List.find? _ ((Sum.inl (k : Int), V.int (i : Int)) :: kvF (i + 1) o)) = _
      rw [List.find?_cons_of_pos (p := fun kv : Key × V => decide (kv.1 = (Sum.inl (k : Int) : Key))) (decide_eq_true rfl)]
      rfl
    · have hz : ¬ ((Sum.inl (k : Int) : Key) = Sum.inl (g : Int)) := fun e => z (by
        have := Sum.inl.inj e
        omega)
      have ih := kvF_val (i + 1) o g
      unfold valV at ih ⊢
      show Option.map _ (List.find? _ ((Sum.inl (k : Int), V.int (i : Int)) :: kvF (i + 1) o)) = _
      rw [List.find?_cons_of_neg (p := fun kv : Key × V => decide (kv.1 = (Sum.inl (g : Int) : Key))) (by simpa using hz), ih]
      have hm : g ∈ k :: o ↔ g ∈ o := by
        rw [List.mem_cons]
        exact ⟨fun h => h.resolve_left fun e => z e.symm, .inr⟩
      by_cases hg : g ∈ o
      · rw [if_pos hg, if_pos (hm.mpr hg), (by rw [List.idxOf_cons, beq_eq_false_iff_ne.mpr z]; rfl : List.idxOf g (k :: o) = o.idxOf g + 1), show i + 1 + o.idxOf g = i + (o.idxOf g + 1) by omega]
      · rw [if_neg hg, if_neg fun y => hg (hm.mp y)]
theorem kvF_put {o : List Nat} {g : Nat} (h : g ∉ o) : putK (kvF 0 o) (Sum.inl (g : Int)) (V.int (o.length : Int)) = kvF 0 (o ++ [g]) := by
  rw [kvF_app, Nat.zero_add]
  unfold putK
  rw [if_neg]
  intro e
  obtain ⟨kv, h1, h2⟩ := List.any_eq_true.mp e
  have h2 := of_decide_eq_true h2
  have : ∀ (i : Nat) (o : List Nat), kv ∈ kvF i o → ∃ k ∈ o, kv.1 = Sum.inl (k : Int) := fun i o => by
    induction o generalizing i with
    | nil => intro hm; cases hm
    | cons k o ih =>
      intro hm
      rcases List.mem_cons.mp hm with z | z
      · exact ⟨k, List.mem_cons_self, by rw [z]⟩
      · obtain ⟨k', a, b⟩ := ih (i + 1) z
        exact ⟨k', List.mem_cons_of_mem _ a, b⟩
  obtain ⟨k, hk, ek⟩ := this 0 o h1
  rw [h2] at ek
  have := Sum.inl.inj ek
  exact h (by rw [show g = k by omega]; exact hk)
end K0


set_option Elab.async false
set_option linter.all false
set_option maxRecDepth 100000
set_option maxHeartbeats 2000000
/-! Cn: rows with no two nodes alike are told by what they bear. -/
namespace K0
open PySem PySem.Spec PyProof.Rows L2 GxR Tk
def gow (R : List Nd) (k w : Nat) : Nat := match R[k]? with
  | some r => if w = 0 then r.2.1 else r.2.2
  | none => 0
def cm (R : List Nd) (k : Nat) (ws : List Nat) : Nat := ws.foldl (gow R) k
def lt1 (R : List Nd) (k : Nat) : PyData := ((R[k]?).map fun r => r.1).getD .none
def bh (R : List Nd) (k : Nat) (ws : List Nat) : PyData := lt1 R (cm R k ws)
/-- the same letters at all places -/
def Bs (R : List Nd) (k : Nat) (S : List Nd) (m : Nat) : Prop := ∀ ws, bh R k ws = bh S m ws
theorem Bs.refl {R : List Nd} {k : Nat} : Bs R k R k := fun _ => rfl
theorem Bs.symm {R S : List Nd} {k m : Nat} (h : Bs R k S m) : Bs S m R k := fun ws => (h ws).symm
theorem Bs.trans {R S U : List Nd} {k m n : Nat} (h : Bs R k S m) (g : Bs S m U n) : Bs R k U n := fun ws => (h ws).trans (g ws)
theorem Bs.step {R S : List Nd} {k m : Nat} (h : Bs R k S m) (w : Nat) : Bs R (gow R k w) S (gow S m w) := fun ws => h (w :: ws)
theorem Bs.lt {R S : List Nd} {k m : Nat} (h : Bs R k S m) : lt1 R k = lt1 S m := h []
theorem Bs.cm {R S : List Nd} : ∀ (ws : List Nat) {k m : Nat}, Bs R k S m → Bs R (cm R k ws) S (cm S m ws)
  | [], _, _, h => h
  | w :: ws, _, _, h => Bs.cm ws (h.step w)
theorem gow_at {R : List Nd} {k w : Nat} {r : Nd} (h : R[k]? = some r) : gow R k w = if w = 0 then r.2.1 else r.2.2 := by unfold gow; rw [h]
theorem lt1_at {R : List Nd} {k : Nat} {r : Nd} (h : R[k]? = some r) : lt1 R k = r.1 := by unfold lt1; rw [h]; rfl
theorem gow_lt {R : List Nd} {k w : Nat} (hR : rowsOk R) (hk : k < R.length) : gow R k w < R.length := by
  rw [gow_at (List.getElem?_eq_getElem hk)]
  have := hR _ (List.getElem_mem hk)
  split
  · exact this.1
  · exact this.2
theorem cm_lt {R : List Nd} (hR : rowsOk R) : ∀ (ws : List Nat) {k : Nat}, k < R.length → cm R k ws < R.length
  | [], _, h => h
  | w :: ws, _, h => cm_lt hR ws (gow_lt hR h)
theorem cm_snoc {R : List Nd} {k w : Nat} {ws : List Nat} : cm R k (ws ++ [w]) = gow R (cm R k ws) w := by
  unfold cm
  rw [List.foldl_append]
  rfl
/-- no two nodes that one comes to from s bear the same -/
def Red (R : List Nd) (s : Nat) : Prop := ∀ u v : List Nat, Bs R (cm R s u) R (cm R s v) → cm R s u = cm R s v
def Rch (R : List Nd) (s x : Nat) : Prop := ∃ ws, x = cm R s ws
theorem Rch.step {R : List Nd} {s x w : Nat} (h : Rch R s x) : Rch R s (gow R x w) := by
  obtain ⟨ws, rfl⟩ := h
  exact ⟨ws ++ [w], cm_snoc.symm⟩
theorem Red.eq {R : List Nd} {s x y : Nat} (h : Red R s) (hx : Rch R s x) (hy : Rch R s y) (b : Bs R x R y) : x = y := by
  obtain ⟨u, rfl⟩ := hx
  obtain ⟨v, rfl⟩ := hy
  exact h u v b
/-- two orders of nodes that bear the same -/
structure Pd (R : List Nd) (s : Nat) (S : List Nd) (t : Nat) (o p : List Nat) : Prop where
  len : o.length = p.length
  at_ : ∀ i x y : Nat, o[i]? = some x → p[i]? = some y → Bs R x S y
  ro : ∀ x ∈ o, Rch R s x
  rp : ∀ y ∈ p, Rch S t y
section
variable {R S : List Nd} {s t : Nat}
theorem Pd.idx {o p : List Nat} {g h : Nat} (P : Pd R s S t o p) (hR : Red R s) (hS : Red S t) (no : o.Nodup) (np : p.Nodup) (b : Bs R g S h) (rg : Rch R s g) (rh : Rch S t h) : (g ∈ o ↔ h ∈ p) ∧ o.idxOf g = p.idxOf h := by
  have key : ∀ i : Nat, o[i]? = some g ↔ p[i]? = some h := fun i => by
    constructor
    · intro e
      have li := (List.getElem?_eq_some_iff.mp e).1
      have lp : i < p.length := by rw [← P.len]; exact li
      have ep := List.getElem?_eq_getElem lp
      have := P.at_ i g _ e ep
      have := hS.eq (P.rp _ (List.getElem_mem lp)) rh (this.symm.trans b)
      rw [ep, this]
    · intro e
      have li := (List.getElem?_eq_some_iff.mp e).1
      have lo : i < o.length := by rw [P.len]; exact li
      have eo := List.getElem?_eq_getElem lo
      have := P.at_ i _ h eo e
      have := hR.eq (P.ro _ (List.getElem_mem lo)) rg (this.trans b.symm)
      rw [eo, this]
  have mem : g ∈ o ↔ h ∈ p := by
    rw [List.mem_iff_getElem?, List.mem_iff_getElem?]
    exact ⟨fun ⟨i, e⟩ => ⟨i, (key i).mp e⟩, fun ⟨i, e⟩ => ⟨i, (key i).mpr e⟩⟩
  refine ⟨mem, ?_⟩
  by_cases z : g ∈ o
  · have e1 : o[o.idxOf g]? = some g := by
      have := List.idxOf_lt_length_of_mem z
      rw [List.getElem?_eq_getElem this, List.getElem_idxOf]
    have zp := mem.mp z
    have e2 : p[p.idxOf h]? = some h := by
      have := List.idxOf_lt_length_of_mem zp
      rw [List.getElem?_eq_getElem this, List.getElem_idxOf]
    have e3 := (key _).mp e1
    have pw := List.pairwise_iff_getElem.mp np
    obtain ⟨a1, a2⟩ := List.getElem?_eq_some_iff.mp e2
    obtain ⟨b1, b2⟩ := List.getElem?_eq_some_iff.mp e3
    apply Decidable.byContradiction
    intro w
    by_cases q : o.idxOf g < p.idxOf h
    · exact pw _ _ b1 a1 q (b2.trans a2.symm)
    · exact pw _ _ a1 b1 (by omega) (a2.trans b2.symm)
  · rw [List.idxOf_eq_length z, List.idxOf_eq_length (fun y => z (mem.mpr y)), P.len]
theorem Pd.add {o p : List Nat} {g h : Nat} (P : Pd R s S t o p) (hR : Red R s) (hS : Red S t) (no : o.Nodup) (np : p.Nodup) (b : Bs R g S h) (rg : Rch R s g) (rh : Rch S t h) : Pd R s S t (addG o g) (addG p h) := by
  have m := (P.idx hR hS no np b rg rh).1
  unfold addG
  by_cases z : g ∈ o
  · rw [if_pos z, if_pos (m.mp z)]; exact P
  · rw [if_neg z, if_neg fun y => z (m.mpr y)]
    refine ⟨by rw [List.length_append, List.length_append, P.len]; rfl, fun i x y e1 e2 => ?_, fun x hx => ?_, fun y hy => ?_⟩
    · by_cases q : i < o.length
      · rw [List.getElem?_append_left q] at e1
        rw [List.getElem?_append_left (by rw [← P.len]; exact q)] at e2
        exact P.at_ i x y e1 e2
      · rw [List.getElem?_append_right (by omega)] at e1
        rw [List.getElem?_append_right (by rw [← P.len]; omega), ← P.len] at e2
        cases hi : i - o.length with
        | zero => rw [hi] at e1 e2; cases e1; cases e2; exact b
        | succ k => rw [hi] at e1; cases e1
    · rcases List.mem_append.mp hx with q | q
      · exact P.ro x q
      · rw [List.mem_singleton.mp q]; exact rg
    · rcases List.mem_append.mp hy with q | q
      · exact P.rp y q
      · rw [List.mem_singleton.mp q]; exact rh
theorem bfs_pair (kR : rowsOk R) (kS : rowsOk S) (hR : Red R s) (hS : Red S t) : ∀ (f f' i : Nat) (o p : List Nat), Pd R s S t o p → goodO R.length o → goodO S.length p → i ≤ o.length → R.length ≤ f + i → S.length ≤ f' + i →
    Pd R s S t (bfs R f o i) (bfs S f' p i) ∧ goodO R.length (bfs R f o i) ∧ goodO S.length (bfs S f' p i)
  | f, f', i, o, p, P, go, gp, hi, hf, hf' => by
    by_cases e : i = o.length
    · have e' : i = p.length := by rw [← P.len]; exact e
      rw [e, bfs_end]
      rw [show o.length = p.length from P.len, bfs_end]
      exact ⟨P, go, gp⟩
    · have l1 := goodO_len go
      have l2 := goodO_len gp
      have io : i < o.length := by omega
      have ip : i < p.length := by rw [← P.len]; exact io
      have eo := List.getElem?_eq_getElem io
      have ep := List.getElem?_eq_getElem ip
      have xR := go.2 _ (List.getElem_mem io)
      have yS := gp.2 _ (List.getElem_mem ip)
      have eR := List.getElem?_eq_getElem xR
      have eS := List.getElem?_eq_getElem yS
      have b := P.at_ i _ _ eo ep
      have rx := P.ro _ (List.getElem_mem io)
      have ry := P.rp _ (List.getElem_mem ip)
      have b0 := b.step 0
      have b1 := b.step 1
      have rx0 := rx.step (w := 0)
      have rx1 := rx.step (w := 1)
      have ry0 := ry.step (w := 0)
      have ry1 := ry.step (w := 1)
      have lx0 := gow_lt (w := 0) kR xR
      have lx1 := gow_lt (w := 1) kR xR
      have ly0 := gow_lt (w := 0) kS yS
      have ly1 := gow_lt (w := 1) kS yS
      rw [gow_at eR] at b0 b1 rx0 rx1 lx0 lx1
      rw [gow_at eS] at b0 b1 ry0 ry1 ly0 ly1
      rw [if_pos rfl] at b0 rx0 ry0 lx0 ly0
      rw [if_pos rfl] at b0
      rw [if_neg (by decide)] at b1 rx1 ry1 lx1 ly1
      rw [if_neg (by decide)] at b1
      match f, f', hf, hf' with
      | 0, _, hf, _ => omega
      | _ + 1, 0, _, hf' => omega
      | f + 1, f' + 1, hf, hf' =>
        rw [bfs_step eo eR, bfs_step ep eS]
        have P1 := P.add hR hS go.1 gp.1 b0 rx0 ry0
        have g1 := goodO_add go lx0
        have k1 := goodO_add gp ly0
        have P2 := P1.add hR hS g1.1 k1.1 b1 rx1 ry1
        have g2 := goodO_add g1 lx1
        have k2 := goodO_add k1 ly1
        have := (addG_pre (o := o) (g := R[o[i]].2.1)).trans (addG_pre (g := R[o[i]].2.2))
        have := this.length_le
        exact bfs_pair kR kS hR hS f f' (i + 1) _ _ P2 g2 k2 (by omega) (by omega) (by omega)
theorem walk_pair (kR : rowsOk R) (kS : rowsOk S) (hR : Red R s) (hS : Red S t) (ls : s < R.length) (lt : t < S.length) (b : Bs R s S t) : Pd R s S t (walkO R s) (walkO S t) ∧ goodO R.length (walkO R s) ∧ goodO S.length (walkO S t) :=
  bfs_pair kR kS hR hS _ _ 0 [s] [t] ⟨rfl, (fun i x y e1 e2 => by
    cases i with
    | zero => cases e1; cases e2; exact b
    | succ k => cases e1), fun x hx => by rw [List.mem_singleton.mp hx]; exact ⟨[], rfl⟩, fun x hx => by rw [List.mem_singleton.mp hx]; exact ⟨[], rfl⟩⟩
    ⟨by simp, fun k hk => by rw [List.mem_singleton.mp hk]; exact ls⟩ ⟨by simp, fun k hk => by rw [List.mem_singleton.mp hk]; exact lt⟩ (Nat.zero_le _) (by omega) (by omega)
/-- what bears the same, with no two nodes alike, is walked alike -/
theorem canon (kR : rowsOk R) (kS : rowsOk S) (hR : Red R s) (hS : Red S t) (ls : s < R.length) (lt : t < S.length) (b : Bs R s S t) : walkL R s = walkL S t := by
  obtain ⟨P, go, gp⟩ := walk_pair kR kS hR hS ls lt b
  unfold walkL
  refine List.ext_getElem? fun i => ?_
  rw [List.getElem?_map, List.getElem?_map]
  by_cases hi : i < (walkO R s).length
  · have hp : i < (walkO S t).length := by rw [← P.len]; exact hi
    have eo := List.getElem?_eq_getElem hi
    have ep := List.getElem?_eq_getElem hp
    rw [eo, ep]
    show some (renum R (walkO R s) _) = some (renum S (walkO S t) _)
    have xR := go.2 _ (List.getElem_mem hi)
    have yS := gp.2 _ (List.getElem_mem hp)
    have eR := List.getElem?_eq_getElem xR
    have eS := List.getElem?_eq_getElem yS
    have bb := P.at_ i _ _ eo ep
    have rx := P.ro _ (List.getElem_mem hi)
    have ry := P.rp _ (List.getElem_mem hp)
    have i0 := (P.idx hR hS go.1 gp.1 (bb.step 0) (rx.step (w := 0)) (ry.step (w := 0))).2
    have i1 := (P.idx hR hS go.1 gp.1 (bb.step 1) (rx.step (w := 1)) (ry.step (w := 1))).2
    have l0 := bb.lt
    rw [gow_at eR, gow_at eS, if_pos rfl, if_pos rfl] at i0
    rw [gow_at eR, gow_at eS, if_neg (by decide), if_neg (by decide)] at i1
    rw [lt1_at eR, lt1_at eS] at l0
    unfold renum
    rw [eR, eS]
    show some (PyData.tuple [_, _, _]) = some (PyData.tuple [_, _, _])
    rw [l0, i0, i1]
  · rw [List.getElem?_eq_none (by omega), List.getElem?_eq_none (by rw [← P.len]; omega)]
    rfl
end
end K0


set_option Elab.async false
set_option linter.all false
set_option maxRecDepth 100000
set_option maxHeartbeats 2000000
/-! Cm: the walked rows bear what is walked; least nodes of those that bear the same. -/
namespace K0
open PySem PySem.Spec PyProof.Rows L2 GxR Tk
/-- walked rows, as nodes -/
def walkN (R : List Nd) (s : Nat) : List Nd := (walkO R s).map fun k => (lt1 R k, (walkO R s).idxOf (gow R k 0), (walkO R s).idxOf (gow R k 1))
def clO (R : List Nd) (o : List Nat) (i : Nat) : Prop := ∀ j k w : Nat, j < i → o[j]? = some k → gow R k w ∈ o
theorem gow_one {R : List Nd} {k w : Nat} (h : w ≠ 0) : gow R k w = gow R k 1 := by
  unfold gow
  split
  · rw [if_neg h, if_neg (by decide)]
  · rfl
theorem bfs_closed {R : List Nd} (kR : rowsOk R) : ∀ (f i : Nat) (o : List Nat), goodO R.length o → i ≤ o.length → R.length ≤ f + i → clO R o i → goodO R.length (bfs R f o i) ∧ clO R (bfs R f o i) (bfs R f o i).length
  | f, i, o, go, hi, hf, hc => by
    by_cases e : i = o.length
    · rw [e, bfs_end]
      rw [e] at hc
      exact ⟨go, hc⟩
    · have l1 := goodO_len go
      have io : i < o.length := by omega
      have eo := List.getElem?_eq_getElem io
      have xR := go.2 _ (List.getElem_mem io)
      have eR := List.getElem?_eq_getElem xR
      have lx0 := gow_lt (w := 0) kR xR
      have lx1 := gow_lt (w := 1) kR xR
      match f, hf with
      | 0, hf => omega
      | f + 1, hf =>
        rw [bfs_step eo eR]
        have e0 : gow R o[i] 0 = R[o[i]].2.1 := by rw [gow_at eR, if_pos rfl]
        have e1 : gow R o[i] 1 = R[o[i]].2.2 := by rw [gow_at eR, if_neg (by decide)]
        rw [e0] at lx0
        rw [e1] at lx1
        have g2 := goodO_add (goodO_add go lx0) lx1
        have pre := (addG_pre (o := o) (g := R[o[i]].2.1)).trans (addG_pre (g := R[o[i]].2.2))
        have := pre.length_le
        refine bfs_closed kR f (i + 1) _ g2 (by omega) (by omega) fun j k w hj hk => ?_
        have hjo : j < o.length := by omega
        have ek : o[j]? = some k := by
          obtain ⟨t, ht⟩ := pre
          rw [← ht, List.getElem?_append_left hjo] at hk
          exact hk
        by_cases q : j = i
        · subst q
          rw [eo] at ek
          cases ek
          by_cases z : w = 0
          · subst z
            rw [e0]
            exact addG_pre.subset addG_mem
          · rw [gow_one z, e1]
            exact addG_mem
        · exact pre.subset (hc j k w (by omega) ek)
section
variable {R : List Nd} {s : Nat}
theorem walkO_facts (kR : rowsOk R) (hs : s < R.length) : goodO R.length (walkO R s) ∧ clO R (walkO R s) (walkO R s).length ∧ (walkO R s)[0]? = some s := by
  obtain ⟨a, b⟩ := bfs_closed kR R.length 0 [s] ⟨by simp, fun k hk => by rw [List.mem_singleton.mp hk]; exact hs⟩ (Nat.zero_le _) (by omega) fun j k w hj => absurd hj (Nat.not_lt_zero _)
  refine ⟨a, b, ?_⟩
  have pre := bfs_pre (R := R) R.length [s] 0
  obtain ⟨t, ht⟩ := pre
  show (bfs R R.length [s] 0)[0]? = _
  rw [← ht]
  rfl
theorem walkN_len : (walkN R s).length = (walkO R s).length := by unfold walkN; rw [List.length_map]
theorem walkL_N (kR : rowsOk R) (hs : s < R.length) : walkL R s = (walkN R s).map ndD := by
  unfold walkL walkN
  rw [List.map_map]
  refine List.map_congr_left fun k hk => ?_
  have kl := (walkO_facts kR hs).1.2 k hk
  have eR := List.getElem?_eq_getElem kl
  unfold renum
  rw [eR]
  show PyData.tuple [R[k].1, .int ((walkO R s).idxOf R[k].2.1 : Nat), .int ((walkO R s).idxOf R[k].2.2 : Nat)] = .tuple [lt1 R k, .int (((walkO R s).idxOf (gow R k 0) : Nat) : Int), .int (((walkO R s).idxOf (gow R k 1) : Nat) : Int)]
  rw [lt1_at eR, gow_at eR, gow_at eR, if_pos rfl, if_neg (by decide)]
theorem walkN_at (kR : rowsOk R) (hs : s < R.length) {i k : Nat} (h : (walkO R s)[i]? = some k) : (walkN R s)[i]? = some (lt1 R k, (walkO R s).idxOf (gow R k 0), (walkO R s).idxOf (gow R k 1)) := by
  unfold walkN
  rw [List.getElem?_map, h]
  rfl
theorem idx_at {o : List Nat} {g : Nat} (h : g ∈ o) : o[o.idxOf g]? = some g := by
  have := List.idxOf_lt_length_of_mem h
  rw [List.getElem?_eq_getElem this, List.getElem_idxOf]
theorem walkN_ok (kR : rowsOk R) (hs : s < R.length) : rowsOk (walkN R s) := fun r hr => by
  obtain ⟨k, hk, rfl⟩ := List.mem_map.mp hr
  obtain ⟨_, c, _⟩ := walkO_facts kR hs
  obtain ⟨i, hi⟩ := List.mem_iff_getElem?.mp hk
  have li := (List.getElem?_eq_some_iff.mp hi).1
  rw [walkN_len]
  exact ⟨List.idxOf_lt_length_of_mem (c i k 0 li hi), List.idxOf_lt_length_of_mem (c i k 1 li hi)⟩
/-- node i of the walked rows bears what the i-th node of the order bears -/
theorem walkN_bs (kR : rowsOk R) (hs : s < R.length) : ∀ (ws : List Nat) {i k : Nat}, (walkO R s)[i]? = some k → bh (walkN R s) i ws = bh R k ws
  | [], i, k, h => by
    show lt1 (walkN R s) i = lt1 R k
    rw [lt1_at (walkN_at kR hs h)]
  | w :: ws, i, k, h => by
    obtain ⟨_, c, _⟩ := walkO_facts kR hs
    have li := (List.getElem?_eq_some_iff.mp h).1
    have m := c i k w li h
    have e : gow (walkN R s) i w = (walkO R s).idxOf (gow R k w) := by
      rw [gow_at (walkN_at kR hs h)]
      by_cases z : w = 0
      · subst z; rw [if_pos rfl]
      · rw [if_neg z, gow_one z]
    have := walkN_bs kR hs ws (idx_at m)
    show bh (walkN R s) (gow (walkN R s) i w) ws = bh R (gow R k w) ws
    rw [e]
    exact this
theorem walkN_root (kR : rowsOk R) (hs : s < R.length) : Bs (walkN R s) 0 R s := fun ws => walkN_bs kR hs ws (walkO_facts kR hs).2.2
/-- the least node that bears the same -/
theorem least_of_ex {p : Nat → Prop} : ∀ y : Nat, p y → ∃ c, p c ∧ ∀ z, p z → c ≤ z := fun y => by
  induction y using Nat.strongRecOn with
  | ind y ih =>
    intro h
    by_cases e : ∃ z, z < y ∧ p z
    · obtain ⟨z, hz, pz⟩ := e
      exact ih z hz pz
    · exact ⟨y, h, fun z pz => Nat.le_of_not_lt fun w => e ⟨z, w, pz⟩⟩
theorem ex_least {R : List Nd} {x : Nat} : ∃ c, c ≤ x ∧ Bs R x R c ∧ ∀ y, Bs R x R y → c ≤ y := by
  obtain ⟨c, h1, h2⟩ := least_of_ex (p := fun y => Bs R x R y) x .refl
  exact ⟨c, h2 x .refl, h1, h2⟩
noncomputable def chief (R : List Nd) (x : Nat) : Nat := Classical.choose (ex_least (R := R) (x := x))
theorem chief_le {x : Nat} : chief R x ≤ x := (Classical.choose_spec (ex_least (R := R) (x := x))).1
theorem chief_bs {x : Nat} : Bs R x R (chief R x) := (Classical.choose_spec (ex_least (R := R) (x := x))).2.1
theorem chief_min {x y : Nat} (h : Bs R x R y) : chief R x ≤ y := (Classical.choose_spec (ex_least (R := R) (x := x))).2.2 y h
theorem chief_eq {x y : Nat} (h : Bs R x R y) : chief R x = chief R y := Nat.le_antisymm (chief_min (h.trans chief_bs)) (chief_min (h.symm.trans chief_bs))
theorem chief_iff {x y : Nat} : chief R x = chief R y ↔ Bs R x R y := ⟨fun h => chief_bs.trans (by rw [h]; exact chief_bs.symm), chief_eq⟩
/-- rows told by any numbers that are equal just where nodes bear the same -/
structure Quo (R S : List Nd) (q : Nat → Nat) : Prop where
  lt : ∀ x, x < R.length → q x < S.length
  iff : ∀ x y, x < R.length → y < R.length → (q x = q y ↔ Bs R x R y)
  row : ∀ x, x < R.length → ∃ y, y < R.length ∧ q y = q x ∧ S[q x]? = some (lt1 R y, q (gow R y 0), q (gow R y 1))
theorem Quo.bs {R S : List Nd} {q : Nat → Nat} (kR : rowsOk R) (Q : Quo R S q) : ∀ (ws : List Nat) {x : Nat}, x < R.length → bh S (q x) ws = bh R x ws
  | [], x, hx => by
    obtain ⟨y, hy, e, er⟩ := Q.row x hx
    show lt1 S (q x) = lt1 R x
    rw [lt1_at er]
    exact ((Q.iff y x hy hx).mp e).lt
  | w :: ws, x, hx => by
    obtain ⟨y, hy, e, er⟩ := Q.row x hx
    have b := (Q.iff y x hy hx).mp e
    have g : gow S (q x) w = q (gow R y w) := by
      rw [gow_at er]
      by_cases z : w = 0
      · subst z; rw [if_pos rfl]
      · rw [if_neg z, gow_one z]
    show bh S (gow S (q x) w) ws = bh R (gow R x w) ws
    rw [g, Quo.bs kR Q ws (gow_lt kR hy)]
    exact (b.step w) ws
theorem Quo.come {R S : List Nd} {q : Nat → Nat} (kR : rowsOk R) (Q : Quo R S q) : ∀ (ws : List Nat) {x : Nat}, x < R.length → ∃ y, y < R.length ∧ cm S (q x) ws = q y ∧ Bs R (cm R x ws) R y
  | [], x, hx => ⟨x, hx, rfl, .refl⟩
  | w :: ws, x, hx => by
    obtain ⟨y, hy, e, er⟩ := Q.row x hx
    have b := (Q.iff y x hy hx).mp e
    have g : gow S (q x) w = q (gow R y w) := by
      rw [gow_at er]
      by_cases z : w = 0
      · subst z; rw [if_pos rfl]
      · rw [if_neg z, gow_one z]
    obtain ⟨z, hz, e1, e2⟩ := Quo.come kR Q ws (gow_lt (w := w) kR hy)
    refine ⟨z, hz, ?_, ?_⟩
    · show cm S (gow S (q x) w) ws = _
      rw [g, e1]
    · exact (Bs.cm ws (b.step w).symm).trans e2
theorem Quo.red {R S : List Nd} {q : Nat → Nat} (kR : rowsOk R) (Q : Quo R S q) {x : Nat} (hx : x < R.length) : Red S (q x) := fun u v h => by
  obtain ⟨y, hy, e1, _⟩ := Q.come kR u hx
  obtain ⟨z, hz, e2, _⟩ := Q.come kR v hx
  rw [e1, e2] at h ⊢
  exact (Q.iff y z hy hz).mpr fun ws => by rw [← Q.bs kR ws hy, ← Q.bs kR ws hz]; exact h ws
theorem Quo.root {R S : List Nd} {q : Nat → Nat} (kR : rowsOk R) (Q : Quo R S q) {x : Nat} (hx : x < R.length) : Bs S (q x) R x := fun ws => Q.bs kR ws hx
/-- the rows of least nodes -/
noncomputable def TB (R : List Nd) : List Nd := (List.range R.length).map fun x => (lt1 R x, chief R (gow R x 0), chief R (gow R x 1))
theorem TB_at {x : Nat} (h : x < R.length) : (TB R)[x]? = some (lt1 R x, chief R (gow R x 0), chief R (gow R x 1)) := by
  unfold TB
  rw [List.getElem?_map, List.getElem?_range h]
  rfl
theorem TB_len : (TB R).length = R.length := by unfold TB; rw [List.length_map, List.length_range]
theorem TB_quo (kR : rowsOk R) : Quo R (TB R) (chief R) :=
  ⟨fun x hx => by rw [TB_len]; exact Nat.lt_of_le_of_lt chief_le hx, fun x y _ _ => chief_iff, fun x hx => ⟨chief R x, Nat.lt_of_le_of_lt chief_le hx, (chief_eq chief_bs).symm, TB_at (Nat.lt_of_le_of_lt chief_le hx)⟩⟩
theorem TB_ok (kR : rowsOk R) : rowsOk (TB R) := fun r hr => by
  obtain ⟨x, hx, rfl⟩ := List.mem_map.mp hr
  have hx := List.mem_range.mp hx
  rw [TB_len]
  exact ⟨Nat.lt_of_le_of_lt chief_le (gow_lt kR hx), Nat.lt_of_le_of_lt chief_le (gow_lt kR hx)⟩
/-- the least rows, from a node -/
noncomputable def canL (R : List Nd) (s : Nat) : List PyData := walkL (TB R) (chief R s)
/-- any rows told so are walked to the least rows -/
theorem canL_quo {R S U : List Nd} {q : Nat → Nat} {s x : Nat} (kR : rowsOk R) (kS : rowsOk S) (kU : rowsOk U) (Q : Quo R S q) (hx : x < R.length) (hs : s < U.length) (b : Bs R x U s) : walkL S (q x) = canL U s :=
  canon kS (TB_ok kU) (Q.red kR hx) ((TB_quo kU).red kU hs) (Q.lt x hx) ((TB_quo kU).lt s hs) (((Q.root kR hx).trans b).trans ((TB_quo kU).root kU hs).symm)
theorem canL_eq {R U : List Nd} {s x : Nat} (kR : rowsOk R) (kU : rowsOk U) (hx : x < R.length) (hs : s < U.length) (b : Bs R x U s) : canL R x = canL U s := canL_quo kR (TB_ok kR) kU (TB_quo kR) hx hs b
/-- rows with no two nodes alike that bear the same -/
theorem canL_red {S U : List Nd} {s x : Nat} (kS : rowsOk S) (kU : rowsOk U) (hx : x < S.length) (hs : s < U.length) (h : Red S x) (b : Bs S x U s) : walkL S x = canL U s :=
  canon kS (TB_ok kU) h ((TB_quo kU).red kU hs) hx ((TB_quo kU).lt s hs) (b.trans ((TB_quo kU).root kU hs).symm)
end
end K0


set_option Elab.async false
set_option linter.all false
set_option maxRecDepth 100000
set_option maxHeartbeats 1000000
/-! Tk10: repr of bools, is not, min, t * n, tuple(t). -/
namespace Tk
open PySem PySem.Spec PyProof.Rows L2 GxR Gx
variable [LamTab]
def boolS (b : Bool) : Str := if b = true then "True" else "False"
def rReprB : List V → Hp → VK → Prop := fun xs H Q => ∃ b, xs = [V.bl b] ∧ Q (.str (boolS b)) H
section
variable {X : Cx} {a b e : Expr} {σ : L2.St} {H : Hp} {K : PySem.W.Frag}
theorem c_reprB : CallR X (.builtin "repr") rReprB := by
  intro pins s σ H xs us Q I r h
  obtain ⟨b, rfl, q⟩ := h
  obtain ⟨u, rfl, ru⟩ := vals1 r
  obtain rfl : u = Value.bool b := ru
  exact PySem.P.repr_of_bool ⟨.str (boolS b), H, I.tok _, ⟨s.toks, by cases b <;> rfl⟩, q⟩
theorem boot_repr' : bootBuiltins "repr" = some (.builtin "repr") := by decide +kernel
theorem ee_reprB {k : Bool} {p pos : Pos} (hm : X.mg "repr" = none) (ha : EE X e σ H (.bool k)) (hg : Gl X "repr" := by rfl) (he : starEach [e] X.env = (false, eval e X.env) :: starEach [] X.env := by rfl) : EE X (.Call (.Name "repr" p) [e] [] pos) σ H (.str (boolS k)) :=
  ee_callB c_reprB hg hm boot_repr' (fun B1 H1 l l1 vs hv Q q => by
    obtain ⟨v, rfl, hx⟩ := ds1 hv
    cases hx
    exact ⟨k, rfl, q _ B1 H1 (Up.refl l1) (.str _)⟩) (ea_cons ha ea_nil he) (by decide) (by decide) he rfl
theorem rr_isnotB {i j : Bool} : RR K (fun x y H Q => ∃ a b, x = V.bl a ∧ y = V.bl b ∧ Q (.bl (!decide (a = b))) H) H (.bool i) (.bool j) (.bool (!decide (i = j))) := fun B H1 l l1 x y hx hy Q q => by
  cases hx
  cases hy
  exact ⟨i, j, rfl, rfl, q _ B H1 (Up.refl l1) (.bl _)⟩
def rMin2 : List V → Hp → VK → Prop := fun xs H Q => ∃ i j, xs = [V.int i, V.int j] ∧ Q (.int (if j < i then j else i)) H
theorem c_min2 (hc : X.calm = true) : CallR X (.builtin "min") rMin2 := call_min2 hc
theorem boot_min' : bootBuiltins "min" = some (.builtin "min") := by decide +kernel
theorem ee_min2 {i j : Int} {p pos : Pos} (hc : X.calm = true) (hm : X.mg "min" = none) (ha : EE X a σ H (.int i)) (hb : EE X b σ H (.int j)) (hg : Gl X "min" := by rfl) (he : starEach [a, b] X.env = (false, eval a X.env) :: starEach [b] X.env := by rfl) (he2 : starEach [b] X.env = (false, eval b X.env) :: starEach [] X.env := by rfl) (hpl : (backTo pos (starEach [b] X.env)).any (·.1) = false := by rfl) :
    EE X (.Call (.Name "min" p) [a, b] [] pos) σ H (.int (if j < i then j else i)) :=
  ee_callB (c_min2 hc) hg hm boot_min' (fun B1 H1 l l1 vs hv Q q => by
    obtain ⟨v, w, rfl, hx, hy⟩ := ds2 hv
    cases hx
    cases hy
    exact ⟨i, j, rfl, q _ B1 H1 (Up.refl l1) (.int _)⟩) (ea_cons ha (ea_cons hb ea_nil he2) he) (by decide) (by decide) he hpl
theorem ds_rep {vs : List V} {ds : List PyData} (h : Ds K H vs ds) : ∀ n : Nat, Ds K H (List.replicate n vs).flatten (List.replicate n ds).flatten
  | 0 => .nil
  | n + 1 => by
    rw [List.replicate_succ, List.replicate_succ, List.flatten_cons, List.flatten_cons]
    exact h.append (ds_rep h n)
theorem rr_repT {xs : List PyData} {k : Int} (hne : xs ≠ []) (h1 : 2 ≤ k) (h2 : k ≤ 1000) (h3 : xs.length ≤ 1000) : RR K (rRepT K) H (.tuple xs) (.int k) (.tuple (List.replicate k.toNat xs).flatten) := fun B H1 l l1 x y hx hy Q q => by
  cases hy
  cases hx with
  | tup s t h0 =>
    refine ⟨_, k, _, rfl, rfl, sqT_le l1 s, fun e => ?_, h1, h2, by rw [h0.length]; exact h3, fun p hp => q _ _ _ ((Up.refl l1).new hp fun ps z => by cases z) (.new_tup upd_same (ds_rep (Ds.le (Le.new (l1.there p hp)) h0) _))⟩
    subst e
    cases h0
    exact hne rfl
end
end Tk


set_option Elab.async false
set_option linter.all false
set_option maxRecDepth 100000
set_option maxHeartbeats 1000000
/-! Tk11: calls with keywords alone. -/
namespace Tk
open PySem PySem.Spec PyProof.Rows L2 GxR Gx
variable [LamTab]
theorem pe_callK0 {X : Cx} {CX : CXT} {k : Nat} {f : Addr} {fd : FuncData} {ps ks : List Str} {sp : Sp} {E : XK} {x : Str} {p pos : Pos} {kws : List Keyword} {tk : TA} {g : List Value → List Value → List Value} {gV : List V → List V → List V}
    (F : FnOk X.prog X.w X.K X.mg X.base CX k f fd ps sp) (hr : Room k X.A) (hg : Gl X x) (hm : X.mg x = some (.ref f)) (hk : PySem.W.keepIn X.K (.ref f) = true) (hb : KBinds X.K fd ps ks g gV) (hx : Passes CX X E)
    (hkw : PK X kws tk) (hall : (backToKw pos (keywordEach kws X.env)).all (·.1.isSome) = true := by rfl) (hks : (backToKw pos (keywordEach kws X.env)).filterMap (·.1) = ks := by rfl)
    (hdb : (x == ("__debug__" : Str)) = false := by decide) (hpl : (backToKw pos (keywordEach kws X.env)).any (·.1.isNone) = false := by rfl) :
    PE X (.Call (.Name x p) [] kws pos) (fun σ H Q => tk σ H fun zs H2 => sp (gV [] zs) H2 Q E) := by
  refine ⟨fun pins s σ H Q I h => ?_⟩
  refine wpAny_Call_Name_kw (ld_glob I hg hm ?_ hdb)
  refine PySem.W.callWith_KW0 (h₀ := X.base) I.ok.mod.kin hk hall (thn (hkw.run pos pins s σ H _ I h) fun ws s2 ⟨zs, H2, I2, rz, q2⟩ => ⟨I2.kIn, ?_⟩) hpl
  rw [hks]
  exact run_fnk F hr hb hx I2 .nil rz q2
/-- f(k = e) of a def that changes nothing -/
theorem ee_callK {X : Cx} {P : Program} {w : World} {K : PySem.W.Frag} {mg : Str → Option Value} {base : Heap} {T : List Addr} {k j : Nat} {x kn : Str} {ps : List Str} {pre : List PyData → Prop} {fF : List PyData → PyData} {f : Addr} {fd : FuncData} {g : List Value → List Value → List Value} {gV : List V → List V → List V} {e : Expr} {σ : L2.St} {H : Hp} {d d1 : PyData} {p pos kpos : Pos}
    (G : FnOk P w K mg base CX0 k f fd ps (spF K T 1 pre fF)) (m1 : mg x = some (.ref f)) (m2 : PySem.W.keepIn K (.ref f) = true) (hb : KBinds K fd ps [kn] g gV) (hgv : ∀ v, gV [] [v] = [v]) (hr : Room j X.A) (hk : k ≤ j) (t : Tbs T H) (ha : EE X e σ H d1) (hp : pre [d1]) (hd : fF [d1] = d)
    (eP : X.prog = P := by rfl) (ew : X.w = w := by rfl) (eK : X.K = K := by rfl) (em : X.mg = mg := by rfl) (eb : X.base = base := by rfl) (hg : Gl X x := by rfl) (hdb : (x == ("__debug__" : Str)) = false := by decide)
    (hall : (backToKw pos (keywordEach [⟨some kn, e, kpos⟩] X.env)).all (·.1.isSome) = true := by rfl) (hks : (backToKw pos (keywordEach [⟨some kn, e, kpos⟩] X.env)).filterMap (·.1) = [kn] := by rfl) (hpl : (backToKw pos (keywordEach [⟨some kn, e, kpos⟩] X.env)).any (·.1.isNone) = false := by rfl) :
    EE X (.Call (.Name x p) [] [⟨some kn, e, kpos⟩] pos) σ H d := fun H1 l Q q => by
  subst hd eP ew eK em eb
  refine ⟨_, pe_callK0 (E := L2.E0) G (hr.mono hk) hg m1 m2 hb pass0 (pk_cons pe_w pk_nil) hall hks hdb hpl, ha H1 l _ fun v B2 H2 u2 dv => ?_⟩
  show spF X.K T 1 pre fF (gV [] [v]) H2 Q E0
  rw [hgv]
  exact ⟨rfl, (t.le l).le u2.h, B2, [d1], u2.s, .cons dv .nil, hp, fun v B3 H3 u3 d3 => q v B3 H3 (u2.trans u3) d3⟩
end Tk


set_option Elab.async false
set_option linter.all false
set_option maxRecDepth 100000
set_option maxHeartbeats 1000000
/-! Tk12: dicts whose keys are tuples: a display of one pair, a comprehension. -/
namespace Tk
open PySem PySem.Spec PyProof.Rows L2 GxR Gx
variable [LamTab]
/-- {t: v}, the key a tuple of numbers and texts -/
def tDispT (trs : List (TE × TE)) : TE := fun σ H Q => ∀ p, H p = none → tPairs trs σ (upd H p (.dT [])) fun ps H2 => H2 p = some (.dT []) ∧ ∃ (k : List L2.Key) (b : Addr) (v : V), ps = [(.ref b, v)] ∧ H2 b = some (.tup (k.map kV)) ∧ Q (.ref p) (upd H2 p (.dT [(k, v)]))
theorem pe_dispT {X : Cx} {pos : Pos} {keys : List (Option Expr)} {values : List Expr} {trs : List (TE × TE)} (hu : X.A.units + 1 < cLine) (h : PPs X pos keys values trs) (hall : keys.all (·.isSome) = true) (hl : keys.length = values.length) (h0 : keys ≠ [])
    (h15 : keys.length ≤ 15) : PE X (.Dict keys values pos) (tDispT trs) := by
  refine ⟨fun pins s σ H Q I want => ?_⟩
  have none_ := I.hok.fresh (a := s.heap.objs.size) (Nat.le_refl _)
  have I1 := I.laid (a := s.heap.objs.size) (o := .dT []) (h' := s.heap.push { cls := .type "dict", data := .dict #[] }) (t' := s.toks) (fun _ _ q => Heap.get?_push_of_some _ q) (Nat.le_refl _) (dt_empty s.heap I.big)
  have hn2 := pairTrees_length keys values X.env pos hall hl
  have hne : pairTrees keys values X.env pos ≠ [] := fun he => by
    rw [he] at hn2
    exact h0 (List.length_eq_zero_iff.mp hn2.symm)
  rw [arm_eval_Dict, zip_pairTrees keys values X.env pos hall hl, dictDisplay_pairs _ hne (by omega)]
  refine wpAny_bind (wpAny_standAt (wpAny_bind (wpAny_subDictH (knd := tupleKind (mixKind X.prog X.w)) (show X.A.units < cLine by omega) (by omega) (thn (h.run pins _ σ _ _ I1 (want _ none_)) fun ws s2 ⟨ps, H2, I2, rel, e, k, b, v, ep, eb, q2⟩ => ?_))))
  subst ep
  obtain ⟨z, hd, xs0, r0, dd⟩ := dt_of I2.hok e
  cases r0
  cases rel with
  | @cons p w2 ps ws h1 t =>
    cases t
    obtain ⟨wk, wv⟩ := w2
    obtain ⟨rk, rv⟩ := h1
    cases (show wk = Value.ref b from rk)
    have rv : RelV v wv := rv
    refine ⟨[(k, b, wv)], ⟨rfl, rfl, key_of I2.hok eb, trivial⟩, dd, fun h' tk dd' hs => wpAny_pure ⟨.ref s.heap.objs.size, _, ?_, rfl, q2⟩⟩
    obtain ⟨ob, es, ep, g1, h2, h3, h4, _, h5⟩ := dd'
    refine d_write I2 (by rw [e]; exact True.intro) hs ⟨ob, g1⟩ ⟨by show 1 ≤ sizeLine; decide, hd, _, ?_, ob, es, ep, g1, h2, h3, h4, h5⟩
    refine .cons ⟨rfl, ?_, rv⟩ .nil
    show (upd H2 s.heap.objs.size (.dT [(k, v)])) b = some (.tup (k.map kV))
    rw [upd_ne (ne_of eb e (fun z => nomatch z))]
    exact eb
end Tk


set_option Elab.async false
set_option linter.all false
set_option maxRecDepth 100000
set_option maxHeartbeats 2000000
/-! Tk13: dicts keyed by tuples of any provenance: what the dict's own object says (dxO) beside what the keys are. -/
namespace Tk
open PySem PySem.Spec PyProof.Rows L2 GxR Gx
variable [LamTab]
abbrev Ent : Type := List L2.Key × Addr × Value
def dxP (P : Program) (w : World) (a : Addr) (xs : List Ent) : Heap → Prop := fun h => ∃ o es ep, h.get? a = some o ∧ o.ExactDict ∧ o.data = .dict es ep ∧ es.toList = xs.map (entryOfKey (tupleKind (mixKind P w)))
def dxO (P : Program) (w : World) (a : Addr) (xs : List Ent) : HO := .ext (dxP P w a xs)
structure DX (P : Program) (w : World) (K : PySem.W.Frag) (H : Hp) (a : Addr) (xs : List Ent) : Prop where
  at_ : H a = some (dxO P w a xs)
  keys : ∀ x ∈ xs, SqT K H x.2.1 (x.1.map kV)
  nd : (xs.map (·.1)).Nodup
  sz : xs.length ≤ sizeLine
  lo : (a == sysModules) = false
section
variable {X : Cx} {pins : List (Addr × Obj)} {σ : L2.St} {H : Hp} {s : Shared} {a b : Addr} {xs : List Ent} {k : List L2.Key}
theorem dx_ok {P : Program} {w : World} {H : Hp} {h : Heap} (e : dxP P w a xs h) : ObjOk P w H h a (dxO P w a xs) := by
  refine ⟨e, ?_, fun h1 h2 p keep => ?_⟩
  · obtain ⟨o, _, _, g, _⟩ := e
    exact ⟨o, g⟩
  · obtain ⟨o, es, ep, g, r⟩ := p
    exact ⟨o, es, ep, keep o g, r⟩
theorem dx_key (I : L2.Inv X pins σ H s) (h : SqT X.K H b (k.map kV)) : (tupleKind (mixKind X.prog X.w)).is s.heap k b := by
  obtain ⟨its, r, ⟨o, g, c, n, d⟩, _⟩ := I.tuple h
  exact ⟨o, its.toArray, n, g, c, d, by simpa using items_are r⟩
theorem dx_of (I : L2.Inv X pins σ H s) (d : DX X.prog X.w X.K H a xs) : s.heap.DictOfH (tupleKind (mixKind X.prog X.w)) a xs := by
  obtain ⟨⟨o, es, ep, g, c, e1, e2⟩, _⟩ := (show ObjOk X.prog X.w H s.heap a (.ext _) from I.hok a _ d.at_)
  exact ⟨o, es, ep, g, c, e1, e2, fun x hx => dx_key I (d.keys x hx), d.nd⟩
theorem atKey_none : ∀ {xs : List Ent}, k ∉ xs.map (·.1) → atKey xs k = none
  | [], _ => rfl
  | x :: xs, h => by
    rw [List.map_cons, List.mem_cons, not_or] at h
    have ih := atKey_none (xs := xs) h.2
    unfold atKey at ih ⊢
    rw [List.find?_cons_of_neg (by simpa using fun e => h.1 e.symm)]
    exact ih
theorem atKey_iff : ∀ {xs : List Ent}, (atKey xs k).isSome = true ↔ k ∈ xs.map (·.1)
  | [] => Iff.intro (fun h => Bool.noConfusion h) (fun h => nomatch h)
  | x :: xs => by
    have ih := atKey_iff (xs := xs)
    rw [List.map_cons, List.mem_cons]
    by_cases z : x.1 = k
    · have e : atKey (x :: xs) k = some x.2 := by
        unfold atKey
        rw [List.find?_cons_of_pos (by simpa using z)]
        rfl
      rw [e]
      exact ⟨fun _ => .inl z.symm, fun _ => rfl⟩
    · have e : atKey (x :: xs) k = atKey xs k := by
        unfold atKey
        rw [List.find?_cons_of_neg (by simpa using z)]
      rw [e, ih]
      exact ⟨.inr, fun h => h.resolve_left fun e => z e.symm⟩
/-- a new key -/
theorem dx_set {E : Value → Shared → Prop} {Q : Unit → Shared → Prop} {v : Value} (hu : X.A.units + 1 < cLine) (I : L2.Inv X pins σ H s) (d : DX X.prog X.w X.K H a xs) (hk : SqT X.K H b (k.map kV)) (hn : k ∉ xs.map (·.1)) (hz : xs.length < sizeLine)
    (q : ∀ s', L2.Inv X pins σ (upd H a (dxO X.prog X.w a (xs ++ [(k, b, v)]))) s' → Q () s') : wpAny (model X.prog X.w) X.A (dictSet a (.ref b) v) Q E s := by
  refine wpAny_dictSet_heap (show X.A.units < cLine by omega) (dx_key I hk) (dx_of I d) (fun h' m hs => q _ ?_) (Nat.le_of_lt hz)
  rw [storedH_new (atKey_none hn)] at m
  obtain ⟨o, es, ep, g, c, e1, e2, _⟩ := m
  exact d_write I (by rw [d.at_]; exact True.intro) hs ⟨o, g⟩ (dx_ok ⟨o, es, ep, g, c, e1, e2⟩)
/-- t in d -/
def tDxIn (ty td : TE) (P : Program) (w : World) (K : PySem.W.Frag) : TE := fun σ H Q => ty σ H fun y H1 => td σ H1 fun x H2 => ∃ a b k xs, x = .ref a ∧ y = .ref b ∧ SqT K H2 b (k.map kV) ∧ DX P w K H2 a xs ∧ Q (.bl (atKey xs k).isSome) H2
theorem dx_in {E : Value → Shared → Prop} {Q : Value → Shared → Prop} (hu : X.A.units + 1 < cLine) (I : L2.Inv X pins σ H s) (d : DX X.prog X.w X.K H a xs) (hk : SqT X.K H b (k.map kV)) (q : ∀ s', L2.Inv X pins σ H s' → Q (.bool (atKey xs k).isSome) s') :
    wpAny (model X.prog X.w) X.A (compareOp .In (.ref b) (.ref a)) Q E s := by
  refine wpAny_in_heap (tupleKind_room_in1 hu) (dx_key I hk) d.lo (dx_of I d) ?_
  exact q _ (I.tok _)
theorem pc_dxin {X : Cx} {i o : Expr} {ty td : TE} (hu : X.A.units + 1 < cLine) (hi : PE X i ty) (ho : PE X o td) : PC X .In i o (tDxIn ty td X.prog X.w X.K) := by
  refine ⟨fun pins s σ H Q I h => thn (hi.run pins s σ H _ I h) fun vi s1 h1 => ?_⟩
  obtain ⟨y, H1, I1, r1, h1⟩ := h1
  refine thn (ho.run pins s1 σ H1 _ I1 h1) fun vo s2 h2 => ?_
  obtain ⟨x, H2, I2, r2, a, b, k, xs, rfl, rfl, hk, d, q⟩ := h2
  cases (show vo = Value.ref a from r2)
  cases (show vi = Value.ref b from r1)
  exact dx_in hu I2 d hk fun s3 I3 => ⟨.bl _, H2, I3, rfl, q⟩
end
end Tk


set_option Elab.async false
set_option linter.all false
set_option maxRecDepth 100000
set_option maxHeartbeats 2000000
/-! Nk: dicts keyed by nested tuples: {}, setdefault, d[t], len. -/
namespace Tk
open PySem PySem.Spec PyProof.Rows L2 GxR Gx
variable [LamTab]
mutual
def nkD : PyData → NestedKey
  | .int i => .num i
  | .str x => .text x
  | .tuple xs => .tup (nkDs xs)
  | _ => .none
def nkDs : List PyData → List NestedKey
  | [] => []
  | x :: xs => nkD x :: nkDs xs
end
mutual
def keyD : PyData → Bool
  | .none => true
  | .int _ => true
  | .str _ => true
  | .tuple xs => keyDs xs
  | _ => false
def keyDs : List PyData → Bool
  | [] => true
  | x :: xs => keyD x && keyDs xs
end
mutual
theorem nkD_inj : ∀ {d e : PyData}, keyD d = true → keyD e = true → nkD d = nkD e → d = e
  | .none, .none, _, _, _ => rfl
  | .none, .int _, _, _, h => by cases h
  | .none, .str _, _, _, h => by cases h
  | .none, .tuple _, _, _, h => by cases h
  | .int _, .none, _, _, h => by cases h
  | .int _, .int _, _, _, h => by injection h with h; rw [h]
  | .int _, .str _, _, _, h => by cases h
  | .int _, .tuple _, _, _, h => by cases h
  | .str _, .none, _, _, h => by cases h
  | .str _, .int _, _, _, h => by cases h
  | .str _, .str _, _, _, h => by injection h with h; rw [h]
  | .str _, .tuple _, _, _, h => by cases h
  | .tuple _, .none, _, _, h => by cases h
  | .tuple _, .int _, _, _, h => by cases h
  | .tuple _, .str _, _, _, h => by cases h
  | .tuple xs, .tuple ys, hx, hy, h => by
    injection h with h
    rw [nkDs_inj hx hy h]
theorem nkDs_inj : ∀ {xs ys : List PyData}, keyDs xs = true → keyDs ys = true → nkDs xs = nkDs ys → xs = ys
  | [], [], _, _, _ => rfl
  | [], _ :: _, _, _, h => by cases h
  | _ :: _, [], _, _, h => by cases h
  | x :: xs, y :: ys, hx, hy, h => by
    have a := (Bool.and_eq_true _ _).mp hx
    have b := (Bool.and_eq_true _ _).mp hy
    injection h with h1 h2
    rw [nkD_inj a.1 b.1 h1, nkDs_inj a.2 b.2 h2]
end
section
variable {X : Cx} {pins : List (Addr × Obj)} {σ : L2.St} {H : Hp} {s : Shared} {a b : Addr}
theorem is_tup (I : L2.Inv X pins σ H s) {xs : List V} {ks : List NestedKey} (q : SqT X.K H a xs) (h : ∀ us, Vals xs us → NestedAll s.heap ks us) : NestedIs s.heap (.tup ks) (.ref a) := by
  obtain ⟨its, rv, ⟨o, g, c, n, e⟩, _⟩ := I.tuple q
  exact .tup g c e (by simpa using h _ rv)
mutual
theorem dt_isK {K : PySem.W.Frag} {h : Heap} (hT : ∀ (a : Addr) (xs : List V) (ks : List NestedKey), SqT K H a xs → (∀ us, Vals xs us → NestedAll h ks us) → NestedIs h (.tup ks) (.ref a)) : ∀ {v : V} {d : PyData}, Dt K H v d → keyD d = true → ∀ u, RelV v u → NestedIs h (nkD d) u
  | _, _, .non, _, u, r => by
    have e : u = Value.none := r
    rw [e]; exact .none
  | _, _, .bl b, k, _, _ => by cases k
  | _, _, .int i, _, _, r => by obtain ⟨t, rfl⟩ := r; exact .int i t
  | _, _, .str x, _, _, r => by obtain ⟨t, rfl⟩ := r; exact .text x t
  | _, _, .lst _ _ _, k, _, _ => by cases k
  | _, _, .tup (a := a) q t h, k, u, r => by
    have e : u = Value.ref a := r
    rw [e]
    exact hT _ _ _ q (ds_isK hT h k)
  | _, _, .dct _, k, _, _ => by cases k
theorem ds_isK {K : PySem.W.Frag} {h : Heap} (hT : ∀ (a : Addr) (xs : List V) (ks : List NestedKey), SqT K H a xs → (∀ us, Vals xs us → NestedAll h ks us) → NestedIs h (.tup ks) (.ref a)) : ∀ {vs : List V} {ds : List PyData}, Ds K H vs ds → keyDs ds = true → ∀ us, Vals vs us → NestedAll h (nkDs ds) us
  | _, _, .nil, _, _, r => by cases r; exact .nil
  | _, _, .cons h t, k, _, r => by
    have k' := (Bool.and_eq_true _ _).mp k
    cases r with
    | cons r1 r2 => exact .cons (dt_isK hT h k'.1 _ r1) (ds_isK hT t k'.2 _ r2)
end
theorem dt_is (I : L2.Inv X pins σ H s) {v : V} {d : PyData} (h : Dt X.K H v d) {u : Value} (k : keyD d = true) (r : RelV v u) : NestedIs s.heap (nkD d) u := dt_isK (fun _ _ _ q h => is_tup I q h) h k u r
abbrev NEnt : Type := NestedKey × Addr × Value
def dnP (P : Program) (w : World) (a : Addr) (xs : List NEnt) : Heap → Prop := fun h => ∃ o es ep, h.get? a = some o ∧ o.ExactDict ∧ o.data = .dict es ep ∧ es.toList = xs.map (entryOfKey (nestedKind P w))
def dnO (P : Program) (w : World) (a : Addr) (xs : List NEnt) : HO := .ext (dnP P w a xs)
def isKey (d : PyData) : Prop := keyD d = true ∧ (nkD d).depth ≤ 8
structure DN (P : Program) (w : World) (K : PySem.W.Frag) (H : Hp) (a : Addr) (xs : List NEnt) : Prop where
  at_ : H a = some (dnO P w a xs)
  keys : ∀ x ∈ xs, ∃ d, Dt K H (.ref x.2.1) d ∧ isKey d ∧ x.1 = nkD d
  nd : (xs.map (·.1)).Nodup
  sz : xs.length ≤ sizeLine
  lo : (a == sysModules) = false
variable {xs : List NEnt} {d : PyData}
theorem dn_ok {P : Program} {w : World} {H : Hp} {h : Heap} (e : dnP P w a xs h) : ObjOk P w H h a (dnO P w a xs) := by
  refine ⟨e, ?_, fun h1 h2 p keep => ?_⟩
  · obtain ⟨o, _, _, g, _⟩ := e
    exact ⟨o, g⟩
  · obtain ⟨o, es, ep, g, r⟩ := p
    exact ⟨o, es, ep, keep o g, r⟩
theorem dn_key (I : L2.Inv X pins σ H s) (h : Dt X.K H (.ref b) d) (k : isKey d) : (nestedKind X.prog X.w).is s.heap (nkD d) b := ⟨dt_is I h k.1 rfl, k.2⟩
theorem dn_of (I : L2.Inv X pins σ H s) (d : DN X.prog X.w X.K H a xs) : s.heap.DictOfH (nestedKind X.prog X.w) a xs := by
  obtain ⟨⟨o, es, ep, g, c, e1, e2⟩, _⟩ := (show ObjOk X.prog X.w H s.heap a (.ext _) from I.hok a _ d.at_)
  refine ⟨o, es, ep, g, c, e1, e2, fun x hx => ?_, d.nd⟩
  obtain ⟨e, h1, h2, h3⟩ := d.keys x hx
  rw [h3]
  exact dn_key I h1 h2
theorem nk_none {k : NestedKey} : ∀ {xs : List NEnt}, k ∉ xs.map (·.1) ↔ atKey xs k = none
  | [] => Iff.intro (fun _ => rfl) (fun _ h => nomatch h)
  | x :: xs => by
    have ih := nk_none (k := k) (xs := xs)
    rw [List.map_cons, List.mem_cons, not_or]
    by_cases z : x.1 = k
    · have e : atKey (x :: xs) k = some x.2 := by
        unfold atKey
        rw [List.find?_cons_of_pos (by simpa using z)]
        rfl
      rw [e]
      exact ⟨fun h => absurd z.symm h.1, fun h => by cases h⟩
    · have e : atKey (x :: xs) k = atKey xs k := by
        unfold atKey
        rw [List.find?_cons_of_neg (by simpa using z)]
      rw [e, ← ih]
      exact ⟨fun h => h.2, fun h => ⟨fun e => z e.symm, h⟩⟩
/-! {} -/
def tNNew (P : Program) (w : World) : TE := fun _ H Q => ∀ p, H p = none → (p == sysModules) = false → Q (.ref p) (upd H p (dnO P w p []))
theorem pe_nnew {pos : Pos} : PE X (.Dict [] [] pos) (tNNew X.prog X.w) := ⟨fun pins s σ H Q I h =>
  wpAny_Dict_empty ⟨.ref s.heap.objs.size, _, I.laid (a := s.heap.objs.size) (o := dnO X.prog X.w s.heap.objs.size []) (t' := s.toks) (fun _ _ q => Heap.get?_push_of_some _ q) (Nat.le_refl _)
    (dn_ok ⟨_, #[], 0, Heap.get?_push_size _ rfl, ⟨rfl, rfl, rfl⟩, rfl, rfl⟩), rfl, h _ (I.hok.fresh (Nat.le_refl _)) (beq_eq_false_iff_ne.mpr (Nat.ne_of_gt I.big))⟩⟩
/-! d.setdefault(t, v) -/
def tNSetd (td ty tx : TE) (P : Program) (w : World) (K : PySem.W.Frag) : TE := fun σ H Q => td σ H fun x H1 => ∃ a, x = .ref a ∧ (∃ xs, DN P w K H1 a xs) ∧ ty σ H1 fun y H2 => tx σ H2 fun z H3 => ∃ (xs : List NEnt) (b : Addr) (d : PyData), y = .ref b ∧ Dt K H3 (.ref b) d ∧ isKey d ∧ DN P w K H3 a xs ∧ xs.length < sizeLine ∧
  (∀ p, atKey xs (nkD d) = some p → ∃ v, RelV v p.2 ∧ Q v H3) ∧ (atKey xs (nkD d) = none → ∀ u, RelV z u → Q z (upd H3 a (dnO P w a (xs ++ [(nkD d, b, u)]))))
theorem pe_nsetd {o e f : Expr} {td ty tx : TE} {apos cpos : Pos} (hu : X.A.units + 10 < cLine) (ho : PE X o td) (he : PE X e ty) (hf : PE X f tx) (m : M2 X o "setdefault" apos e f cpos) : PE X (.Call (.Attribute o "setdefault" apos) [e, f] [] cpos) (tNSetd td ty tx X.prog X.w X.K) := by
  refine ⟨fun pins s σ H Q I h => ?_⟩
  refine wpAny_Call_method m.base m.few m.line PySem.F.plainAttrs_dict PySem.F.slot_dict_setdefault PySem.F.type_dict_setdefault (thn (ho.run pins s σ H _ I h) fun u s1 ⟨x, H1, I1, rx, a, ex, ⟨xs0, d0⟩, q1⟩ => ?_)
  subst ex
  obtain rfl : u = Value.ref a := rx
  have dd := dn_of I1 d0
  refine ⟨dd.typeIs, fun b q => ?_, ?_⟩
  · cases q
    obtain ⟨ob, _, _, h1, h2, _⟩ := dd
    exact ⟨ob, h1, h2.2.1⟩
  rw [m.trees]
  refine Calls.callWith_builtin rfl (Calls.evalArgs_plain (Calls.spliced_cons (thn (he.run pins s1 σ H1 _ I1 q1) fun iv s2 ⟨y, H2, I2, ry, q2⟩ =>
    Calls.spliced_cons (thn (hf.run pins s2 σ H2 _ I2 q2) fun fv s3 ⟨z, H3, I3, rz, xs, b, d, ey, hd, hk, D, hl, q3, q4⟩ => Calls.spliced_nil ?_))))
  subst ey
  obtain rfl : iv = Value.ref b := ry
  refine call_setdefault_heap (hsz := D.sz) (show X.A.in1.units + 8 < cLine by rw [Around.in1_units]; omega) (dn_key I3 hd hk) D.lo (dn_of I3 D) (fun p hp => ?_) fun hn h' m' hs => ?_
  · obtain ⟨v, rv, qv⟩ := q3 p hp
    exact ⟨v, _, I3.tok _, rv, qv⟩
  · have m2 := m'
    rw [show storedH xs (nkD d) b fv = xs ++ [(nkD d, b, fv)] from storedH_new hn _ _] at m2
    obtain ⟨o, es, ep, g, c, e1, e2, _⟩ := m2
    exact ⟨z, _, d_write I3 (by rw [D.at_]; exact True.intro) hs ⟨o, g⟩ (dn_ok ⟨o, es, ep, g, c, e1, e2⟩), rz, q4 hn fv rz⟩
/-! d[t] -/
def tNGet (td ty : TE) (P : Program) (w : World) (K : PySem.W.Frag) : TE := fun σ H Q => td σ H fun x H1 => ty σ H1 fun y H2 => ∃ (a b : Addr) (xs : List NEnt) (d : PyData) (p : Addr × Value) (v : V), x = .ref a ∧ y = .ref b ∧ Dt K H2 (.ref b) d ∧ isKey d ∧ DN P w K H2 a xs ∧ atKey xs (nkD d) = some p ∧ RelV v p.2 ∧ Q v H2
theorem pe_nget {o i : Expr} {td ty : TE} {pos : Pos} (hu : X.A.units + 10 < cLine) (ho : PE X o td) (hi : PE X i ty) (hs : NoSl i) : PE X (.Subscript o i pos) (tNGet td ty X.prog X.w X.K) := by
  refine ⟨fun pins s σ H Q I h => ?_⟩
  refine subD_of PySem.F.slot_dict_getitem.lookup hs (thn (ho.run pins s σ H _ I h) fun u s1 ⟨x, H1, I1, rx, q1⟩ => thn (hi.run pins s1 σ H1 _ I1 q1) fun iv s2 ⟨y, H2, I2, ry, a, b, xs, d, p, v, ex, ey, hd, hk, D, hp, rv, q2⟩ => ?_)
  subst ex ey
  obtain rfl : u = Value.ref a := rx
  obtain rfl : iv = Value.ref b := ry
  have dd := dn_of I2 D
  exact ⟨dd.typeIs, wpAny_getItem_heap (show X.A.in1.units + 8 < cLine by rw [Around.in1_units]; omega) (dn_key I2 hd hk) dd hp ⟨v, H2, I2.tok _, rv, q2⟩⟩
/-! len(d) -/
def rLenN (P : Program) (w : World) (K : PySem.W.Frag) : List V → Hp → VK → Prop := fun vs H Q => ∃ (p : Addr) (xs : List NEnt), vs = [.ref p] ∧ DN P w K H p xs ∧ Q (.int ((xs.length : Nat) : Int)) H
theorem c_lenN : CallR X (.builtin "len") (rLenN X.prog X.w X.K) := by
  intro pins s σ H vs us Q I r h
  obtain ⟨p, xs, rfl, D, q⟩ := h
  obtain ⟨u, rfl, rx⟩ := vals1 r
  obtain rfl : u = .ref p := rx
  have hz := D.sz
  refine call_len_dictH D.lo (dn_of I D) (by rw [sizeLine_eq] at hz; omega) ?_
  exact ⟨.int ((xs.length : Nat) : Int), H, I.tok _, ⟨_, rfl⟩, q⟩
end
end Tk


set_option Elab.async false
set_option linter.all false
set_option maxRecDepth 100000
set_option maxHeartbeats 2000000
/-! Sm: lots told anew by letters and goals, until they stay. -/
namespace K0
open PySem PySem.Spec PyProof.Rows L2 GxR Tk
variable [LamTab]
def ltOk (R : List Nd) : Prop := ∀ r ∈ R, ∃ l : List Str, r.1 = tupS l
def gL (L : List Nat) (x : Nat) : Nat := L.getD x 0
def sgD (R : List Nd) (L : List Nat) (x : Nat) : PyData := .tuple [lt1 R x, .int ((gL L x : Nat) : Int), .int ((gL L (gow R x 0) : Nat) : Int), .int ((gL L (gow R x 1) : Nat) : Int)]
def sgK (R : List Nd) (L : List Nat) (x : Nat) : NestedKey := nkD (sgD R L x)
def addK (D : List NestedKey) (k : NestedKey) : List NestedKey := if k ∈ D then D else D ++ [k]
def sgs (R : List Nd) (L : List Nat) : List NestedKey := (List.range R.length).map (sgK R L)
def numsK (R : List Nd) (L : List Nat) : List NestedKey := (sgs R L).foldl addK []
def nextL (R : List Nd) (L : List Nat) : List Nat := (List.range R.length).map fun x => (numsK R L).idxOf (sgK R L x)
theorem gL_at {L : List Nat} {x : Nat} (h : x < L.length) : L[x]? = some (gL L x) := by
  unfold gL
  rw [List.getD_eq_getElem?_getD, List.getElem?_eq_getElem h]
  rfl
theorem addK_mem {D : List NestedKey} {k j : NestedKey} : j ∈ addK D k ↔ j ∈ D ∨ j = k := by
  unfold addK
  split
  · rename_i h
    exact ⟨.inl, fun z => z.elim id fun e => e ▸ h⟩
  · rw [List.mem_append, List.mem_singleton]
theorem addK_nd {D : List NestedKey} {k : NestedKey} (h : D.Nodup) : (addK D k).Nodup := by
  unfold addK
  split
  · exact h
  · rename_i hn
    refine List.nodup_append.mpr ⟨h, by simp, fun a ha b hb e => ?_⟩
    rw [List.mem_singleton.mp hb] at e
    exact hn (e ▸ ha)
theorem addK_pre {D : List NestedKey} {k : NestedKey} : D <+: addK D k := by
  unfold addK
  split
  · exact List.prefix_refl _
  · exact List.prefix_append _ _
theorem addK_len {D : List NestedKey} {k : NestedKey} : (addK D k).length ≤ D.length + 1 := by
  unfold addK
  split
  · omega
  · rw [List.length_append, List.length_singleton]; omega
theorem fold_mem : ∀ (ks D : List NestedKey) {j : NestedKey}, j ∈ ks.foldl addK D ↔ j ∈ D ∨ j ∈ ks
  | [], D, j => by simp
  | k :: ks, D, j => by
    rw [List.foldl_cons, fold_mem ks, addK_mem, List.mem_cons]
    exact ⟨fun h => h.elim (fun h => h.elim .inl fun e => .inr (.inl e)) fun h => .inr (.inr h), fun h => h.elim (fun h => .inl (.inl h)) fun h => h.elim (fun e => .inl (.inr e)) .inr⟩
theorem fold_nd : ∀ (ks : List NestedKey) {D : List NestedKey}, D.Nodup → (ks.foldl addK D).Nodup
  | [], D, h => h
  | k :: ks, D, h => fold_nd ks (addK_nd h)
theorem fold_pre : ∀ (ks D : List NestedKey), D <+: ks.foldl addK D
  | [], D => List.prefix_refl _
  | k :: ks, D => addK_pre.trans (fold_pre ks _)
theorem fold_len : ∀ (ks D : List NestedKey), (ks.foldl addK D).length ≤ D.length + ks.length
  | [], D => by simp
  | k :: ks, D => by
    have := fold_len ks (addK D k)
    have := addK_len (D := D) (k := k)
    rw [List.foldl_cons, List.length_cons]
    omega
theorem fold_takeK {ks : List NestedKey} {i : Nat} {k : NestedKey} (e : ks[i]? = some k) : (ks.take (i + 1)).foldl addK [] = addK ((ks.take i).foldl addK []) k := by
  rw [List.take_add_one, e, List.foldl_append]
  rfl
section
variable {R : List Nd} {L : List Nat} {m : Nat}
theorem sgs_at {x : Nat} (h : x < R.length) : (sgs R L)[x]? = some (sgK R L x) := by
  unfold sgs
  rw [List.getElem?_map, List.getElem?_range h]
  rfl
theorem sgs_len : (sgs R L).length = R.length := by unfold sgs; rw [List.length_map, List.length_range]
theorem nums_mem {x : Nat} (h : x < R.length) : sgK R L x ∈ numsK R L := (fold_mem _ _).mpr (.inr (List.mem_map.mpr ⟨x, List.mem_range.mpr h, rfl⟩))
theorem nums_nd : (numsK R L).Nodup := fold_nd _ List.nodup_nil
theorem nums_of {k : NestedKey} (h : k ∈ numsK R L) : ∃ x, x < R.length ∧ sgK R L x = k := by
  rcases (fold_mem _ _).mp h with z | z
  · cases z
  · obtain ⟨x, hx, e⟩ := List.mem_map.mp z
    exact ⟨x, List.mem_range.mp hx, e⟩
theorem nums_le : (numsK R L).length ≤ R.length := by
  have := fold_len (sgs R L) []
  rw [sgs_len] at this
  exact Nat.le_trans this (by simp)
theorem next_len : (nextL R L).length = R.length := by unfold nextL; rw [List.length_map, List.length_range]
theorem next_at {x : Nat} (h : x < R.length) : gL (nextL R L) x = (numsK R L).idxOf (sgK R L x) := by
  have : (nextL R L)[x]? = some ((numsK R L).idxOf (sgK R L x)) := by
    unfold nextL
    rw [List.getElem?_map, List.getElem?_range h]
    rfl
  unfold gL
  rw [List.getD_eq_getElem?_getD, this]
  rfl
theorem idx_inj {α : Type} [DecidableEq α] {D : List α} {a b : α} (ha : a ∈ D) (hb : b ∈ D) (e : D.idxOf a = D.idxOf b) : a = b := by
  have h1 := List.idxOf_lt_length_of_mem ha
  have h2 := List.idxOf_lt_length_of_mem hb
  have e1 : D[D.idxOf a] = a := List.getElem_idxOf h1
  have e2 : D[D.idxOf b] = b := List.getElem_idxOf h2
  have e3 : D[D.idxOf a] = D[D.idxOf b] := by congr 1
  rw [← e1, e3, e2]
theorem keyDs_strs : ∀ l : List Str, keyDs (l.map PyData.str) = true
  | [] => rfl
  | x :: l => by
    show (true && keyDs (l.map PyData.str)) = true
    rw [keyDs_strs l]; rfl
theorem depth_strs : ∀ l : List Str, NestedKey.depthAll (nkDs (l.map PyData.str)) = 0
  | [] => rfl
  | x :: l => by
    show max 0 (NestedKey.depthAll (nkDs (l.map PyData.str))) = 0
    rw [depth_strs l]; rfl
theorem lt_of (ok : ltOk R) {x : Nat} (h : x < R.length) : ∃ l : List Str, lt1 R x = tupS l := by
  rw [lt1_at (List.getElem?_eq_getElem h)]
  exact ok _ (List.getElem_mem h)
theorem sg_key (ok : ltOk R) {x : Nat} (h : x < R.length) : isKey (sgD R L x) := by
  obtain ⟨l, e⟩ := lt_of ok h
  unfold sgD isKey
  rw [e]
  refine ⟨?_, ?_⟩
  · show (keyDs (l.map PyData.str) && (true && (true && (true && true)))) = true
    rw [keyDs_strs]; rfl
  · show max (NestedKey.depthAll (nkDs (l.map PyData.str)) + 1) (max 0 (max 0 (max 0 0))) + 1 ≤ 8
    rw [depth_strs]; decide
theorem sg_iff (ok : ltOk R) {x y : Nat} (hx : x < R.length) (hy : y < R.length) : sgK R L x = sgK R L y ↔ (lt1 R x = lt1 R y ∧ gL L x = gL L y ∧ gL L (gow R x 0) = gL L (gow R y 0) ∧ gL L (gow R x 1) = gL L (gow R y 1)) := by
  constructor
  · intro e
    have e := nkD_inj (sg_key ok hx).1 (sg_key ok hy).1 e
    unfold sgD at e
    injection e with e
    injection e with e0 e
    injection e with e1 e
    injection e with e2 e
    injection e with e3 e
    injection e1 with e1
    injection e2 with e2
    injection e3 with e3
    exact ⟨e0, by omega, by omega, by omega⟩
  · rintro ⟨e0, e1, e2, e3⟩
    unfold sgK sgD
    rw [e0, e1, e2, e3]
theorem next_iff (ok : ltOk R) {x y : Nat} (hx : x < R.length) (hy : y < R.length) : gL (nextL R L) x = gL (nextL R L) y ↔ sgK R L x = sgK R L y := by
  rw [next_at hx, next_at hy]
  exact ⟨fun e => idx_inj (nums_mem hx) (nums_mem hy) e, fun e => by rw [e]⟩
structure Cls (R : List Nd) (L : List Nat) (m : Nat) : Prop where
  len : L.length = R.length
  lt : ∀ x, x < R.length → gL L x < m
  on : ∀ j, j < m → ∃ x, x < R.length ∧ gL L x = j
  bs : ∀ x y, x < R.length → y < R.length → Bs R x R y → gL L x = gL L y
theorem gL_rep {n x : Nat} : gL (List.replicate n 0) x = 0 := by
  unfold gL
  rw [List.getD_eq_getElem?_getD, List.getElem?_replicate]
  split <;> rfl
theorem cls0 (h0 : 0 < R.length) : Cls R (List.replicate R.length 0) 1 :=
  ⟨List.length_replicate .., fun x _ => by rw [gL_rep]; exact Nat.one_pos, fun j hj => ⟨0, h0, by rw [gL_rep]; omega⟩, fun x y _ _ _ => by rw [gL_rep, gL_rep]⟩
theorem Cls.next (C : Cls R L m) (kR : rowsOk R) (ok : ltOk R) : Cls R (nextL R L) (numsK R L).length := by
  refine ⟨next_len, fun x hx => ?_, fun j hj => ?_, fun x y hx hy b => ?_⟩
  · rw [next_at hx]
    exact List.idxOf_lt_length_of_mem (nums_mem hx)
  · obtain ⟨x, hx, e⟩ := nums_of (List.getElem_mem hj)
    refine ⟨x, hx, ?_⟩
    rw [next_at hx, e]
    have e2 := nums_nd (R := R) (L := L)
    have h1 := List.idxOf_lt_length_of_mem (List.getElem_mem hj)
    have h2 : (numsK R L)[(numsK R L).idxOf (numsK R L)[j]] = (numsK R L)[j] := List.getElem_idxOf h1
    have pw := List.pairwise_iff_getElem.mp e2
    apply Decidable.byContradiction
    intro z
    by_cases q : (numsK R L).idxOf (numsK R L)[j] < j
    · exact pw _ _ h1 hj q h2
    · exact pw _ _ hj h1 (by omega) h2.symm
  · rw [next_iff ok hx hy, sg_iff ok hx hy]
    exact ⟨b.lt, C.bs x y hx hy b, C.bs _ _ (gow_lt kR hx) (gow_lt kR hy) (b.step 0), C.bs _ _ (gow_lt kR hx) (gow_lt kR hy) (b.step 1)⟩
theorem sub_len {α : Type} [DecidableEq α] : ∀ (o l : List α), o.Nodup → (∀ k ∈ o, k ∈ l) → o.length ≤ l.length
  | [], l, _, _ => Nat.zero_le _
  | a :: o, l, nd, h => by
    obtain ⟨n1, n2⟩ := List.nodup_cons.mp nd
    have ha := h a List.mem_cons_self
    have := sub_len o (l.erase a) n2 fun k hk => (List.mem_erase_of_ne (fun e : k = a => n1 (by rw [← e]; exact hk))).mpr (h k (List.mem_cons_of_mem _ hk))
    have hl := List.length_erase_of_mem ha
    have := List.length_pos_of_mem ha
    rw [List.length_cons]
    omega
theorem Cls.le (C : Cls R L m) : m ≤ R.length := by
  have := sub_len (List.range m) L List.nodup_range fun k hk => by
    obtain ⟨x, hx, e⟩ := C.on k (List.mem_range.mp hk)
    exact List.mem_of_getElem? (by rw [gL_at (by rw [C.len]; exact hx), e])
  rw [List.length_range, C.len] at this
  exact this
/-- which old lot a new lot lies in -/
def oldL (R : List Nd) (L : List Nat) (j : Nat) : Nat := gL L ((nextL R L).idxOf j)
theorem next_idx {j : Nat} (h : j ∈ nextL R L) : (nextL R L).idxOf j < R.length ∧ gL (nextL R L) ((nextL R L).idxOf j) = j := by
  have h1 := List.idxOf_lt_length_of_mem h
  have h2 := gL_at h1
  rw [List.getElem?_eq_getElem h1, List.getElem_idxOf h1] at h2
  rw [next_len] at h1
  exact ⟨h1, (Option.some.inj h2).symm⟩
theorem old_at (ok : ltOk R) {x : Nat} (hx : x < R.length) : oldL R L (gL (nextL R L) x) = gL L x := by
  have hm : gL (nextL R L) x ∈ nextL R L := List.mem_of_getElem? (gL_at (by rw [next_len]; exact hx))
  obtain ⟨h1, h2⟩ := next_idx hm
  exact ((sg_iff ok h1 hx).mp ((next_iff ok h1 hx).mp h2)).2.1
theorem Cls.sub (C : Cls R L m) (ok : ltOk R) : ∀ j ∈ List.range m, j ∈ (List.range (numsK R L).length).map (oldL R L) := fun j hj => by
  obtain ⟨x, hx, e⟩ := C.on j (List.mem_range.mp hj)
  refine List.mem_map.mpr ⟨gL (nextL R L) x, List.mem_range.mpr ?_, by rw [old_at ok hx, e]⟩
  rw [next_at hx]
  exact List.idxOf_lt_length_of_mem (nums_mem hx)
theorem Cls.mono (C : Cls R L m) (ok : ltOk R) : m ≤ (numsK R L).length := by
  have := sub_len _ _ List.nodup_range (C.sub ok)
  rw [List.length_map, List.length_range, List.length_range] at this
  exact this
/-- a list that holds so many unlike ones as it is long has none twice -/
theorem nd_of_sub {α : Type} [DecidableEq α] : ∀ (l o : List α), o.Nodup → (∀ k ∈ o, k ∈ l) → l.length ≤ o.length → l.Nodup
  | [], _, _, _, _ => List.nodup_nil
  | a :: l, o, nd, h, hl => by
    refine List.nodup_cons.mpr ⟨fun z => ?_, ?_⟩
    · have := sub_len o l nd fun k hk => by
        rcases List.mem_cons.mp (h k hk) with e | e
        · exact e ▸ z
        · exact e
      rw [List.length_cons] at hl
      omega
    · refine nd_of_sub l (o.erase a) (nd.erase a) (fun k hk => ?_) ?_
      · have hk' := (nd.mem_erase_iff).mp hk
        rcases List.mem_cons.mp (h k hk'.2) with e | e
        · exact absurd e hk'.1
        · exact e
      · rw [List.length_cons] at hl
        by_cases z : a ∈ o
        · have := List.length_erase_of_mem z
          omega
        · rw [List.erase_of_not_mem z]
          omega
theorem Cls.stop (C : Cls R L m) (ok : ltOk R) (e : (numsK R L).length = m) {x y : Nat} (hx : x < R.length) (hy : y < R.length) (h : gL L x = gL L y) : gL (nextL R L) x = gL (nextL R L) y := by
  have nd := nd_of_sub _ _ List.nodup_range (C.sub ok) (by rw [List.length_map, List.length_range, List.length_range]; omega)
  have l1 : gL (nextL R L) x < (numsK R L).length := by rw [next_at hx]; exact List.idxOf_lt_length_of_mem (nums_mem hx)
  have l2 : gL (nextL R L) y < (numsK R L).length := by rw [next_at hy]; exact List.idxOf_lt_length_of_mem (nums_mem hy)
  rw [List.nodup_iff_pairwise_ne, List.pairwise_map] at nd
  have pw := List.pairwise_iff_getElem.mp nd
  have g1 := old_at (L := L) ok hx
  have g2 := old_at (L := L) ok hy
  apply Decidable.byContradiction
  intro z
  rcases Nat.lt_or_gt_of_ne z with q | q
  · have := pw _ _ (by rw [List.length_range]; exact l1) (by rw [List.length_range]; exact l2) q
    rw [List.getElem_range, List.getElem_range] at this
    exact this (by rw [g1, g2, h])
  · have := pw _ _ (by rw [List.length_range]; exact l2) (by rw [List.length_range]; exact l1) q
    rw [List.getElem_range, List.getElem_range] at this
    exact this (by rw [g1, g2, h])
theorem Cls.fin (C : Cls R L m) (kR : rowsOk R) (ok : ltOk R) (e : (numsK R L).length = m) {x y : Nat} (hx : x < R.length) (hy : y < R.length) : gL (nextL R L) x = gL (nextL R L) y ↔ Bs R x R y := by
  refine ⟨fun h ws => ?_, (C.next kR ok).bs x y hx hy⟩
  induction ws generalizing x y with
  | nil => exact ((sg_iff ok hx hy).mp ((next_iff ok hx hy).mp h)).1
  | cons w ws ih =>
    have s := (sg_iff ok hx hy).mp ((next_iff ok hx hy).mp h)
    have g : gL L (gow R x w) = gL L (gow R y w) := by
      by_cases z : w = 0
      · subst z; exact s.2.2.1
      · rw [gow_one z, gow_one z]; exact s.2.2.2
    exact ih (gow_lt kR hx) (gow_lt kR hy) (C.stop ok e (gow_lt kR hx) (gow_lt kR hy) g)
def srt (R : List Nd) : Nat → List Nat → Nat → List Nat
  | 0, L, _ => L
  | f + 1, L, m => if (numsK R L).length = m then nextL R L else srt R f (nextL R L) (numsK R L).length
def sortedL (R : List Nd) : List Nat := srt R R.length (List.replicate R.length 0) 1
/-- lots that are equal just where nodes bear the same -/
structure Lots (R : List Nd) (L : List Nat) (m : Nat) : Prop where
  cls : Cls R L m
  iff : ∀ x y, x < R.length → y < R.length → (gL L x = gL L y ↔ Bs R x R y)
theorem srt_good (kR : rowsOk R) (ok : ltOk R) : ∀ (f : Nat) (L : List Nat) (m : Nat), Cls R L m → R.length + 1 ≤ f + m → ∃ m', Lots R (srt R f L m) m'
  | 0, L, m, C, h => by
    have := C.le
    omega
  | f + 1, L, m, C, h => by
    unfold srt
    by_cases e : (numsK R L).length = m
    · rw [if_pos e]
      exact ⟨_, C.next kR ok, fun x y hx hy => C.fin kR ok e hx hy⟩
    · rw [if_neg e]
      have := C.mono ok
      exact srt_good kR ok f _ _ (C.next kR ok) (by omega)
theorem sorted_good (kR : rowsOk R) (ok : ltOk R) (h0 : 0 < R.length) : ∃ m, Lots R (sortedL R) m := srt_good kR ok _ _ _ (cls0 h0) (Nat.le_refl _)
/-- the rows of the lots -/
def lotR (R : List Nd) (L : List Nat) (k : Nat) : Nd := (lt1 R (L.idxOf k), gL L (gow R (L.idxOf k) 0), gL L (gow R (L.idxOf k) 1))
def lotS (R : List Nd) (L : List Nat) (m : Nat) : List Nd := (List.range m).map (lotR R L)
theorem lotS_at {k : Nat} (h : k < m) : (lotS R L m)[k]? = some (lotR R L k) := by
  unfold lotS
  rw [List.getElem?_map, List.getElem?_range h]
  rfl
theorem lotS_len : (lotS R L m).length = m := by unfold lotS; rw [List.length_map, List.length_range]
theorem lot_idx (C : Cls R L m) {k : Nat} (h : k < m) : L.idxOf k < R.length ∧ gL L (L.idxOf k) = k := by
  obtain ⟨x, hx, e⟩ := C.on k h
  have hm : k ∈ L := List.mem_of_getElem? (by rw [gL_at (by rw [C.len]; exact hx), e])
  have h1 := List.idxOf_lt_length_of_mem hm
  have h2 := gL_at h1
  rw [List.getElem?_eq_getElem h1, List.getElem_idxOf h1] at h2
  rw [C.len] at h1
  exact ⟨h1, (Option.some.inj h2).symm⟩
theorem lotS_ok (C : Cls R L m) (kR : rowsOk R) : rowsOk (lotS R L m) := fun r hr => by
  obtain ⟨k, hk, rfl⟩ := List.mem_map.mp hr
  have := (lot_idx C (List.mem_range.mp hk)).1
  rw [lotS_len]
  exact ⟨C.lt _ (gow_lt kR this), C.lt _ (gow_lt kR this)⟩
theorem lotS_quo (G : Lots R L m) : Quo R (lotS R L m) (gL L) :=
  ⟨fun x hx => by rw [lotS_len]; exact G.cls.lt x hx, G.iff, fun x hx => by
    have h := G.cls.lt x hx
    obtain ⟨h1, h2⟩ := lot_idx G.cls h
    exact ⟨L.idxOf (gL L x), h1, h2, lotS_at h⟩⟩
end
end K0


set_option Elab.async false
set_option linter.all false
set_option maxRecDepth 100000
set_option maxHeartbeats 2000000
/-! Q1: come_to, _law_at. -/
namespace K0
open PySem PySem.Spec PyProof.Rows L2 GxR Tk
variable [LamTab]
abbrev sCome : Stmt := t_come_to
abbrev sLAt : Stmt := t__law_at
def natD : PyData → Nat
  | .int i => i.toNat
  | _ => 0
/-- a place -/
def isPl (ps : List PyData) : Prop := ps.length ≤ 1000 ∧ ∀ p ∈ ps, p = .int 0 ∨ p = .int 1
def goR (R : List Nd) (k : Nat) (p : PyData) : Nat := match R[k]? with
  | some r => if natD p = 0 then r.2.1 else r.2.2
  | none => 0
def comeR (R : List Nd) (ps : List PyData) : Nat := ps.foldl (goR R) 0
/-- rows of nodes, read from data -/
def ndOf : PyData → Nd
  | .tuple [l, a, b] => (l, natD a, natD b)
  | _ => (.none, 0, 0)
theorem ndOf_nd (r : Nd) : ndOf (ndD r) = r := by
  obtain ⟨l, a, b⟩ := r
  rfl
theorem ndOf_map (R : List Nd) : (R.map ndD).map ndOf = R := by
  rw [List.map_map]
  exact (List.map_congr_left fun r _ => ndOf_nd r).trans (List.map_id _)
theorem goR_lt {R : List Nd} {k : Nat} {p : PyData} (h : rowsOk R) (hk : k < R.length) : goR R k p < R.length := by
  unfold goR
  rw [List.getElem?_eq_getElem hk]
  have := h _ (List.getElem_mem hk)
  show (if natD p = 0 then R[k].2.1 else R[k].2.2) < _
  split
  · exact this.1
  · exact this.2
theorem comeR_lt {R : List Nd} (h : rowsOk R) : ∀ (ps : List PyData) (k : Nat), k < R.length → ps.foldl (goR R) k < R.length
  | [], k, hk => hk
  | p :: ps, k, hk => comeR_lt h ps _ (goR_lt h hk)
theorem at_nd {R : List Nd} {k : Nat} (hk : k < R.length) : atI (R.map ndD) (k : Int) = some (ndD R[k]) := atI_nat (j := k) (by rw [List.getElem?_map, List.getElem?_eq_getElem hk]; rfl)
theorem at_go {R : List Nd} {k : Nat} {p : PyData} {i : Int} (hk : k < R.length) (hp : p = .int i) (h : i = 0 ∨ i = 1) : atI [R[k].1, .int (R[k].2.1 : Int), .int (R[k].2.2 : Int)] (1 + i) = some (.int (goR R k p : Int)) := by
  subst hp
  unfold goR
  rw [List.getElem?_eq_getElem hk]
  rcases h with rfl | rfl
  · exact atI_nat (j := 1) rfl
  · exact atI_nat (j := 2) rfl
def comeP (ds : List PyData) : Prop := ∃ R ps, ds = [.tuple (R.map ndD), .tuple ps] ∧ rowsOk R ∧ 0 < R.length ∧ isPl ps
def comeF : List PyData → PyData
  | [.tuple rs, .tuple ps] => .int (comeR (rs.map ndOf) ps : Nat)
  | _ => .none
def latP (ds : List PyData) : Prop := ∃ R ps a b, ds = [.tuple [a, b, .tuple (R.map ndD)], .tuple ps] ∧ rowsOk R ∧ 0 < R.length ∧ isPl ps
def latF : List PyData → PyData
  | [.tuple [_, _, .tuple rs], .tuple ps] => .int (comeR (rs.map ndOf) ps : Nat)
  | _ => .none
section
variable {P : Program} {w : World} {K : PySem.W.Frag} {mg : Str → Option Value} {base : Heap} {f : Addr} {fd : FuncData} {T : List Addr}
theorem pl_of {ps : List PyData} {i : Nat} {d : PyData} (h : isPl ps) (e : ps[i]? = some d) : ∃ k : Int, d = .int k ∧ (k = 0 ∨ k = 1) := by
  rcases h.2 d (List.mem_of_getElem? e) with rfl | rfl
  · exact ⟨0, rfl, .inl rfl⟩
  · exact ⟨1, rfl, .inr rfl⟩
theorem fold_take {R : List Nd} {ps : List PyData} {i : Nat} {d : PyData} (e : ps[i]? = some d) : (ps.take (i + 1)).foldl (goR R) 0 = goR R ((ps.take i).foldl (goR R) 0) d := by
  rw [List.take_add_one, e, List.foldl_append]
  rfl
theorem scCome : FnScope ["rows", "place", "node", "way"] ["rows", "place"] (defScope sCome) := ⟨rfl, rfl, rfl, by decide +kernel, rfl, by decide +kernel, by decide +kernel⟩
theorem ndCome : List.Nodup (["rows", "place", "node", "way"] : List Str) := by decide +kernel
theorem ok_come (F : L2.Fun K "come_to" "come_to" sCome f fd) : FnOk P w K mg base CX0 1 f fd ["rows", "place"] (spF K T 2 comeP comeF) := by
  refine fn_pure F scCome rfl fun cdv A outer s H vs B ds Q E hr hcd t l hd hl hp q => ?_
  obtain ⟨R, ps, rfl, hR, h0, hp⟩ := hp
  obtain ⟨v1, v2, rfl, h1, h2⟩ := ds2 hd
  refine wb_cons (ws_set (i := 2) l ee_int (fun v B1 H1 u1 d1 => ?_) ndCome)
  cases d1
  have h1' := Dt.le u1.b h1
  have h2' := Dt.le u1.b h2
  refine wb_cons (ws_for (tjs := [3]) (pat := patN) u1.s (ei_tup (ee_var (i := 1) rfl h2')) (eg_name ndCome) (fun d hd => ⟨[d], rfl⟩) PassesOwn.never rfl
    (fun i σ' B' H' => ∃ a3, σ' = [some v1, some v2, some (.int ((ps.take i).foldl (goR R) 0 : Nat)), a3] ∧ Up B H B' H') (fun B' H' u => ⟨none, rfl, u1.trans u⟩) (fun i d es us σ' B' H' B'' H'' hi he lb hI u4 hpat dus N hN => ?_) fun σ' B' H' lb ls hI => ?_)
  · obtain ⟨a3, rfl, ux⟩ := hI
    cases hpat
    obtain ⟨y, rfl, hy⟩ := ds1 (K := K) dus
    obtain ⟨k, rfl, hk⟩ := pl_of hp he
    cases hy
    have hlt := comeR_lt hR (ps.take i) 0 h0
    have uy := ux.trans u4
    refine wb_one (ws_set (i := 2) (d := .int (goR R ((ps.take i).foldl (goR R) 0) (.int k) : Nat)) u4.s (ee_ix ix_tup (rr_ixT (at_go hlt rfl hk)) (ee_ix ix_tup (rr_ixT (at_nd hlt)) (ee_var (i := 0) rfl (Dt.le uy.b h1)) (ee_var (i := 2) rfl (.int _))) (ee_op op_add rr_add ee_int (ee_var (i := 3) rfl (.int _)))) (fun v B5 H5 u5 d5 => ?_) ndCome)
    cases d5
    refine hN _ B5 H5 u5.b u5.s ⟨some (.int k), ?_, uy.trans u5⟩
    rw [fold_take he]
    rfl
  · obtain ⟨a3, rfl, ux⟩ := hI
    have e : ps.take ps.length = ps := List.take_length
    rw [e]
    refine wb_one (ws_ret (d := .int (comeR R ps : Nat)) ls (ee_var (i := 2) rfl (.int _)) fun v B6 H6 u6 d6 => q v B6 H6 (ux.trans u6) ?_)
    show Dt K B6 v (.int (comeR ((R.map ndD).map ndOf) ps : Nat))
    rw [ndOf_map]
    exact d6
end
end K0


set_option Elab.async false
set_option linter.all false
set_option maxRecDepth 100000
set_option maxHeartbeats 2000000
/-! Q2: walked. -/
namespace K0
open PySem PySem.Spec PyProof.Rows L2 GxR Tk
variable [LamTab]
abbrev sWalked : Stmt := t_walked
def iv (o : List Nat) : List V := o.map fun (k : Nat) => V.int (k : Int)
def idD (o : List Nat) : List PyData := o.map fun (k : Nat) => PyData.int (k : Int)
theorem ds_iv {K : PySem.W.Frag} {H : Hp} : ∀ o : List Nat, Ds K H (iv o) (idD o)
  | [] => .nil
  | k :: o => .cons (.int _) (ds_iv o)
theorem iv_app (o : List Nat) (g : Nat) : iv (o ++ [g]) = iv o ++ [V.int (g : Int)] := by
  unfold iv
  rw [List.map_append]
  rfl
theorem at_id {o : List Nat} {i k : Nat} (h : o[i]? = some k) : atI (idD o) (i : Int) = some (.int (k : Int)) := atI_nat (j := i) (by unfold idD; rw [List.getElem?_map, h]; rfl)
theorem up_none {B H B2 H2 : Hp} {a : Addr} {o : HO} (u : Up B H B2 H2) (hB : B a = none) (hH : H a = some o) (ho : ∀ ps, o ≠ .tbl ps) : B2 a = none := by
  cases q : B2 a with
  | none => rfl
  | some x =>
    rcases u.n a (by rw [q]; simp) with y | y | ⟨⟨ps, y⟩, _⟩
    · exact absurd hB y
    · rw [hH] at y; cases y
    · rw [hH] at y; exact absurd (Option.some.inj y) (ho ps)
theorem tbl_back {H H' : Hp} {a : Addr} {ps : Array Value} (l : Le H H') (h : H' a = some (.tbl ps)) : H a = none ∨ ∃ qs, H a = some (.tbl qs) := by
  cases q : H a with
  | none => exact .inl rfl
  | some o =>
    refine .inr ?_
    by_cases y : ∃ qs, o = .tbl qs
    · obtain ⟨qs, rfl⟩ := y
      exact ⟨qs, rfl⟩
    · have e := l.keep a o q fun qs e => (y ⟨qs, e⟩).elim
      rw [h] at e
      exact absurd ⟨ps, (Option.some.inj e).symm⟩ y
/-- the goals of the first i of o are in o -/
def closedO (R : List Nd) (o : List Nat) (i : Nat) : Prop := ∀ j k r, j < i → o[j]? = some k → R[k]? = some r → r.2.1 ∈ o ∧ r.2.2 ∈ o
theorem closed_step {R : List Nd} {o : List Nat} {i k : Nat} {r : Nd} (h : closedO R o i) (hk : o[i]? = some k) (hr : R[k]? = some r) : closedO R (addG (addG o r.2.1) r.2.2) (i + 1) := fun j k' r' hj hk' hr' => by
  have pre : o <+: addG (addG o r.2.1) r.2.2 := addG_pre.trans addG_pre
  have hil : i < o.length := (List.getElem?_eq_some_iff.mp hk).1
  have e : (addG (addG o r.2.1) r.2.2)[j]? = o[j]? := by
    obtain ⟨t, ht⟩ := pre
    rw [← ht, List.getElem?_append_left (by omega)]
  rw [e] at hk'
  by_cases z : j = i
  · subst z
    rw [hk] at hk'
    cases hk'
    rw [hr] at hr'
    cases hr'
    exact ⟨addG_pre.subset addG_mem, addG_mem⟩
  · obtain ⟨a, b⟩ := h j k' r' (by omega) hk' hr'
    exact ⟨pre.subset a, pre.subset b⟩
/-- t[e] where t leans on less than e -/
theorem ix_two {X : Cx} {a b : Expr} {σ : L2.St} {B Hf H1 : Hp} {ds : List PyData} {i : Int} {d : PyData} {pos : Pos} (h : atI ds i = some d) (ha : EE X a σ B (.tuple ds)) (hb : EE X b σ Hf (.int i)) (lB : Le B Hf) (l : Le Hf H1) {Q : VK}
    (q : ∀ v B2 H2, Up B H1 B2 H2 → Dt X.K B2 v d → Q v H2) (hp : PlainIx b := by intro _ _; rfl) : WE X (.Subscript a b pos) σ H1 Q :=
  ⟨_, pe_ix ix_tup pe_w pe_w hp, ha H1 (lB.trans l) _ fun x B2 H2 u2 dx => hb H2 (l.trans u2.h) _ fun y B3 H3 u3 dy => by
    cases dy
    exact rr_ixT (H := B2) h B2 H3 (Le.refl _) (u2.s.trans u3.h) x _ dx (.int _) Q fun v B4 H4 u4 dv => q v B4 H4 ((u2.tab u3.h).trans u4) dv⟩
/-- d[e], a dict of numbers -/
theorem ee_dget {X : Cx} {i : Nat} {x : Str} {ld : Addr} {kvs : List (Key × V)} {e : Expr} {σ : L2.St} {B : Hp} {n : Int} {d : PyData} {v : V} {p pos : Pos} (hu : X.A.units + 1 < cLine) (hσ : σ[i]? = some (some (.ref ld))) (hB : B ld = some (.dK kvs)) (he : EE X e σ B (.int n)) (hv : valV kvs (Sum.inl n) = some v) (hd : ∀ H, Dt X.K H v d)
    (hN : X.N[i]? = some x := by rfl) (hvis : Vis X.env.scope x := by first | exact Or.inl rfl | exact Or.inr (Or.inl rfl) | exact Or.inr (Or.inr rfl)) (hs : NoSl e := by intro _ _; rfl)
    (hdb : (x == ("__debug__" : Str)) = false := by decide) (hcd : (x == ("__classdict__" : Str)) = false := by decide) : EE X (.Subscript (.Name x p) e pos) σ B d := fun H1 l Q q =>
  ⟨_, pe_dget hu (pe_var hN hvis hdb hcd) pe_w hs, .ref ld, hσ, he H1 l _ fun y B2 H2 u2 dy => by
    cases dy
    have g : DGet H2 ld (kV (Sum.inl n)) (valV kvs (Sum.inl n)) := DGet.k (u2.h.keep ld _ (l.keep ld _ hB fun _ z => by cases z) fun _ z => by cases z)
    rw [hv] at g
    exact ⟨ld, v, rfl, g, q v B2 H2 u2 (hd B2)⟩⟩
section
variable {P : Program} {w : World} {K : PySem.W.Frag} {mg : Str → Option Value} {base : Heap} {f : Addr} {fd : FuncData} {T : List Addr}
def NW : List Str := ["rows", "start", "order", "numbers", "at", "row", "goal", "node"]
theorem scWalked : FnScope NW ["rows", "start"] (defScope sWalked) := ⟨rfl, rfl, rfl, by decide +kernel, rfl, by decide +kernel, by decide +kernel⟩
theorem ndW : List.Nodup NW := by decide +kernel
def walkP (ds : List PyData) : Prop := ∃ R s, ds = [.tuple (R.map ndD), .int ((s : Nat) : Int)] ∧ rowsOk R ∧ s < R.length ∧ R.length ≤ 1000
def walkF : List PyData → PyData
  | [.tuple rs, .int s] => .tuple (walkL (rs.map ndOf) s.toNat)
  | _ => .none
theorem ok_walked (BL : Blt mg) (F : L2.Fun K "walked" "walked" sWalked f fd) : FnOk P w K mg base CX0 1 f fd ["rows", "start"] (spF K T 2 walkP walkF) := by
  refine fn_pure F scWalked rfl fun cdv A outer s H vs B ds Q E hr hcd t l hd hl hp q => ?_
  obtain ⟨R, st, rfl, hR, hs, hn⟩ := hp
  obtain ⟨v1, v2, rfl, h1, h2⟩ := ds2 hd
  cases h2
  have hu := hu64 hr
  have hu1 : (A.deeper (envOfC "walked" (defScope sWalked) s.heap.objs.size f cdv)).units + 1 < cLine := by omega
  refine wb_cons ⟨_, ps_set (i := 2) ndW rfl (by first | exact Or.inl rfl | exact Or.inr rfl) (pe_lst (pa_cons (pe_var (i := 1) rfl (by first | exact Or.inl rfl | exact Or.inr (Or.inl rfl) | exact Or.inr (Or.inr rfl))) pa_nil)) rfl (by first | exact Or.inl rfl | exact Or.inr rfl), ?_⟩
  refine ⟨_, rfl, by show 1 ≤ sizeLine; decide, fun lo hlo => ?_⟩
  refine wb_cons ⟨_, ps_set (i := 3) ndW rfl (by first | exact Or.inl rfl | exact Or.inr rfl) (pe_disp (pps_cons (pe_var (i := 1) rfl (by first | exact Or.inl rfl | exact Or.inr (Or.inl rfl) | exact Or.inr (Or.inr rfl))) pe_int pps_nil) (by rfl) (by rfl) (fun z => by cases z) (by decide)) rfl (by first | exact Or.inl rfl | exact Or.inr rfl), ?_⟩
  refine fun ld hld => ⟨_, rfl, upd_same, [(Sum.inl (st : Int), V.int 0)], rfl, by show 1 ≤ 15; decide, ?_⟩
  have hld0 : H ld = none := (Le.new hlo).there ld hld
  have hne : ld ≠ lo := fun z => by rw [z, upd_same] at hld; cases hld
  have lH : Le H (upd (upd (upd H lo (.lst [.int (st : Int)])) ld (.dK [])) ld (.dK (mergeK [] [(Sum.inl (st : Int), V.int 0)]))) := ((Le.new hlo).mut hld0).mut hld0
  have e1 : (upd (upd (upd H lo (.lst [.int (st : Int)])) ld (.dK [])) ld (.dK (mergeK [] [(Sum.inl (st : Int), V.int 0)]))) lo = some (.lst (iv [st])) := by
    rw [upd_ne (fun z => hne z.symm), upd_ne (fun z => hne z.symm)]
    exact upd_same
  have e2 : (upd (upd (upd H lo (.lst [.int (st : Int)])) ld (.dK [])) ld (.dK (mergeK [] [(Sum.inl (st : Int), V.int 0)]))) ld = some (.dK (kvF 0 [st])) := upd_same
  generalize upd (upd (upd H lo (.lst [.int (st : Int)])) ld (.dK [])) ld (.dK (mergeK [] [(Sum.inl (st : Int), V.int 0)])) = H0 at lH e1 e2 ⊢
  have hBo : B lo = none := l.there lo hlo
  have hBd : B ld = none := l.there ld hld0
  refine wb_cons (ws_set (i := 4) (B := B) (l.trans lH) ee_int (fun v B1 H1 u1 d1 => ?_) ndW)
  cases d1
  have e1 := u1.h.keep lo _ e1 (fun _ z => by cases z)
  have e2 := u1.h.keep ld _ e2 (fun _ z => by cases z)
  have lH := lH.trans u1.h
  clear u1
  show WB _ _ _ [some v1, some (.int (st : Int)), some (.ref lo), some (.ref ld), some (.int 0), none, none, none] H1
  have g0 : goodO R.length [st] := ⟨by simp, fun k hk => by rw [List.mem_singleton.mp hk]; exact hs⟩
  refine wb_cons ⟨_, ps_while PassesOwn.never pt_w pss_w, ?_⟩
  refine ⟨fun k σ' H' => ∃ (o : List Nat) (i : Nat) (a5 a6 : Option V), σ' = [some v1, some (.int (st : Int)), some (.ref lo), some (.ref ld), some (.int (i : Int)), a5, a6, none] ∧ k = R.length - i ∧ goodO R.length o ∧ i ≤ o.length ∧ bfs R (R.length - i) o i = walkO R st ∧ closedO R o i ∧ H' lo = some (.lst (iv o)) ∧ H' ld = some (.dK (kvF 0 o)) ∧ Le H H',
    ⟨R.length, [st], 0, none, none, rfl, rfl, g0, Nat.zero_le _, rfl, fun j k r hj => absurd hj (Nat.not_lt_zero _), e1, e2, lH⟩, ?_⟩
  rintro k σ' H' ⟨o, i, a5, a6, rfl, rfl, hg, hi, hW, hC, e1, e2, lH⟩
  have lB := l.trans lH
  have hlen := goodO_len hg
  refine (et_cmp op_lt rr_lt (ee_var (i := 4) rfl (.int _)) (ee_len BL (ee_var (i := 2) rfl (.new_lst e1 (ds_iv o))) rfl fun x z => by cases z)) H' (Le.refl _) _ fun H2 l2 => ?_
  have e1 := l2.keep lo _ e1 (fun _ z => by cases z)
  have e2 := l2.keep ld _ e2 (fun _ z => by cases z)
  have lH := lH.trans l2
  have lB := lB.trans l2
  clear l2
  have eL : (idD o).length = o.length := List.length_map _
  rw [eL]
  by_cases hlt : i < o.length
  · rw [decide_eq_true (show (i : Int) < (o.length : Int) by omega)]
    refine (if_pos rfl).mpr ?_
    have hk : o[i]? = some o[i] := List.getElem?_eq_getElem hlt
    have hkR : o[i] < R.length := hg.2 _ (List.getElem_mem hlt)
    have hRk : R[o[i]]? = some R[o[i]] := List.getElem?_eq_getElem hkR
    obtain ⟨ra, rb⟩ := hR _ (List.getElem_mem hkR)
    obtain ⟨fu, hfu⟩ : ∃ fu, R.length - i = fu + 1 := ⟨R.length - i - 1, by omega⟩
    have hfu2 : R.length - (i + 1) = fu := by omega
    rw [hfu, bfs_step hk hRk] at hW
    have hat := at_nd hkR
    generalize hrE : R[o[i]] = r at ra rb hRk hW hat
    refine ⟨fun σ2 H5 => ∃ (o' : List Nat) (a5 a6 : Option V), σ2 = [some v1, some (.int (st : Int)), some (.ref lo), some (.ref ld), some (.int ((i + 1 : Nat) : Int)), a5, a6, none] ∧ goodO R.length o' ∧ i + 1 ≤ o'.length ∧ bfs R fu o' (i + 1) = walkO R st ∧ closedO R o' (i + 1) ∧ H5 lo = some (.lst (iv o')) ∧ H5 ld = some (.dK (kvF 0 o')) ∧ Le H H5,
      fun σ2 H5 ⟨o', a5, a6, z1, z2, z3, z4, zc, z5, z6, z7⟩ => ⟨R.length - (i + 1), by omega, o', i + 1, a5, a6, z1, rfl, z2, z3, by rw [hfu2]; exact z4, zc, z5, z6, z7⟩, ?_⟩
    refine wb_cons ⟨_, ps_set (i := 5) ndW rfl (by first | exact Or.inl rfl | exact Or.inr rfl) pe_w rfl (by first | exact Or.inl rfl | exact Or.inr rfl), ix_two (B := B) (Hf := H2) hat (ee_var (i := 0) rfl h1) (ee_ix ix_list (rr_ixL (at_id hk)) (ee_var (i := 2) rfl (.new_lst e1 (ds_iv o))) (ee_var (i := 4) rfl (.int _))) lB (Le.refl _) fun v B3 H3 u3 dv => ?_⟩
    have b3o := up_none u3 hBo e1 (fun _ z => by cases z)
    have b3d := up_none u3 hBd e2 (fun _ z => by cases z)
    have e1 := u3.h.keep lo _ e1 (fun _ z => by cases z)
    have e2 := u3.h.keep ld _ e2 (fun _ z => by cases z)
    have lH := lH.trans u3.h
    show WB _ _ _ [some v1, some (.int (st : Int)), some (.ref lo), some (.ref ld), some (.int (i : Int)), some v, a6, none] H3
    refine wb_cons (ws_for (B := B3) (ds := [.int (r.2.1 : Int), .int (r.2.2 : Int)]) (tjs := [6]) (pat := patN) u3.s (ei_tup ((ee_cut (ee_var (i := 5) rfl dv) (eo_some ee_int) eo_no).cast (by
        show PyData.tuple (cutD [r.1, .int (r.2.1 : Int), .int (r.2.2 : Int)] (some ((1 : Nat) : Int)) none) = _
        rw [cutD_drop (by show 1 ≤ 3; decide)]
        rfl))) (eg_name ndW) (fun d hd => ⟨[d], rfl⟩) PassesOwn.never rfl
      (fun j σ' B' H' => ∃ a6, σ' = [some v1, some (.int (st : Int)), some (.ref lo), some (.ref ld), some (.int (i : Int)), some v, a6, none] ∧ Le B B' ∧ B' lo = none ∧ B' ld = none ∧ goodO R.length (([r.2.1, r.2.2].take j).foldl addG o) ∧ H' lo = some (.lst (iv (([r.2.1, r.2.2].take j).foldl addG o))) ∧ H' ld = some (.dK (kvF 0 (([r.2.1, r.2.2].take j).foldl addG o))) ∧ Le H H')
      (fun B' H' u => ⟨a6, rfl, u3.b.trans u.b, up_none u b3o e1 (fun _ z => by cases z), up_none u b3d e2 (fun _ z => by cases z), hg, u.h.keep lo _ e1 (fun _ z => by cases z), u.h.keep ld _ e2 (fun _ z => by cases z), lH.trans u.h⟩) (fun j d es us σ' B' H' B'' H'' hj hd' lb hI u4 hpat dus N hN => ?_) fun σ' B' H' lb ls hI => ?_)
    · obtain ⟨a6, rfl, lB', b1, b2, gj, f1, f2, lHj⟩ := hI
      cases hpat
      obtain ⟨y, rfl, hy⟩ := ds1 (K := K) dus
      obtain ⟨g, rfl, hgn, hadd⟩ : ∃ g : Nat, d = .int (g : Int) ∧ g < R.length ∧ ([r.2.1, r.2.2].take (j + 1)).foldl addG o = addG (([r.2.1, r.2.2].take j).foldl addG o) g := by
        match j, hd' with
        | 0, hd' => cases hd'; exact ⟨r.2.1, rfl, ra, rfl⟩
        | 1, hd' => cases hd'; exact ⟨r.2.2, rfl, rb, rfl⟩
      cases hy
      have c1 := up_none u4 b1 f1 (fun _ z => by cases z)
      have c2 := up_none u4 b2 f2 (fun _ z => by cases z)
      have f1 := u4.h.keep lo _ f1 (fun _ z => by cases z)
      have f2 := u4.h.keep ld _ f2 (fun _ z => by cases z)
      have lHj := lHj.trans u4.h
      have lB'' := lB'.trans u4.b
      have gl := goodO_len gj
      generalize hoE : ([r.2.1, r.2.2].take j).foldl addG o = oj at gj f1 f2 hadd gl
      show WB _ _ _ [some v1, some (.int (st : Int)), some (.ref lo), some (.ref ld), some (.int (i : Int)), some v, some (.int (g : Int)), none] H''
      refine wb_one ⟨_, ps_if (pt_cmp (pc_dnotin hu1 (pe_var (i := 6) rfl (by first | exact Or.inl rfl | exact Or.inr (Or.inl rfl) | exact Or.inr (Or.inr rfl))) (pe_var (i := 3) rfl (by first | exact Or.inl rfl | exact Or.inr (Or.inl rfl) | exact Or.inr (Or.inr rfl))))) (pss_cons (ps_dput hu1 (pe_var (i := 3) rfl (by first | exact Or.inl rfl | exact Or.inr (Or.inl rfl) | exact Or.inr (Or.inr rfl))) (pe_var (i := 6) rfl (by first | exact Or.inl rfl | exact Or.inr (Or.inl rfl) | exact Or.inr (Or.inr rfl))) pe_w rfl) (pss_one (ps_expr (pe_bm PySem.F.plainAttrs_list PySem.F.slot_list_append PySem.F.type_list_append mt_append (pe_var (i := 2) rfl (by first | exact Or.inl rfl | exact Or.inr (Or.inl rfl) | exact Or.inr (Or.inr rfl))) (pa_cons (pe_var (i := 6) rfl (by first | exact Or.inl rfl | exact Or.inr (Or.inl rfl) | exact Or.inr (Or.inr rfl))) pa_nil))))) pss_nil, ?_⟩
      refine ⟨_, rfl, _, rfl, ld, _, rfl, DGet.k (k := Sum.inl (g : Int)) f2, _, rfl, ?_⟩
      rw [kvF_val]
      by_cases hm : g ∈ oj
      · rw [if_pos hm]
        refine hN _ B'' H'' (Le.refl _) u4.s ⟨some (.int (g : Int)), rfl, lB'', c1, c2, ?_⟩
        rw [hadd, show addG oj g = oj from if_pos hm]
        exact ⟨gj, f1, f2, lHj⟩
      · rw [if_neg hm]
        refine (ee_len BL (ee_var (i := 2) rfl (.new_lst f1 (ds_iv oj))) rfl fun x z => by cases z) H'' (Le.refl _) _ fun x B6 H6 u6 dx => ?_
        cases dx
        have f1 := u6.h.keep lo _ f1 (fun _ z => by cases z)
        have f2 := u6.h.keep ld _ f2 (fun _ z => by cases z)
        refine ⟨_, rfl, _, rfl, ld, _, rfl, DPut.k (k := Sum.inl (g : Int)) f2 (by rw [kvF_len]; exact Nat.lt_of_le_of_lt (show oj.length ≤ 1000 by omega) (by decide)), ?_⟩
        have g1 : (upd H6 ld (.dK (putK (kvF 0 oj) (Sum.inl (g : Int)) (.int ((idD oj).length : Int))))) lo = some (.lst (iv oj)) := by rw [upd_ne (fun z => hne z.symm)]; exact f1
        refine ⟨_, rfl, .inl ⟨rfl, _, SqL.of g1⟩, _, rfl, lo, iv oj, .int (g : Int), rfl, rfl, g1, by rw [iv, List.length_map]; exact Nat.lt_of_le_of_lt (show oj.length ≤ 1000 by omega) (by decide), ?_⟩
        have lHk := ((lHj.trans u6.h).mut hld0 (o := .dK (putK (kvF 0 oj) (Sum.inl (g : Int)) (.int ((idD oj).length : Int))))).mut hlo (o := .lst (iv oj ++ [.int (g : Int)]))
        have lBk : Le B'' (upd (upd H6 ld (.dK (putK (kvF 0 oj) (Sum.inl (g : Int)) (.int ((idD oj).length : Int))))) lo (.lst (iv oj ++ [.int (g : Int)]))) := ((u4.s.trans u6.h).mut c2).mut c1
        refine hN _ B'' _ (Le.refl _) lBk ⟨some (.int (g : Int)), rfl, lB'', c1, c2, ?_⟩
        rw [hadd]
        refine ⟨goodO_add gj hgn, ?_, ?_, lHk⟩
        · rw [show addG oj g = oj ++ [g] from if_neg hm, iv_app]
          exact upd_same
        · rw [show addG oj g = oj ++ [g] from if_neg hm, upd_ne hne]
          rw [← kvF_put hm, idD, List.length_map]
          exact upd_same
    · obtain ⟨a6, rfl, lB', b1, b2, gj, f1, f2, lHj⟩ := hI
      have ej : ([r.2.1, r.2.2].take ([PyData.int (r.2.1 : Int), .int (r.2.2 : Int)] : List PyData).length).foldl addG o = addG (addG o r.2.1) r.2.2 := rfl
      rw [ej] at gj f1 f2
      have hlen2 : i + 1 ≤ (addG (addG o r.2.1) r.2.2).length := Nat.le_trans hlt (addG_pre.trans addG_pre).length_le
      refine wb_one ⟨_, ps_aug (i := 4) ndW rfl (by first | exact Or.inl rfl | exact Or.inr rfl) pe_int ip_add, ?_⟩
      exact ⟨_, rfl, (i : Int), 1, rfl, rfl, addG (addG o r.2.1) r.2.2, some v, a6, rfl, gj, hlen2, hW, closed_step hC hk hRk, f1, f2, lHj⟩
  · rw [decide_eq_false (show ¬ (i : Int) < (o.length : Int) by omega)]
    refine (if_neg (by decide)).mpr ?_
    have hio : i = o.length := by omega
    subst hio
    rw [bfs_end] at hW
    have hu1 : (A.deeper (envOfC "walked" (defScope sWalked) s.heap.objs.size f cdv)).units + 1 < cLine := by omega
    have lF := (lB.add e1 (fun _ z => by cases z)).add e2 (fun _ z => by cases z)
    have hFd : (upd (upd B lo (.lst (iv o))) ld (.dK (kvF 0 o))) ld = some (.dK (kvF 0 o)) := upd_same
    have hFo : (upd (upd B lo (.lst (iv o))) ld (.dK (kvF 0 o))) lo = some (.lst (iv o)) := by rw [upd_ne fun z => hne z.symm]; exact upd_same
    have lBF : Le B (upd (upd B lo (.lst (iv o))) ld (.dK (kvF 0 o))) := (Le.new hBo).trans (Le.new (by rw [upd_ne hne]; exact hBd))
    have hcl : ∀ k ∈ o, ∀ r, R[k]? = some r → r.2.1 ∈ o ∧ r.2.2 ∈ o := fun k hk r hr => by
      obtain ⟨j, hj, e⟩ := List.mem_iff_getElem.mp hk
      exact hC j k r hj (by rw [List.getElem?_eq_getElem hj, e]) hr
    have key : ((idD o).filter fun _ => true).map (fun d => renum R o (natD d)) = walkL R st := by
      unfold walkL
      rw [← hW, List.filter_eq_self.mpr fun _ _ => rfl, idD, List.map_map]
      rfl
    generalize hBF : upd (upd B lo (.lst (iv o))) ld (.dK (kvF 0 o)) = BF at lF hFd hFo lBF
    refine wb_one (ws_ret (B := BF) (d := .tuple (walkL R st)) lF (ee_tuple BL (ds := walkL R st) ((ee_lc (own := [("node", 7)]) (tjs := [7]) (pat := patN) (fun _ => true) (fun d => renum R o (natD d)) rfl ndW (ei_lst (ee_var (i := 2) rfl (.new_lst hFo (ds_iv o))))
      (blkOk_by (show blkC NW (defScope sWalked) _ [("node", 7)] = true by decide +kernel)) (fun s H C cl fp => eg_name ndW) (fun d hd => ⟨[d], rfl, rfl⟩) (fun vs hv => ?_) (fun B' d es vs lb hd he hv s H C cl fp => ets_nil) (fun B' d es vs lb hd hb he hv s H C cl fp => ?_) ?_).cast (congrArg PyData.list key))) fun v B' H' u dv => q v B' H' ?_ ?_)
    · match vs, hv with
      | [a], _ => rfl
    · obtain ⟨k, hk, rfl⟩ := List.mem_map.mp hd
      cases he
      obtain ⟨y, rfl, hy⟩ := ds1 (K := K) hv
      cases hy
      have hkR := hg.2 k hk
      have hRk : R[k]? = some R[k] := List.getElem?_eq_getElem hkR
      obtain ⟨m1, m2⟩ := hcl k hk _ hRk
      have e0 : renum R o (natD (.int (k : Int))) = .tuple [R[k].1, .int (o.idxOf R[k].2.1 : Nat), .int (o.idxOf R[k].2.2 : Nat)] := by
        show renum R o k = _
        unfold renum
        rw [hRk]
      rw [e0]
      have hd2 := lb.keep ld _ hFd (fun _ z => by cases z)
      have hnd : ∀ {X : Cx} {σ : L2.St} {p1 p2 p3 : Pos}, True := fun {X σ p1 p2 p3} => trivial
      refine ee_tup (ea_cons (ee_ix ix_tup (rr_ixT at0) (ee_ix ix_tup (rr_ixT (at_nd hkR)) (ee_var (i := 0) rfl (Dt.le (lBF.trans lb) h1)) (ee_var (i := 7) rfl (.int _))) ee_int) (ea_cons (ee_dget (i := 3) (n := (R[k].2.1 : Int)) hu1 rfl hd2 (ee_ix ix_tup (rr_ixT (atI_nat (j := 1) rfl)) (ee_ix ix_tup (rr_ixT (at_nd hkR)) (ee_var (i := 0) rfl (Dt.le (lBF.trans lb) h1)) (ee_var (i := 7) rfl (.int _))) ee_int) ?_ fun H => .int _) (ea_cons (ee_dget (i := 3) (n := (R[k].2.2 : Int)) hu1 rfl hd2 (ee_ix ix_tup (rr_ixT (atI_nat (j := 2) rfl)) (ee_ix ix_tup (rr_ixT (at_nd hkR)) (ee_var (i := 0) rfl (Dt.le (lBF.trans lb) h1)) (ee_var (i := 7) rfl (.int _))) ee_int) ?_ fun H => .int _) ea_nil))) (by show 3 ≤ sizeLine; decide)
      · rw [kvF_val, if_pos m1, Nat.zero_add]
      · rw [kvF_val, if_pos m2, Nat.zero_add]
    · unfold idD
      rw [List.length_map]
      exact Nat.lt_of_le_of_lt (show o.length ≤ 1000 by omega) (by decide)
    · refine ⟨lH.trans u.h, lBF.trans u.b, u.s, fun a ha => ?_⟩
      rcases u.n a ha with z | z | z
      · rw [← hBF] at z
        by_cases y : a = ld
        · rw [y]; exact .inr (.inl hld0)
        rw [upd_ne y] at z
        by_cases x : a = lo
        · rw [x]; exact .inr (.inl hlo)
        rw [upd_ne x] at z
        exact .inl z
      · exact .inr (.inl (lH.there a z))
      · obtain ⟨⟨ps, z⟩, nz⟩ := z
        rcases tbl_back lH z with y | y
        · exact .inr (.inl y)
        · exact .inr (.inr ⟨y, nz⟩)
    · show Dt K B' v (.tuple (walkL ((R.map ndD).map ndOf) ((st : Int)).toNat))
      rw [ndOf_map]
      exact dv
end
end K0


set_option Elab.async false
set_option linter.all false
set_option maxRecDepth 100000
set_option maxHeartbeats 4000000
/-! Q3: _law_numbered. -/
namespace K0
open PySem PySem.Spec PyProof.Rows L2 GxR Tk
variable [LamTab]
abbrev sLNb : Stmt := t__law_numbered
theorem up_mut {B H B2 H2 : Hp} {p : Addr} {o : HO} (u : Up B H B2 H2) (h : H p = none) (b : B2 p = none) : Up B H B2 (upd H2 p o) := ⟨u.h.mut h, u.b, u.s.mut b, u.n⟩
/-- the names of a tuple, of what leans on less -/
theorem ws_tgtW {X : Cx} {tg e : Expr} {tjs : List Nat} {pat : PyData → Option (List PyData)} {σ : L2.St} {B H : Hp} {d : PyData} {es : List PyData} {D : L2.Ends} {pos : Pos} (h : ∀ Q : VK, (∀ v B' H', Up B H B' H' → Dt X.K B' v d → Q v H') → WE X e σ H Q) (hg : EG X tg tjs pat) (hp : pat d = some es)
    (q : ∀ vs B' H', Up B H B' H' → Ds X.K B' vs es → D.nx (setsS σ tjs vs) H') (h1 : swapsWithSole [tg] e pos.line X.env = pure false := by rfl) (h2 : swappedStores [tg] e X.env = pure none := by rfl) (h3 : (assignEach [tg] X.env).map (fun x => x.2) = [assign tg X.env] := by rfl) : WS X (.Assign [tg] e pos) D σ H :=
  ⟨_, ps_asg pe_w pg_w h1 h2 h3, h _ fun v B' H' u dv => hg v d es σ B' H' u.s dv hp _ fun vs dvs => q vs B' H' u dvs⟩
section
variable {P : Program} {w : World} {K : PySem.W.Frag} {mg : Str → Option Value} {base : Heap} {f : Addr} {fd : FuncData} {T : List Addr}
def NB : List Str := ["scope", "first", "rows", "line", "numbers", "done", "letter", "left", "right", "key"]
theorem scLNb : FnScope NB ["scope", "first", "rows"] (defScope sLNb) := ⟨rfl, rfl, rfl, by decide +kernel, rfl, by decide +kernel, by decide +kernel⟩
theorem ndB : List.Nodup NB := by decide +kernel
def nbP (ds : List PyData) : Prop := ∃ sc R s, ds = [sc, .int ((s : Nat) : Int), .tuple (R.map ndD)] ∧ rowsOk R ∧ s < R.length ∧ R.length ≤ 1000
def nbF : List PyData → PyData
  | [sc, .int s, .tuple rs] => .tuple [.str "wood", sc, .tuple (walkL (rs.map ndOf) s.toNat)]
  | _ => .none
theorem ok_lnb (BL : Blt mg) (F : L2.Fun K "_law_numbered" "_law_numbered" sLNb f fd) : FnOk P w K mg base CX0 1 f fd ["scope", "first", "rows"] (spF K T 3 nbP nbF) := by
  refine fn_pure F scLNb rfl fun cdv A outer s H vs B ds Q E hr hcd t l hd hl hp q => ?_
  obtain ⟨sc, R, st, rfl, hR, hs, hn⟩ := hp
  obtain ⟨v1, v2, v3, rfl, h1, h2, h3⟩ := ds3 hd
  cases h2
  have hu := hu64 hr
  have hu1 : (A.deeper (envOfC "_law_numbered" (defScope sLNb) s.heap.objs.size f cdv)).units + 1 < cLine := by omega
  refine wb_cons ⟨_, ps_par3 (i := 3) (j := 4) (l := 5) rfl ndB rfl rfl rfl (by decide) (by decide) (by decide) rfl rfl rfl pa_w rfl, ?_⟩
  refine ⟨_, pa_cons (pe_lst (pa_cons (pe_var (i := 1) rfl (by first | exact Or.inl rfl | exact Or.inr (Or.inl rfl) | exact Or.inr (Or.inr rfl))) pa_nil)) (pa_cons (pe_disp (pps_cons (pe_var (i := 1) rfl (by first | exact Or.inl rfl | exact Or.inr (Or.inl rfl) | exact Or.inr (Or.inr rfl))) pe_int pps_nil) (by rfl) (by rfl) (fun z => by cases z) (by decide)) (pa_cons (pe_lst pa_nil) pa_nil)), ?_⟩
  refine ⟨_, rfl, by show 1 ≤ sizeLine; decide, fun lo hlo ld hld => ⟨_, rfl, upd_same, [(Sum.inl (st : Int), V.int 0)], rfl, by show 1 ≤ 15; decide, ?_⟩⟩
  refine ⟨by decide, fun lD hlD => ⟨_, _, _, rfl, ?_⟩⟩
  have hld0 : H ld = none := (Le.new hlo).there ld hld
  have hne : ld ≠ lo := fun z => by rw [z, upd_same] at hld; cases hld
  have hneD : lD ≠ ld := fun z => by rw [z, upd_same] at hlD; cases hlD
  have hneO : lD ≠ lo := fun z => by rw [z, upd_ne (fun z => hne z.symm), upd_ne (fun z => hne z.symm), upd_same] at hlD; cases hlD
  have hlD0 : H lD = none := by
    rw [upd_ne hneD, upd_ne hneD, upd_ne hneO] at hlD
    exact hlD
  have hBo : B lo = none := l.there lo hlo
  have hBd : B ld = none := l.there ld hld0
  have hBD : B lD = none := l.there lD hlD0
  have u0 : Up B H B (upd (upd (upd (upd H lo (.lst [.int (st : Int)])) ld (.dK [])) ld (.dK (mergeK [] [(Sum.inl (st : Int), V.int 0)]))) lD (.lst [])) := up_mut (up_mut (up_mut (up_mut (Up.refl l) hlo hBo) hld0 hBd) hld0 hBd) hlD0 hBD
  have e1 : (upd (upd (upd (upd H lo (.lst [.int (st : Int)])) ld (.dK [])) ld (.dK (mergeK [] [(Sum.inl (st : Int), V.int 0)]))) lD (.lst [])) lo = some (.lst (iv [st])) := by
    rw [upd_ne (fun z => hneO z.symm), upd_ne (fun z => hne z.symm), upd_ne (fun z => hne z.symm)]
    exact upd_same
  have e2 : (upd (upd (upd (upd H lo (.lst [.int (st : Int)])) ld (.dK [])) ld (.dK (mergeK [] [(Sum.inl (st : Int), V.int 0)]))) lD (.lst [])) ld = some (.dK (kvF 0 [st])) := by
    rw [upd_ne (fun z => hneD z.symm)]
    exact upd_same
  have e3 : (upd (upd (upd (upd H lo (.lst [.int (st : Int)])) ld (.dK [])) ld (.dK (mergeK [] [(Sum.inl (st : Int), V.int 0)]))) lD (.lst [])) lD = some (.lst []) := upd_same
  generalize upd (upd (upd (upd H lo (.lst [.int (st : Int)])) ld (.dK [])) ld (.dK (mergeK [] [(Sum.inl (st : Int), V.int 0)]))) lD (.lst []) = H1 at u0 e1 e2 e3 ⊢
  show WB _ _ _ [some v1, some (.int (st : Int)), some v3, some (.ref lo), some (.ref ld), some (.ref lD), none, none, none, none] H1
  have g0 : goodO R.length [st] := ⟨by simp, fun k hk => by rw [List.mem_singleton.mp hk]; exact hs⟩
  refine wb_cons ⟨_, ps_while PassesOwn.never pt_w pss_w, ?_⟩
  refine ⟨fun k σ' H' => ∃ (o : List Nat) (i : Nat) (a6 a7 a8 a9 : Option V) (B' : Hp) (dv : List V), σ' = [some v1, some (.int (st : Int)), some v3, some (.ref lo), some (.ref ld), some (.ref lD), a6, a7, a8, a9] ∧ k = R.length - i ∧ goodO R.length o ∧ i ≤ o.length ∧ bfs R (R.length - i) o i = walkO R st ∧ H' lo = some (.lst (iv o)) ∧ H' ld = some (.dK (kvF 0 o)) ∧ H' lD = some (.lst dv) ∧ Up B H B' H' ∧ B' lo = none ∧ B' ld = none ∧ B' lD = none ∧ Ds K B' dv ((o.take i).map (renum R (walkO R st))),
    ⟨R.length, [st], 0, none, none, none, none, B, [], rfl, rfl, g0, Nat.zero_le _, rfl, e1, e2, e3, u0, hBo, hBd, hBD, .nil⟩, ?_⟩
  rintro k σ' H' ⟨o, i, a6, a7, a8, a9, B', dv, rfl, rfl, hg, hi, hW, e1, e2, e3, u0, b1, b2, b3, dds⟩
  have hlen := goodO_len hg
  have lo_len : ((o.take i).map (renum R (walkO R st))).length = i := by rw [List.length_map, List.length_take]; omega
  refine (et_cmp op_lt rr_lt (ee_len BL (ee_var (i := 5) rfl (.new_lst e3 (Ds.le u0.s dds))) rfl fun x z => by cases z) (ee_len BL (ee_var (i := 3) rfl (.new_lst e1 (ds_iv o))) rfl fun x z => by cases z)) H' (Le.refl _) _ fun H2 l2 => ?_
  have e1 := l2.keep lo _ e1 (fun _ z => by cases z)
  have e2 := l2.keep ld _ e2 (fun _ z => by cases z)
  have e3 := l2.keep lD _ e3 (fun _ z => by cases z)
  have u0 := u0.tab l2
  clear l2
  have eL : (idD o).length = o.length := List.length_map _
  rw [eL, lo_len]
  by_cases hlt : i < o.length
  · rw [decide_eq_true (show (i : Int) < (o.length : Int) by omega)]
    refine (if_pos rfl).mpr ?_
    have hk : o[i]? = some o[i] := List.getElem?_eq_getElem hlt
    have hkR : o[i] < R.length := hg.2 _ (List.getElem_mem hlt)
    have hRk : R[o[i]]? = some R[o[i]] := List.getElem?_eq_getElem hkR
    obtain ⟨ra, rb⟩ := hR _ (List.getElem_mem hkR)
    obtain ⟨fu, hfu⟩ : ∃ fu, R.length - i = fu + 1 := ⟨R.length - i - 1, by omega⟩
    have hfu2 : R.length - (i + 1) = fu := by omega
    rw [hfu, bfs_step hk hRk] at hW
    have hat := at_nd hkR
    generalize hrE : R[o[i]] = r at ra rb hRk hW hat
    refine ⟨fun σ2 H5 => ∃ (o' : List Nat) (a6 a7 a8 a9 : Option V) (B' : Hp) (dv : List V), σ2 = [some v1, some (.int (st : Int)), some v3, some (.ref lo), some (.ref ld), some (.ref lD), a6, a7, a8, a9] ∧ goodO R.length o' ∧ i + 1 ≤ o'.length ∧ bfs R fu o' (i + 1) = walkO R st ∧ H5 lo = some (.lst (iv o')) ∧ H5 ld = some (.dK (kvF 0 o')) ∧ H5 lD = some (.lst dv) ∧ Up B H B' H5 ∧ B' lo = none ∧ B' ld = none ∧ B' lD = none ∧ Ds K B' dv ((o'.take (i + 1)).map (renum R (walkO R st))),
      fun σ2 H5 ⟨o', a6, a7, a8, a9, B', dv, z1, z2, z3, z4, z⟩ => ⟨R.length - (i + 1), by omega, o', i + 1, a6, a7, a8, a9, B', dv, z1, rfl, z2, z3, by rw [hfu2]; exact z4, z⟩, ?_⟩
    refine wb_cons (ws_tgtW (B := B') (d := ndD r) (es := [r.1, .int (r.2.1 : Int), .int (r.2.2 : Int)]) (tjs := [6, 7, 8]) (pat := patT 3) (fun Q q => ix_two (B := B') (Hf := H2) hat (ee_var (i := 2) rfl (Dt.le u0.b h3)) (ee_ix ix_list (rr_ixL (at_id hk)) (ee_var (i := 3) rfl (.new_lst e1 (ds_iv o))) (ee_len BL (ee_var (i := 5) rfl (.new_lst e3 (Ds.le u0.s dds))) (congrArg some lo_len) fun x z => by cases z)) u0.s (Le.refl _) q) (eg_tup rfl (st_cons (st_cons (st_cons st_nil ndB) ndB) ndB)) rfl fun vs B3 H3 u3 dvs => ?_)
    obtain ⟨y1, y2, y3, rfl, d1, d2, d3⟩ := ds3 dvs
    cases d2
    cases d3
    have c1 := up_none u3 b1 e1 (fun _ z => by cases z)
    have c2 := up_none u3 b2 e2 (fun _ z => by cases z)
    have c3 := up_none u3 b3 e3 (fun _ z => by cases z)
    have e1 := u3.h.keep lo _ e1 (fun _ z => by cases z)
    have e2 := u3.h.keep ld _ e2 (fun _ z => by cases z)
    have e3 := u3.h.keep lD _ e3 (fun _ z => by cases z)
    have u3' := u0.trans u3
    have dds3 := Ds.le u3.b dds
    show WB _ _ _ [some v1, some (.int (st : Int)), some v3, some (.ref lo), some (.ref ld), some (.ref lD), some y1, some (.int (r.2.1 : Int)), some (.int (r.2.2 : Int)), a9] H3
    refine wb_cons (ws_for (B := B3) (ds := [.int (r.2.1 : Int), .int (r.2.2 : Int)]) (tjs := [9]) (pat := patN) u3.s (ei_lst (ee_lst (ea_cons (ee_var (i := 7) rfl (.int _)) (ea_cons (ee_var (i := 8) rfl (.int _)) ea_nil)) (by show 2 ≤ sizeLine; decide))) (eg_name ndB) (fun d hd => ⟨[d], rfl⟩) PassesOwn.never rfl
      (fun j σ' B' H' => ∃ a9, σ' = [some v1, some (.int (st : Int)), some v3, some (.ref lo), some (.ref ld), some (.ref lD), some y1, some (.int (r.2.1 : Int)), some (.int (r.2.2 : Int)), a9] ∧ Le B3 B' ∧ B' lo = none ∧ B' ld = none ∧ B' lD = none ∧ goodO R.length (([r.2.1, r.2.2].take j).foldl addG o) ∧ H' lo = some (.lst (iv (([r.2.1, r.2.2].take j).foldl addG o))) ∧ H' ld = some (.dK (kvF 0 (([r.2.1, r.2.2].take j).foldl addG o))) ∧ H' lD = some (.lst dv) ∧ Up B H B' H')
      (fun B' H' u => ⟨a9, rfl, u.b, up_none u c1 e1 (fun _ z => by cases z), up_none u c2 e2 (fun _ z => by cases z), up_none u c3 e3 (fun _ z => by cases z), hg, u.h.keep lo _ e1 (fun _ z => by cases z), u.h.keep ld _ e2 (fun _ z => by cases z), u.h.keep lD _ e3 (fun _ z => by cases z), u3'.trans u⟩) (fun j d es us σ' B4 H4 B'' H'' hj hd' lb hI u4 hpat dus N hN => ?_) fun σ' B4 H4 lb ls hI => ?_)
    · obtain ⟨a9, rfl, lB4, b1, b2, b3, gj, f1, f2, f3, uj⟩ := hI
      cases hpat
      obtain ⟨y, rfl, hy⟩ := ds1 (K := K) dus
      obtain ⟨g, rfl, hgn, hadd⟩ : ∃ g : Nat, d = .int (g : Int) ∧ g < R.length ∧ ([r.2.1, r.2.2].take (j + 1)).foldl addG o = addG (([r.2.1, r.2.2].take j).foldl addG o) g := by
        match j, hd' with
        | 0, hd' => cases hd'; exact ⟨r.2.1, rfl, ra, rfl⟩
        | 1, hd' => cases hd'; exact ⟨r.2.2, rfl, rb, rfl⟩
      cases hy
      have c1 := up_none u4 b1 f1 (fun _ z => by cases z)
      have c2 := up_none u4 b2 f2 (fun _ z => by cases z)
      have c3 := up_none u4 b3 f3 (fun _ z => by cases z)
      have f1 := u4.h.keep lo _ f1 (fun _ z => by cases z)
      have f2 := u4.h.keep ld _ f2 (fun _ z => by cases z)
      have f3 := u4.h.keep lD _ f3 (fun _ z => by cases z)
      have uj := uj.trans u4
      have lB'' := lB4.trans u4.b
      have gl := goodO_len gj
      generalize hoE : ([r.2.1, r.2.2].take j).foldl addG o = oj at gj f1 f2 hadd gl
      show WB _ _ _ [some v1, some (.int (st : Int)), some v3, some (.ref lo), some (.ref ld), some (.ref lD), some y1, some (.int (r.2.1 : Int)), some (.int (r.2.2 : Int)), some (.int (g : Int))] H''
      refine wb_one ⟨_, ps_if (pt_cmp (pc_dnotin hu1 (pe_var (i := 9) rfl (by first | exact Or.inl rfl | exact Or.inr (Or.inl rfl) | exact Or.inr (Or.inr rfl))) (pe_var (i := 4) rfl (by first | exact Or.inl rfl | exact Or.inr (Or.inl rfl) | exact Or.inr (Or.inr rfl))))) (pss_cons (ps_dput hu1 (pe_var (i := 4) rfl (by first | exact Or.inl rfl | exact Or.inr (Or.inl rfl) | exact Or.inr (Or.inr rfl))) (pe_var (i := 9) rfl (by first | exact Or.inl rfl | exact Or.inr (Or.inl rfl) | exact Or.inr (Or.inr rfl))) pe_w rfl) (pss_one (ps_expr (pe_bm PySem.F.plainAttrs_list PySem.F.slot_list_append PySem.F.type_list_append mt_append (pe_var (i := 3) rfl (by first | exact Or.inl rfl | exact Or.inr (Or.inl rfl) | exact Or.inr (Or.inr rfl))) (pa_cons (pe_var (i := 9) rfl (by first | exact Or.inl rfl | exact Or.inr (Or.inl rfl) | exact Or.inr (Or.inr rfl))) pa_nil))))) pss_nil, ?_⟩
      refine ⟨_, rfl, _, rfl, ld, _, rfl, DGet.k (k := Sum.inl (g : Int)) f2, _, rfl, ?_⟩
      rw [kvF_val]
      by_cases hm : g ∈ oj
      · rw [if_pos hm]
        refine hN _ B'' H'' (Le.refl _) u4.s ⟨some (.int (g : Int)), rfl, lB'', c1, c2, c3, ?_⟩
        rw [hadd, show addG oj g = oj from if_pos hm]
        exact ⟨gj, f1, f2, f3, uj⟩
      · rw [if_neg hm]
        refine (ee_len BL (ee_var (i := 3) rfl (.new_lst f1 (ds_iv oj))) rfl fun x z => by cases z) H'' (Le.refl _) _ fun x B6 H6 u6 dx => ?_
        cases dx
        have f1 := u6.h.keep lo _ f1 (fun _ z => by cases z)
        have f2 := u6.h.keep ld _ f2 (fun _ z => by cases z)
        have f3 := u6.h.keep lD _ f3 (fun _ z => by cases z)
        refine ⟨_, rfl, _, rfl, ld, _, rfl, DPut.k (k := Sum.inl (g : Int)) f2 (by rw [kvF_len]; exact Nat.lt_of_le_of_lt (show oj.length ≤ 1000 by omega) (by decide)), ?_⟩
        have g1 : (upd H6 ld (.dK (putK (kvF 0 oj) (Sum.inl (g : Int)) (.int ((idD oj).length : Int))))) lo = some (.lst (iv oj)) := by rw [upd_ne (fun z => hne z.symm)]; exact f1
        refine ⟨_, rfl, .inl ⟨rfl, _, SqL.of g1⟩, _, rfl, lo, iv oj, .int (g : Int), rfl, rfl, g1, by rw [iv, List.length_map]; exact Nat.lt_of_le_of_lt (show oj.length ≤ 1000 by omega) (by decide), ?_⟩
        have uk := up_mut (up_mut (uj.tab u6.h) hld0 c2 (o := .dK (putK (kvF 0 oj) (Sum.inl (g : Int)) (.int ((idD oj).length : Int))))) hlo c1 (o := .lst (iv oj ++ [.int (g : Int)]))
        refine hN _ B'' _ (Le.refl _) uk.s ⟨some (.int (g : Int)), rfl, lB'', c1, c2, c3, ?_⟩
        rw [hadd]
        refine ⟨goodO_add gj hgn, ?_, ?_, ?_, uk⟩
        · rw [show addG oj g = oj ++ [g] from if_neg hm, iv_app]
          exact upd_same
        · rw [show addG oj g = oj ++ [g] from if_neg hm, upd_ne hne]
          rw [← kvF_put hm, idD, List.length_map]
          exact upd_same
        · rw [upd_ne hneO, upd_ne hneD]
          exact f3
    · obtain ⟨a9, rfl, lB4, b1, b2, b3, gj, f1, f2, f3, uj⟩ := hI
      have ej : ([r.2.1, r.2.2].take ([PyData.int (r.2.1 : Int), .int (r.2.2 : Int)] : List PyData).length).foldl addG o = addG (addG o r.2.1) r.2.2 := rfl
      rw [ej] at gj f1 f2
      have pre : o <+: addG (addG o r.2.1) r.2.2 := addG_pre.trans addG_pre
      have hlen2 : i + 1 ≤ (addG (addG o r.2.1) r.2.2).length := Nat.le_trans hlt pre.length_le
      have m1 : r.2.1 ∈ addG (addG o r.2.1) r.2.2 := addG_pre.subset addG_mem
      have m2 : r.2.2 ∈ addG (addG o r.2.1) r.2.2 := addG_mem
      have preW : addG (addG o r.2.1) r.2.2 <+: walkO R st := by rw [← hW]; exact bfs_pre _ _ _
      have take2 : (addG (addG o r.2.1) r.2.2).take (i + 1) = o.take i ++ [o[i]] := by
        obtain ⟨tt, ht⟩ := pre
        rw [← ht, List.take_append_of_le_length (by omega), List.take_add_one, hk]
        rfl
      generalize hoE : addG (addG o r.2.1) r.2.2 = o' at gj f1 f2 hlen2 m1 m2 preW take2 hW
      have rn : renum R (walkO R st) o[i] = .tuple [r.1, .int (o'.idxOf r.2.1 : Nat), .int (o'.idxOf r.2.2 : Nat)] := by
        unfold renum
        rw [hRk]
        show PyData.tuple [r.1, .int ((walkO R st).idxOf r.2.1 : Nat), .int ((walkO R st).idxOf r.2.2 : Nat)] = _
        rw [idx_pre preW m1, idx_pre preW m2]
      refine wb_one ⟨_, ps_expr (pe_bm PySem.F.plainAttrs_list PySem.F.slot_list_append PySem.F.type_list_append mt_append (pe_var (i := 5) rfl (by first | exact Or.inl rfl | exact Or.inr (Or.inl rfl) | exact Or.inr (Or.inr rfl))) (pa_cons (pe_tup (pa_cons (pe_var (i := 6) rfl (by first | exact Or.inl rfl | exact Or.inr (Or.inl rfl) | exact Or.inr (Or.inr rfl))) (pa_cons pe_w (pa_cons pe_w pa_nil)))) pa_nil)), ?_⟩
      refine ⟨_, rfl, .inl ⟨rfl, _, SqL.of f3⟩, _, rfl, ?_⟩
      refine (ee_dget (i := 4) (n := (r.2.1 : Int)) (d := .int (o'.idxOf r.2.1 : Nat)) (v := .int (o'.idxOf r.2.1 : Nat)) hu1 rfl f2 (ee_var (i := 7) rfl (.int _)) (by rw [kvF_val, if_pos m1, Nat.zero_add]) fun H => .int _) H4 (Le.refl _) _ fun x1 B5 H5 u5 dx1 => ?_
      cases dx1
      have f1 := u5.h.keep lo _ f1 (fun _ z => by cases z)
      have f2 := u5.h.keep ld _ f2 (fun _ z => by cases z)
      have f3 := u5.h.keep lD _ f3 (fun _ z => by cases z)
      have uj := uj.tab u5.h
      refine (ee_dget (i := 4) (n := (r.2.2 : Int)) (d := .int (o'.idxOf r.2.2 : Nat)) (v := .int (o'.idxOf r.2.2 : Nat)) hu1 rfl f2 (ee_var (i := 8) rfl (.int _)) (by rw [kvF_val, if_pos m2, Nat.zero_add]) fun H => .int _) H5 (Le.refl _) _ fun x2 B6 H6 u6 dx2 => ?_
      cases dx2
      have f1 := u6.h.keep lo _ f1 (fun _ z => by cases z)
      have f2 := u6.h.keep ld _ f2 (fun _ z => by cases z)
      have f3 := u6.h.keep lD _ f3 (fun _ z => by cases z)
      have uj := uj.tab u6.h
      refine ⟨by show 3 ≤ sizeLine; decide, fun p hp => ?_⟩
      have nf : ∀ {b : Addr} {o : HO}, H6 b = some o → b ≠ p := fun e z => by rw [z, hp] at e; cases e
      have g3 : (upd H6 p (.tup [y1, .int (o'.idxOf r.2.1 : Nat), .int (o'.idxOf r.2.2 : Nat)])) lD = some (.lst dv) := by rw [upd_ne (nf f3)]; exact f3
      have dlen := dds3.length
      rw [lo_len] at dlen
      refine ⟨lD, dv, .ref p, rfl, rfl, g3, Nat.lt_of_le_of_lt (show dv.length ≤ 1000 by omega) (by decide), ?_⟩
      have hB4p : B4 p = none := uj.s.there p hp
      have uq := uj.new (o := .tup [y1, .int (o'.idxOf r.2.1 : Nat), .int (o'.idxOf r.2.2 : Nat)]) hp (fun _ z => by cases z)
      have ur := up_mut uq hlD0 (by rw [upd_ne (nf f3)]; exact b3) (o := .lst (dv ++ [.ref p]))
      refine ⟨o', _, _, _, _, upd B4 p (.tup [y1, .int (o'.idxOf r.2.1 : Nat), .int (o'.idxOf r.2.2 : Nat)]), dv ++ [.ref p], rfl, gj, hlen2, hW, ?_, ?_, upd_same, ur, by rw [upd_ne (nf f1)]; exact b1, by rw [upd_ne (nf f2)]; exact b2, by rw [upd_ne (nf f3)]; exact b3, ?_⟩
      · rw [upd_ne (fun z => hneO z.symm), upd_ne (nf f1)]; exact f1
      · rw [upd_ne (fun z => hneD z.symm), upd_ne (nf f2)]; exact f2
      · rw [take2, List.map_append, List.map_singleton, rn]
        refine (Ds.le (lB4.trans (Le.new hB4p)) dds3).snoc (.new_tup upd_same (.cons (Dt.le (lB4.trans (Le.new hB4p)) d1) (.cons (.int _) (.cons (.int _) .nil))))
  · rw [decide_eq_false (show ¬ (i : Int) < (o.length : Int) by omega)]
    refine (if_neg (by decide)).mpr ?_
    have hio : i = o.length := by omega
    subst hio
    rw [bfs_end] at hW
    rw [List.take_length, ← hW] at dds
    have ub : Up B H (upd B' lD (.lst dv)) H2 := ⟨u0.h, u0.b.trans (Le.new b3), u0.s.add e3 (fun _ z => by cases z), fun a ha => by
      by_cases z : a = lD
      · rw [z]; exact .inr (.inl hlD0)
      · rw [upd_ne z] at ha; exact u0.n a ha⟩
    have dd2 := Ds.le (Le.new (o := .lst dv) b3) dds
    refine wb_one (ws_ret (B := upd B' lD (.lst dv)) (d := .tuple [.str "wood", sc, .tuple (o.map (renum R o))]) ub.s (ee_tup (ea_cons ee_str (ea_cons (ee_var (i := 0) rfl (Dt.le ub.b h1)) (ea_cons (ee_tuple BL (ee_var (i := 5) rfl (.new_lst upd_same dd2))) ea_nil))) (by show 3 ≤ sizeLine; decide)) fun v B6 H6 u6 d6 => q v B6 H6 (ub.trans u6) ?_)
    show Dt K B6 v (.tuple [.str "wood", sc, .tuple (walkL ((R.map ndD).map ndOf) ((st : Int)).toNat)])
    rw [ndOf_map]
    have e9 : walkL R ((st : Int)).toNat = o.map (renum R o) := by
      show walkL R st = _
      unfold walkL
      rw [← hW]
    rw [e9]
    exact d6
end
end K0


set_option Elab.async false
set_option linter.all false
set_option maxRecDepth 100000
set_option maxHeartbeats 4000000
/-! Q4: check_wood, check_place, node_at, within. -/
namespace K0
open PySem PySem.Spec PyProof.Rows L2 GxR Tk
variable [LamTab]
abbrev sCkW : Stmt := t_check_wood
abbrev sCkP : Stmt := t_check_place
abbrev sWithin : Stmt := t_within
theorem bno {b : Bool} (h : (!b) = true) : b = false := by cases b; rfl; cases h
theorem bys {b : Bool} (h : (!b) = false) : b = true := by cases b; cases h; rfl
def placeB (d : PyData) : Bool := isTup d && match d with
  | .tuple xs => xs.all fun x => numB x 2
  | _ => false
/-- a def that may raise, told of its code -/
theorem fn_anyX {P : Program} {w : World} {K : PySem.W.Frag} {mg : Str → Option Value} {base : Heap} {x qual : Str} {st : Stmt} {fa : Addr} {fd : FuncData} {N ps : List Str} {lv : Nat} {sp : Sp}
    (F : L2.Fun K x qual st fa fd) (S : FnScope N ps (defScope st)) (hn : ∀ vs H Q E, sp vs H Q E → vs.length = ps.length)
    (hbody : ∀ (cdv : Value) (A : Around) (outer : List Env) (s : Shared) (H : Hp) (vs : List V) (Q : VK) (E : XK), Room lv (A.deeper (envOfC qual (defScope st) s.heap.objs.size fa cdv)) → fd.code = cdv → sp vs H Q E →
      WB (cxOf (L2.CX P w) P w K mg base N qual (defScope st) fa cdv A outer s H E) (defBody st) { nx := fun _ H' => Q .non H', rt := Q } (start N vs) H) :
    FnOk P w K mg base (L2.CX P w) (lv + 1) fa fd ps sp := by
  obtain ⟨oc, od, kV, doc, pm, an, cdv, ct, osl, rfl, lk, hcd⟩ := F.ex
  exact fn_of lk hcd S (fun vs H Q E h => hn vs H Q E h) fun A outer s H vs Q E hr h => hbody cdv A outer s H vs Q E hr rfl h
/-- a look that raises -/
def spChk (K : PySem.W.Frag) (T : List Addr) (okB : PyData → Bool) (C : Addr) : Sp := fun vs H Q E => vs.length = 1 ∧ Tbs T H ∧ ∃ B d, Le B H ∧ Ds K B vs [d] ∧ okD d = true ∧ (okB d = true → ∀ H', Le H H' → Q .non H') ∧ (okB d = false → ∀ H', Le H H' → E (.ref C) none H')
/-- of a wood and a place -/
def spTwo (K : PySem.W.Frag) (T : List Addr) (CW CP : Addr) (fF : List PyData → PyData) : Sp := fun vs H Q E => vs.length = 2 ∧ Tbs T H ∧ ∃ B d p, Le B H ∧ Ds K B vs [d, p] ∧ okD d = true ∧ okD p = true ∧
  (woodB d = false → ∀ H', Le H H' → E (.ref CW) none H') ∧ (woodB d = true → placeB p = false → ∀ H', Le H H' → E (.ref CP) none H') ∧
  (woodB d = true → placeB p = true → ∃ a sc R ps, d = .tuple [a, sc, .tuple (R.map ndD)] ∧ p = .tuple ps ∧ rowsOk R ∧ 0 < R.length ∧ R.length ≤ 1000 ∧ isPl ps ∧ ∀ v B' H', Up B H B' H' → Dt K B' v (fF [d, p]) → Q v H')
def wthF : List PyData → PyData
  | [.tuple [_, sc, .tuple rs], .tuple ps] => .tuple [.str "wood", sc, .tuple (walkL (rs.map ndOf) (comeR (rs.map ndOf) ps))]
  | _ => .none
section
variable {P : Program} {w : World} {K : PySem.W.Frag} {mg : Str → Option Value} {base : Heap} {f : Addr} {fd : FuncData} {T : List Addr} {C CW CP c Pt : Addr}
theorem scCkW : FnScope ["wood"] ["wood"] (defScope sCkW) := ⟨rfl, rfl, rfl, by decide +kernel, rfl, by decide +kernel, by decide +kernel⟩
theorem ok_ckW (Fw : Kn P w K mg base 5 "is_wood" ["thing"] (spF K T 1 nameP woodF))
    (xS : PySem.W.excIn K C [.type "ValueError", .type "Exception", .type "BaseException", .type "object"] "ValueError.__new__" = true) (gS : mg "BadWood" = some (.ref C)) (kS : PySem.W.keepIn K (.ref C) = true) (bS : PySem.W.subIn K (.ref C) (.type "BaseException") = some true) (tS : PySem.W.typeIn K (.ref C) = some (.type "type"))
    (F : L2.Fun K "check_wood" "check_wood" sCkW f fd) : FnOk P w K mg base (L2.CX P w) 6 f fd ["wood"] (spChk K T woodB C) := by
  refine F.okX scCkW (fun vs H Q E h => h.1) fun cdv A outer s H vs Q E hr hsp => ?_
  obtain ⟨hl, ht, B0, d, l0, hd0, hok, hy, hn⟩ := hsp
  obtain ⟨B, l1, l, t, up⟩ := with_tables ht l0
  have hd := Ds.le l1 hd0
  obtain ⟨v1, rfl, h1⟩ := ds1 hd
  show WB (cxOf (L2.CX P w) P w K mg base ["wood"] "check_wood" (defScope sCkW) f cdv A outer s H E) (defBody sCkW) { nx := fun _ H' => Q .non H', rt := Q } (start ["wood"] [v1]) H
  refine wb_one (ws_if (k := !woodB d) l (et_not (et_val (ee_call (f := woodF) (d := .bool (woodB d)) Fw hr (Nat.le_refl _) t (ea_cons (ee_var (i := 0) rfl h1) ea_nil) ⟨d, rfl, hok⟩))) (fun e H' l' => ?_) fun e H' l' => ?_)
  · exact wb_one ⟨_, ps_raise rfl (takes_of rfl rfl rfl rfl) (pmk_own PySem.F.excBase_ValueError (q := xS) gS kS (raises_own bS tS) rfl), hn (bno e) H' l'⟩
  · exact wb_nil (hy (bys e) H' l')
theorem scCkP : FnScope ["place"] ["place"] (defScope sCkP) := ⟨rfl, rfl, rfl, by decide +kernel, rfl, by decide +kernel, by decide +kernel⟩
theorem ok_ckP (BL : Blt mg) (Fn : Kn P w K mg base 1 "is_number" ["thing", "limit"] (spF K T 2 numP numF))
    (xS : PySem.W.excIn K C [.type "ValueError", .type "Exception", .type "BaseException", .type "object"] "ValueError.__new__" = true) (gS : mg "BadPlace" = some (.ref C)) (kS : PySem.W.keepIn K (.ref C) = true) (bS : PySem.W.subIn K (.ref C) (.type "BaseException") = some true) (tS : PySem.W.typeIn K (.ref C) = some (.type "type"))
    (F : L2.Fun K "check_place" "check_place" sCkP f fd) (hc : fd.code = .ref c) (TB : TabB base mg c Pt) (hP : Pt ∈ T) : FnOk P w K mg base (L2.CX P w) 6 f fd ["place"] (spChk K T placeB C) := by
  refine fn_anyX F scCkP (fun vs H Q E h => h.1) fun cdv A outer s H vs Q E hr hcd hsp => ?_
  have hc := hcd.symm.trans hc
  obtain ⟨hl, ht, B0, d, l0, hd0, hok, hy, hn⟩ := hsp
  obtain ⟨B, l1, l, t, up⟩ := with_tables ht l0
  have hd := Ds.le l1 hd0
  obtain ⟨v1, rfl, h1⟩ := ds1 hd
  show WB (cxOf (L2.CX P w) P w K mg base ["place"] "check_place" (defScope sCkP) f cdv A outer s H E) (defBody sCkP) { nx := fun _ H' => Q .non H', rt := Q } (start ["place"] [v1]) H
  refine wb_one (ws_if (k := !placeB d) l ?_ (fun e H' l' => ?_) fun e H' l' => ?_)
  · cases hs : isTup d with
    | false =>
      refine (et_w (ew_or (p := true) (q := true) ((et_not (et_val (ee_isTup BL (ee_var (i := 0) rfl h1)))).cast (by rw [hs]; rfl)) fun e => by cases e)).cast ?_
      unfold placeB
      rw [hs]
      rfl
    | true =>
      cases d with
      | tuple xs =>
        refine (et_w (ew_or (p := false) (q := !(xs.all fun x => numB x 2)) ((et_not (et_val (ee_isTup BL (ee_var (i := 0) rfl h1)))).cast (by rw [hs]; rfl)) fun _ => ew_one2 (et_not (et_val ?_)))).cast ?_
        · refine ee_all (k := 1) (N := ["way"]) (js := [none]) (tjs := [0]) (pat := patN) (fun x => numB x 2) (hr.mono (by decide)) BL.all TB hc (scope_by (n := s.heap.objs.size + 1) rfl (show gsB ["place"] ["way"] (defScope sCkP) _ [none] = true by decide +kernel)) hP t
            (ei_tup (ee_var (i := 0) rfl h1)) (fun code A s H0 ex hr => eg_name (show List.Nodup (["way"] : List Str) by decide +kernel)) (by decide) (fun d hd => ⟨[d], rfl, rfl⟩) fun B' d es vs lb hd he hv code A s H0 ex hr => ?_
          cases he
          obtain ⟨x, rfl, hx⟩ := ds1 (K := K) hv
          exact ee_call Fn hr (Nat.le_refl _) (t.le lb) (ea_cons (ee_var (i := 0) rfl hx) (ea_cons ee_int ea_nil)) ⟨d, 2, rfl⟩
        · show (false || !(xs.all fun x => numB x 2)) = !(true && xs.all fun x => numB x 2)
          rw [Bool.false_or, Bool.true_and]
      | _ => cases hs
  · exact wb_one ⟨_, ps_raise rfl (takes_of rfl rfl rfl rfl) (pmk_own PySem.F.excBase_ValueError (q := xS) gS kS (raises_own bS tS) rfl), hn (bno e) H' l'⟩
  · exact wb_nil (hy (bys e) H' l')
end
end K0


set_option Elab.async false
set_option linter.all false
set_option maxRecDepth 100000
set_option maxHeartbeats 4000000
/-! Q5: within; _law_place, _law_bad_place; drawn woods. -/
namespace K0
open PySem PySem.Spec PyProof.Rows L2 GxR Tk
variable [LamTab]
abbrev sLPl : Stmt := t__law_place
theorem up_back {B H H1 B2 H2 : Hp} (l : Le H H1) (u : Up B H1 B2 H2) : Up B H B2 H2 := ⟨l.trans u.h, u.b, u.s, fun x hx => by
  rcases u.n x hx with z | z | ⟨⟨qs, z⟩, nz⟩
  · exact .inl z
  · exact .inr (.inl (l.there x z))
  · rcases tbl_back l z with y | y
    · exact .inr (.inl y)
    · exact .inr (.inr ⟨y, nz⟩)⟩
section
variable {P : Program} {w : World} {K : PySem.W.Frag} {mg : Str → Option Value} {base : Heap} {f : Addr} {fd : FuncData} {T : List Addr} {C CW CP c Pt d lw lc : Addr}
theorem scWithin : FnScope ["wood", "place"] ["wood", "place"] (defScope sWithin) := ⟨rfl, rfl, rfl, by decide +kernel, rfl, by decide +kernel, by decide +kernel⟩
theorem ok_within {f1 f2 : Addr} {fd1 fd2 : FuncData} (G1 : FnOk P w K mg base (L2.CX P w) 6 f1 fd1 ["wood"] (spChk K T woodB CW)) (m1 : mg "check_wood" = some (.ref f1)) (k1 : PySem.W.keepIn K (.ref f1) = true) (b1 : Binds K fd1 ["wood"] [])
    (G2 : FnOk P w K mg base (L2.CX P w) 6 f2 fd2 ["place"] (spChk K T placeB CP)) (m2 : mg "check_place" = some (.ref f2)) (k2 : PySem.W.keepIn K (.ref f2) = true) (b2 : Binds K fd2 ["place"] [])
    (Fc : Kn P w K mg base 1 "come_to" ["rows", "place"] (spF K T 2 comeP comeF)) (Fw : Kn P w K mg base 1 "walked" ["rows", "start"] (spF K T 2 walkP walkF)) (F : L2.Fun K "within" "within" sWithin f fd) : FnOk P w K mg base (L2.CX P w) 7 f fd ["wood", "place"] (spTwo K T CW CP wthF) := by
  refine F.okX scWithin (fun vs H Q E h => h.1) fun cdv A outer s H vs Q E hr hsp => ?_
  obtain ⟨hl, ht, B, d, p, l, hd, okd, okp, hnW, hnP, hy⟩ := hsp
  obtain ⟨v1, v2, rfl, h1, h2⟩ := ds2 hd
  show WB (cxOf (L2.CX P w) P w K mg base ["wood", "place"] "within" (defScope sWithin) f cdv A outer s H E) (defBody sWithin) { nx := fun _ H' => Q .non H', rt := Q } (start ["wood", "place"] [v1, v2]) H
  refine wb_cons ⟨_, ps_expr (pe_call (CX := L2.CX P w) (E := E) G1 hr rfl m1 k1 b1 .nil (passes_call (takes_of rfl rfl rfl rfl) fun _ _ _ _ h => h) (pa_cons (pe_var (i := 0) rfl (by first | exact Or.inl rfl | exact Or.inr (Or.inl rfl) | exact Or.inr (Or.inr rfl))) pa_nil) (by decide) rfl rfl), _, rfl, ?_⟩
  refine ⟨rfl, ht, B, d, l, .cons h1 .nil, okd, fun eW H2 l2 => ?_, hnW⟩
  refine wb_cons ⟨_, ps_expr (pe_call (CX := L2.CX P w) (E := E) G2 hr rfl m2 k2 b2 .nil (passes_call (takes_of rfl rfl rfl rfl) fun _ _ _ _ h => h) (pa_cons (pe_var (i := 1) rfl (by first | exact Or.inl rfl | exact Or.inr (Or.inl rfl) | exact Or.inr (Or.inr rfl))) pa_nil) (by decide) rfl rfl), _, rfl, ?_⟩
  refine ⟨rfl, ht.le l2, B, p, l.trans l2, .cons h2 .nil, okp, fun eP H3 l3 => ?_, fun eP H3 l3 => hnP eW eP H3 (l2.trans l3)⟩
  obtain ⟨a, sc, R, ps, rfl, rfl, hR, h0, hn, hp, hq⟩ := hy eW eP
  obtain ⟨B4, l4, l5, t4, up⟩ := with_tables (ht.le (l2.trans l3)) ((l.trans l2).trans l3)
  have hlt : comeR R ps < R.length := comeR_lt hR ps 0 h0
  have rows : ∀ {X : Cx} , True := fun {X} => trivial
  refine wb_one (ws_ret (B := B4) (d := .tuple [.str "wood", sc, .tuple (walkL R (comeR R ps))]) l5 (ee_tup (ea_cons ee_str (ea_cons (ee_ix ix_tup (rr_ixT (d := sc) (atI_nat (j := 1) rfl)) (ee_var (i := 0) rfl (Dt.le l4 h1)) ee_int) (ea_cons
    (ee_call (f := walkF) (ds := [.tuple (R.map ndD), .int (comeR R ps : Nat)]) (d := .tuple (walkL R (comeR R ps))) Fw hr (by decide) t4 (ea_cons (ee_ix ix_tup (rr_ixT (d := .tuple (R.map ndD)) (atI_nat (j := 2) rfl)) (ee_var (i := 0) rfl (Dt.le l4 h1)) ee_int)
      (ea_cons (ee_call (f := comeF) (ds := [.tuple (R.map ndD), .tuple ps]) (d := .int (comeR R ps : Nat)) Fc hr (by decide) t4 (ea_cons (ee_ix ix_tup (rr_ixT (d := .tuple (R.map ndD)) (atI_nat (j := 2) rfl)) (ee_var (i := 0) rfl (Dt.le l4 h1)) ee_int) (ea_cons (ee_var (i := 1) rfl (Dt.le l4 h2)) ea_nil)) ⟨R, ps, rfl, hR, h0, hp⟩ ?_) ea_nil)) ⟨R, comeR R ps, rfl, hR, hlt, hn⟩ ?_) ea_nil))) (by show 3 ≤ sizeLine; decide)) fun v B5 H5 u5 d5 => hq v B5 H5 (up_back (l2.trans l3) (up u5)) ?_)
  · show PyData.int (comeR ((R.map ndD).map ndOf) ps : Nat) = _
    rw [ndOf_map]
  · show PyData.tuple (walkL ((R.map ndD).map ndOf) ((comeR R ps : Nat) : Int).toNat) = _
    rw [ndOf_map]
    rfl
  · show Dt K B5 v (.tuple [.str "wood", sc, .tuple (walkL ((R.map ndD).map ndOf) (comeR ((R.map ndD).map ndOf) ps))])
    rw [ndOf_map]
    exact d5
/-! drawn places -/
theorem scLPl : FnScope ["draw", "most", "k"] ["draw", "most"] (defScope sLPl) := ⟨rfl, rfl, rfl, by decide +kernel, rfl, by decide +kernel, by decide +kernel⟩
theorem ndLPl : List.Nodup (["draw", "most", "k"] : List Str) := by decide +kernel
def plP (ds : List PyData) : Prop := ds = [.int 9]
def plR (ds : List PyData) (r : PyData) : Prop := ∃ ps, r = .tuple ps ∧ ps.length ≤ 40 ∧ ∀ p ∈ ps, p = .int 0 ∨ p = .int 1
end
end K0


set_option Elab.async false
set_option linter.all false
set_option maxRecDepth 100000
set_option maxHeartbeats 2000000
/-! Nk2: what is asked of dicts keyed by nested tuples, as data. -/
namespace Tk
open PySem PySem.Spec PyProof.Rows L2 GxR Gx
variable [LamTab]
theorem DN.le {P : Program} {w : World} {K : PySem.W.Frag} {H H' : Hp} {a : Addr} {xs : List NEnt} (l : Le H H') (d : DN P w K H a xs) : DN P w K H' a xs :=
  ⟨l.keep a _ d.at_ (fun ps z => by unfold dnO at z; cases z), fun x hx => by
    obtain ⟨e, h1, h2, h3⟩ := d.keys x hx
    exact ⟨e, Dt.le l h1, h2, h3⟩, d.nd, d.sz, d.lo⟩
theorem dnO_tbl {P : Program} {w : World} {a : Addr} {xs : List NEnt} (ps : Array Value) : dnO P w a xs ≠ .tbl ps := fun z => by unfold dnO at z; cases z
/-- numbers of keys, in the order in which they were met; the keys lean on B -/
structure ND (P : Program) (w : World) (K : PySem.W.Frag) (B H : Hp) (a : Addr) (xs : List NEnt) (D : List NestedKey) : Prop where
  at_ : H a = some (dnO P w a xs)
  keys : ∀ x ∈ xs, ∃ d, Dt K B (.ref x.2.1) d ∧ isKey d ∧ x.1 = nkD d
  nd : D.Nodup
  sz : xs.length ≤ sizeLine
  lo : (a == sysModules) = false
  ks : xs.map (·.1) = D
  vs : ∀ (j : Nat) (x : NEnt), xs[j]? = some x → ∃ t : Tok, x.2.2 = Value.int (j : Int) t
theorem ND.dn {P : Program} {w : World} {K : PySem.W.Frag} {B H : Hp} {a : Addr} {xs : List NEnt} {D : List NestedKey} (d : ND P w K B H a xs D) (l : Le B H) : DN P w K H a xs :=
  ⟨d.at_, fun x hx => by
    obtain ⟨e, h1, h2, h3⟩ := d.keys x hx
    exact ⟨e, Dt.le l h1, h2, h3⟩, by rw [d.ks]; exact d.nd, d.sz, d.lo⟩
theorem ND.le {P : Program} {w : World} {K : PySem.W.Frag} {B B' H H' : Hp} {a : Addr} {xs : List NEnt} {D : List NestedKey} (lB : Le B B') (l : Le H H') (d : ND P w K B H a xs D) : ND P w K B' H' a xs D := ⟨l.keep a _ d.at_ (fun ps z => by unfold dnO at z; cases z), fun x hx => by
    obtain ⟨e, h1, h2, h3⟩ := d.keys x hx
    exact ⟨e, Dt.le lB h1, h2, h3⟩, d.nd, d.sz, d.lo, d.ks, d.vs⟩
theorem ND.len {P : Program} {w : World} {K : PySem.W.Frag} {B H : Hp} {a : Addr} {xs : List NEnt} {D : List NestedKey} (d : ND P w K B H a xs D) : xs.length = D.length := by rw [← d.ks, List.length_map]
theorem atKey_at {k : NestedKey} : ∀ {xs : List NEnt}, k ∈ xs.map (·.1) → ∃ x, xs[(xs.map (·.1)).idxOf k]? = some x ∧ atKey xs k = some x.2
  | [], h => nomatch h
  | x :: xs, h => by
    rw [List.map_cons]
    by_cases z : x.1 = k
    · have e : atKey (x :: xs) k = some x.2 := by
        unfold atKey
        rw [List.find?_cons_of_pos (by simpa using z)]
        rfl
      refine ⟨x, ?_, e⟩
      rw [z, List.idxOf_cons_self]
      rfl
    · have e : atKey (x :: xs) k = atKey xs k := by
        unfold atKey
        rw [List.find?_cons_of_neg (by simpa using z)]
      rw [List.map_cons, List.mem_cons] at h
      obtain ⟨y, h1, h2⟩ := atKey_at (xs := xs) (h.resolve_left fun e => z e.symm)
      refine ⟨y, ?_, by rw [e]; exact h2⟩
      rw [(by rw [List.idxOf_cons, beq_eq_false_iff_ne.mpr z]; rfl : List.idxOf k (x.1 :: xs.map (·.1)) = (xs.map (·.1)).idxOf k + 1), List.getElem?_cons_succ]
      exact h1
theorem ND.get {P : Program} {w : World} {K : PySem.W.Frag} {B H : Hp} {a : Addr} {xs : List NEnt} {D : List NestedKey} (d : ND P w K B H a xs D) {k : NestedKey} (h : k ∈ D) : ∃ (p : Addr × Value) (t : Tok), atKey xs k = some p ∧ p.2 = Value.int ((D.idxOf k : Nat) : Int) t := by
  have hk := d.ks
  rw [← hk] at h
  obtain ⟨x, h1, h2⟩ := atKey_at h
  rw [hk] at h1
  obtain ⟨t, e⟩ := d.vs _ x h1
  exact ⟨x.2, t, h2, e⟩
theorem ND.no {P : Program} {w : World} {K : PySem.W.Frag} {B H : Hp} {a : Addr} {xs : List NEnt} {D : List NestedKey} (d : ND P w K B H a xs D) {k : NestedKey} : atKey xs k = none ↔ k ∉ D := by
  rw [← nk_none, d.ks]
theorem ND.new {P : Program} {w : World} {K : PySem.W.Frag} {B H : Hp} {a : Addr} (lo : (a == sysModules) = false) : ND P w K B (upd H a (dnO P w a [])) a [] [] :=
  ⟨upd_same, (fun x hx => nomatch hx), List.nodup_nil, Nat.zero_le _, lo, rfl, fun j x h => by simp at h⟩
theorem ND.put {P : Program} {w : World} {K : PySem.W.Frag} {B H : Hp} {a b : Addr} {xs : List NEnt} {D : List NestedKey} {d : PyData} {u : Value} {t : Tok} (n : ND P w K B H a xs D) (hd : Dt K B (.ref b) d) (hk : isKey d) (hn : nkD d ∉ D) (hu : u = .int (xs.length : Int) t) (hz : xs.length < sizeLine) :
    ND P w K B (upd H a (dnO P w a (xs ++ [(nkD d, b, u)]))) a (xs ++ [(nkD d, b, u)]) (D ++ [nkD d]) := by
  have e : (xs ++ [(nkD d, b, u)]).map (·.1) = D ++ [nkD d] := by rw [List.map_append, n.ks]; rfl
  refine ⟨upd_same, fun x hx => ?_, ?_, by rw [List.length_append, List.length_singleton]; omega, n.lo, e, fun j x hx => ?_⟩
  · rcases List.mem_append.mp hx with z | z
    · exact n.keys x z
    · rw [List.mem_singleton.mp z]
      exact ⟨d, hd, hk, rfl⟩
  · refine List.nodup_append.mpr ⟨n.nd, by simp, fun x hx y hy z => ?_⟩
    rw [List.mem_singleton.mp hy] at z
    exact hn (by rw [← z]; exact hx)
  · by_cases z : j < xs.length
    · rw [List.getElem?_append_left z] at hx
      exact n.vs j x hx
    · have hj := (List.getElem?_eq_some_iff.mp hx).1
      rw [List.length_append, List.length_singleton] at hj
      have ej : j = xs.length := by omega
      subst ej
      rw [List.getElem?_append_right (Nat.le_refl _), Nat.sub_self] at hx
      cases Option.some.inj hx
      exact ⟨t, hu⟩
section
variable {X : Cx} {σ : L2.St} {B : Hp}
/-- len(d) -/
theorem ee_lenN {i : Nat} {x : Str} {a : Addr} {xs : List NEnt} {p p2 pos : Pos} (hm : X.mg "len" = none) (hσ : σ[i]? = some (some (.ref a))) (D : DN X.prog X.w X.K B a xs) (hg : Gl X "len" := by rfl) (hN : X.N[i]? = some x := by rfl)
    (hv : Vis X.env.scope x := by first | exact Or.inl rfl | exact Or.inr (Or.inl rfl) | exact Or.inr (Or.inr rfl)) (h1 : (x == ("__debug__" : Str)) = false := by decide) (h2 : (x == ("__classdict__" : Str)) = false := by decide)
    (he : starEach [.Name x p2] X.env = (false, eval (.Name x p2) X.env) :: starEach [] X.env := by rfl) : EE X (.Call (.Name "len" p) [.Name x p2] [] pos) σ B (.int ((xs.length : Nat) : Int)) := fun H1 l Q q =>
  ⟨_, pe_callB c_lenN hg hm boot_len' (pa_cons (pe_var hN hv h1 h2) pa_nil he) (by decide) (by decide) he rfl, _, hσ, a, xs, rfl, D.le l, q _ B H1 (Up.refl l) (.int _)⟩
/-- d[t] -/
theorem ee_nget {i j : Nat} {x y : Str} {a b : Addr} {xs : List NEnt} {D : List NestedKey} {d : PyData} {p p2 pos : Pos} (hu : X.A.units + 10 < cLine) (hσ : σ[i]? = some (some (.ref a))) (hσ2 : σ[j]? = some (some (.ref b))) (N : ND X.prog X.w X.K B B a xs D) (hd : Dt X.K B (.ref b) d) (hk : isKey d) (hm : nkD d ∈ D)
    (hN : X.N[i]? = some x := by rfl) (hv : Vis X.env.scope x := by first | exact Or.inl rfl | exact Or.inr (Or.inl rfl) | exact Or.inr (Or.inr rfl)) (hN2 : X.N[j]? = some y := by rfl) (hv2 : Vis X.env.scope y := by first | exact Or.inl rfl | exact Or.inr (Or.inl rfl) | exact Or.inr (Or.inr rfl))
    (h1 : (x == ("__debug__" : Str)) = false := by decide) (h2 : (x == ("__classdict__" : Str)) = false := by decide) (h3 : (y == ("__debug__" : Str)) = false := by decide) (h4 : (y == ("__classdict__" : Str)) = false := by decide) : EE X (.Subscript (.Name x p) (.Name y p2) pos) σ B (.int ((D.idxOf (nkD d) : Nat) : Int)) := fun H1 l Q q => by
  obtain ⟨pr, t, e1, e2⟩ := N.get hm
  exact ⟨_, pe_nget hu (pe_var hN hv h1 h2) (pe_var hN2 hv2 h3 h4) (by intro _ _; rfl), _, hσ, _, hσ2, a, b, xs, d, pr, .int ((D.idxOf (nkD d) : Nat) : Int), rfl, rfl, Dt.le l hd, hk, (N.dn (Le.refl _)).le l, e1, ⟨t, e2⟩, q _ B H1 (Up.refl l) (.int _)⟩
end
end Tk
namespace K0
open PySem PySem.Spec PyProof.Rows L2 GxR Tk
variable [LamTab]
theorem rep_iv : ∀ n : Nat, (List.replicate n [V.int 0]).flatten = iv (List.replicate n 0)
  | 0 => rfl
  | n + 1 => by
    rw [List.replicate_succ, List.flatten_cons, rep_iv n, List.replicate_succ]
    rfl
/-- [0] * n -/
theorem ee_rep0 {X : Cx} {b : Expr} {σ : L2.St} {B : Hp} {n j : Nat} {p1 p2 pos : Pos} (hb : EE X b σ B (.int (n : Int))) (hn : n ≤ 1000) : EE X (.BinOp (.List [.Constant (.int 0) j p1] p2) .Mult b pos) σ B (.list (idD (List.replicate n 0))) := fun H1 l Q q => by
  refine ⟨_, pe_op op_rep (pe_lst (pa_cons pe_int pa_nil)) pe_w, ?_⟩
  refine ⟨by show 1 ≤ sizeLine; decide, fun lo hlo => hb _ (l.trans (Le.new hlo)) _ fun y B2 H2 u2 dy => ?_⟩
  cases dy
  refine ⟨lo, n, [.int 0], rfl, rfl, u2.h.keep lo _ upd_same (fun _ z => by cases z), by omega, by omega, ?_, fun p hp => ?_⟩
  · show 1 * ((n : Int)).toNat ≤ sizeLine
    rw [Int.toNat_natCast, Nat.one_mul]
    exact Nat.le_trans hn (by decide)
  · rw [Int.toNat_natCast, rep_iv]
    exact q _ _ _ ((up_back (Le.new hlo) u2).new hp fun ps z => by cases z) (.new_lst upd_same (Ds.le (Le.new (u2.s.there p hp)) (ds_iv _)))
end K0


set_option Elab.async false
set_option linter.all false
set_option maxRecDepth 100000
set_option maxHeartbeats 1000000
/-! R0: two woods walked at once: the pairs of nodes that stand at one place, in the order of their first places. -/
namespace K0
open PySem PySem.Spec PyProof.Rows L2 GxR Tk
abbrev Pr : Type := Nat × Nat
/-- a pair, the number of the pair from which it was met and the way, its first place -/
abbrev Mt : Type := Pr × Pr × List Nat
def pgo (R S : List Nd) (w : Nat) (p : Pr) : Pr := match R[p.1]?, S[p.2]? with
  | some r, some s => if w = 0 then (r.2.1, s.2.1) else (r.2.2, s.2.2)
  | _, _ => p
def addM (L : List Mt) (x : Mt) : List Mt := if x.1 ∈ L.map (·.1) then L else L ++ [x]
def stepM (R S : List Nd) (L : List Mt) (i : Nat) : List Mt := match L[i]? with
  | some y => addM (addM L (pgo R S 0 y.1, (i, 0), y.2.2 ++ [0])) (pgo R S 1 y.1, (i, 1), y.2.2 ++ [1])
  | none => L
def rootM : Mt := ((0, 0), (0, 0), [])
def metN (R S : List Nd) : Nat → List Mt
  | 0 => [rootM]
  | n + 1 => stepM R S (metN R S n) n
def plt (a b : Pr) : Prop := a.1 < b.1 ∨ (a.1 = b.1 ∧ a.2 < b.2)
theorem plt_trans {a b c : Pr} (h1 : plt a b) (h2 : plt b c) : plt a c := by
  unfold plt at *
  omega
structure MInv (R S : List Nd) (b : Pr) (L : List Mt) : Prop where
  nd : (L.map (·.1)).Nodup
  rg : ∀ x ∈ L, x.1.1 < R.length ∧ x.1.2 < S.length
  h0 : L[0]? = some rootM
  og : ∀ j x, L[j]? = some x → 0 < j → x.2.1.1 < j ∧ x.2.1.2 < 2 ∧ plt x.2.1 b ∧ ∃ y, L[x.2.1.1]? = some y ∧ x.2.2 = y.2.2 ++ [x.2.1.2] ∧ x.1 = pgo R S x.2.1.2 y.1
  pw : (L.drop 1).Pairwise fun x y => plt x.2.1 y.2.1
theorem pgo_rg {R S : List Nd} (hR : rowsOk R) (hS : rowsOk S) {w : Nat} {p : Pr} (h1 : p.1 < R.length) (h2 : p.2 < S.length) : (pgo R S w p).1 < R.length ∧ (pgo R S w p).2 < S.length := by
  unfold pgo
  rw [List.getElem?_eq_getElem h1, List.getElem?_eq_getElem h2]
  have a := hR _ (List.getElem_mem h1)
  have b := hS _ (List.getElem_mem h2)
  show (if w = 0 then (R[p.1].2.1, S[p.2].2.1) else (R[p.1].2.2, S[p.2].2.2)).1 < R.length ∧ (if w = 0 then (R[p.1].2.1, S[p.2].2.1) else (R[p.1].2.2, S[p.2].2.2)).2 < S.length
  split
  · exact ⟨a.1, b.1⟩
  · exact ⟨a.2, b.2⟩
theorem addM_pre {L : List Mt} {x : Mt} : L <+: addM L x := by
  unfold addM
  split
  · exact List.prefix_refl _
  · exact List.prefix_append _ _
theorem addM_mem {L : List Mt} {x : Mt} : x.1 ∈ (addM L x).map (·.1) := by
  unfold addM
  split
  · assumption
  · rw [List.map_append]
    exact List.mem_append_right _ (List.mem_singleton.mpr rfl)
theorem pre_get {L M : List Mt} {j : Nat} {x : Mt} (h : L <+: M) (hx : L[j]? = some x) : M[j]? = some x := by
  obtain ⟨t, rfl⟩ := h
  rw [List.getElem?_append_left (List.getElem?_eq_some_iff.mp hx).1]
  exact hx
theorem MInv.weak {R S : List Nd} {b c : Pr} {L : List Mt} (h : MInv R S b L) (hc : plt b c) : MInv R S c L :=
  ⟨h.nd, h.rg, h.h0, fun j x hx hj => by
    obtain ⟨a1, a2, a3, a4⟩ := h.og j x hx hj
    exact ⟨a1, a2, plt_trans a3 hc, a4⟩, h.pw⟩
theorem MInv.add {R S : List Nd} {b c : Pr} {L : List Mt} {y : Mt} (hR : rowsOk R) (hS : rowsOk S) (h : MInv R S b L) (hy : L[b.1]? = some y) (hb : b.2 < 2) (hc : plt b c) : MInv R S c (addM L (pgo R S b.2 y.1, b, y.2.2 ++ [b.2])) := by
  have hl := (List.getElem?_eq_some_iff.mp hy).1
  have hm : y ∈ L := List.mem_of_getElem? hy
  unfold addM
  split
  · exact h.weak hc
  · rename_i hn
    refine ⟨?_, fun x hx => ?_, ?_, fun j x hx hj => ?_, ?_⟩
    · rw [List.map_append]
      refine List.nodup_append.mpr ⟨h.nd, by simp, fun a ha d hd e => ?_⟩
      have hd : d = pgo R S b.2 y.1 := List.mem_singleton.mp hd
      subst hd
      exact hn (by rw [← e]; exact ha)
    · rcases List.mem_append.mp hx with z | z
      · exact h.rg x z
      · rw [List.mem_singleton.mp z]
        obtain ⟨r1, r2⟩ := h.rg y hm
        exact pgo_rg hR hS r1 r2
    · exact pre_get (List.prefix_append _ _) h.h0
    · by_cases z : j < L.length
      · rw [List.getElem?_append_left z] at hx
        obtain ⟨a1, a2, a3, y', a4, a5⟩ := h.og j x hx hj
        exact ⟨a1, a2, plt_trans a3 hc, y', pre_get (List.prefix_append _ _) a4, a5⟩
      · have hj2 := (List.getElem?_eq_some_iff.mp hx).1
        rw [List.length_append, List.length_singleton] at hj2
        have ej : j = L.length := by omega
        subst ej
        rw [List.getElem?_append_right (Nat.le_refl _), Nat.sub_self] at hx
        cases Option.some.inj hx
        exact ⟨hl, hb, hc, y, pre_get (List.prefix_append _ _) hy, rfl, rfl⟩
    · have h1 : 1 ≤ L.length := by omega
      rw [List.drop_append_of_le_length h1]
      refine List.pairwise_append.mpr ⟨h.pw, List.pairwise_singleton _ _, fun x hx z hz => ?_⟩
      rw [List.mem_singleton.mp hz]
      obtain ⟨k, hk, e⟩ := List.mem_iff_getElem.mp hx
      rw [List.getElem_drop] at e
      rw [List.length_drop] at hk
      have hk2 : L[1 + k]? = some x := by rw [List.getElem?_eq_getElem (by omega), e]
      exact (h.og _ x hk2 (by omega)).2.2.1
theorem step_at {R S : List Nd} {L : List Mt} {i : Nat} {y : Mt} (hy : L[i]? = some y) : stepM R S L i = addM (addM L (pgo R S 0 y.1, (i, 0), y.2.2 ++ [0])) (pgo R S 1 y.1, (i, 1), y.2.2 ++ [1]) := by
  unfold stepM
  rw [hy]
theorem MInv.step {R S : List Nd} {L : List Mt} {i : Nat} (hR : rowsOk R) (hS : rowsOk S) (h : MInv R S (i, 0) L) : MInv R S (i + 1, 0) (stepM R S L i) := by
  cases hy : L[i]? with
  | none =>
    unfold stepM
    rw [hy]
    exact h.weak (.inl (Nat.lt_succ_self _))
  | some y =>
    rw [step_at hy]
    have h1 : MInv R S (i, 1) (addM L (pgo R S 0 y.1, (i, 0), y.2.2 ++ [0])) := h.add (b := (i, 0)) hR hS hy (by show 0 < 2; decide) (.inr ⟨rfl, by show 0 < 1; decide⟩)
    exact h1.add (b := (i, 1)) hR hS (pre_get addM_pre hy) (by show 1 < 2; decide) (.inl (Nat.lt_succ_self _))
theorem met_inv {R S : List Nd} (hR : rowsOk R) (hS : rowsOk S) (h1 : 0 < R.length) (h2 : 0 < S.length) : ∀ n, MInv R S (n, 0) (metN R S n)
  | 0 => ⟨by simp [metN], fun x hx => by rw [List.mem_singleton.mp hx]; exact ⟨h1, h2⟩, rfl, fun j x hx hj => by
      have := (List.getElem?_eq_some_iff.mp hx).1
      simp [metN] at this
      omega, .nil⟩
  | n + 1 => (met_inv hR hS h1 h2 n).step hR hS
theorem step_pre {R S : List Nd} {L : List Mt} {i : Nat} : L <+: stepM R S L i := by
  unfold stepM
  split
  · exact addM_pre.trans addM_pre
  · exact List.prefix_refl _
theorem met_pre {R S : List Nd} {n : Nat} : ∀ k, metN R S n <+: metN R S (n + k)
  | 0 => List.prefix_refl _
  | k + 1 => (met_pre k).trans step_pre
theorem met_stop {R S : List Nd} {n : Nat} (h : (metN R S n).length ≤ n) : ∀ k, metN R S (n + k) = metN R S n
  | 0 => rfl
  | k + 1 => by
    show stepM R S (metN R S (n + k)) (n + k) = _
    rw [met_stop h k]
    unfold stepM
    rw [List.getElem?_eq_none (by omega)]
theorem met_len {R S : List Nd} (hR : rowsOk R) (hS : rowsOk S) (h1 : 0 < R.length) (h2 : 0 < S.length) (n : Nat) : (metN R S n).length ≤ R.length * S.length := by
  have I := met_inv hR hS h1 h2 n
  have e : ((metN R S n).map fun x => x.1.1 * S.length + x.1.2).Nodup := by
    have hn := I.nd
    rw [List.nodup_iff_pairwise_ne, List.pairwise_map] at hn ⊢
    refine hn.imp_of_mem ?_
    intro a c ha hc hne z
    obtain ⟨a1, a2⟩ := I.rg a ha
    obtain ⟨c1, c2⟩ := I.rg c hc
    refine hne (Prod.ext ?_ ?_)
    · have d1 : (a.1.1 * S.length + a.1.2) / S.length = a.1.1 := by
        rw [Nat.mul_comm, Nat.mul_add_div h2, Nat.div_eq_of_lt a2, Nat.add_zero]
      have d2 : (c.1.1 * S.length + c.1.2) / S.length = c.1.1 := by
        rw [Nat.mul_comm, Nat.mul_add_div h2, Nat.div_eq_of_lt c2, Nat.add_zero]
      rw [← d1, ← d2, z]
    · have d1 : (a.1.1 * S.length + a.1.2) % S.length = a.1.2 := by
        rw [Nat.mul_comm, Nat.mul_add_mod, Nat.mod_eq_of_lt a2]
      have d2 : (c.1.1 * S.length + c.1.2) % S.length = c.1.2 := by
        rw [Nat.mul_comm, Nat.mul_add_mod, Nat.mod_eq_of_lt c2]
      rw [← d1, ← d2, z]
  have := nd_len (R.length * S.length) _ e fun k hk => by
    obtain ⟨x, hx, rfl⟩ := List.mem_map.mp hk
    obtain ⟨a1, a2⟩ := I.rg x hx
    have : (x.1.1 + 1) * S.length ≤ R.length * S.length := Nat.mul_le_mul_right _ a1
    rw [Nat.add_mul, Nat.one_mul] at this
    omega
  rw [List.length_map] at this
  exact this
/-- shorter ones ahead, then by their ways -/
def slx (a b : List Nat) : Prop := a.length < b.length ∨ (a.length = b.length ∧ a < b)
theorem lex_snoc : ∀ {a b : List Nat} {v w : Nat}, a.length = b.length → a < b → a ++ [v] < b ++ [w]
  | [], [], _, _, _, h => by cases h
  | x :: a, y :: b, v, w, hl, h => by
    rw [List.cons_append, List.cons_append]
    rcases List.cons_lt_cons_iff.mp h with z | ⟨z, h⟩
    · exact List.cons_lt_cons_iff.mpr (.inl z)
    · exact List.cons_lt_cons_iff.mpr (.inr ⟨z, lex_snoc (Nat.succ.inj hl) h⟩)
theorem lex_last : ∀ {a : List Nat} {v w : Nat}, v < w → a ++ [v] < a ++ [w]
  | [], v, w, h => List.cons_lt_cons_iff.mpr (.inl h)
  | x :: a, v, w, h => List.cons_lt_cons_iff.mpr (.inr ⟨rfl, lex_last h⟩)
theorem slx_snoc {a b : List Nat} {v w : Nat} (h : slx a b) : slx (a ++ [v]) (b ++ [w]) := by
  unfold slx at *
  simp only [List.length_append, List.length_singleton]
  rcases h with z | ⟨z, h⟩
  · exact .inl (by omega)
  · exact .inr ⟨by omega, lex_snoc z h⟩
theorem met_slx {R S : List Nd} {b : Pr} {L : List Mt} (I : MInv R S b L) : ∀ (k j : Nat) (x y : Mt), j < k → L[j]? = some x → L[k]? = some y → slx x.2.2 y.2.2 := by
  intro k
  induction k using Nat.strongRecOn with
  | _ k ih =>
    intro j x y hjk hx hy
    obtain ⟨k1, k2, k3, yo, k4, k5, k6⟩ := I.og k y hy (by omega)
    by_cases z : j = 0
    · subst z
      rw [I.h0] at hx
      cases Option.some.inj hx
      refine .inl ?_
      rw [k5, List.length_append, List.length_singleton]
      show 0 < _
      omega
    · obtain ⟨j1, j2, j3, xo, j4, j5, j6⟩ := I.og j x hx (by omega)
      have hp : plt x.2.1 y.2.1 := by
        have hk := (List.getElem?_eq_some_iff.mp hy).1
        have e1 : (L.drop 1)[j - 1]? = some x := by rw [List.getElem?_drop, show 1 + (j - 1) = j by omega]; exact hx
        have e2 : (L.drop 1)[k - 1]? = some y := by rw [List.getElem?_drop, show 1 + (k - 1) = k by omega]; exact hy
        obtain ⟨p1, q1⟩ := List.getElem?_eq_some_iff.mp e1
        obtain ⟨p2, q2⟩ := List.getElem?_eq_some_iff.mp e2
        have := List.pairwise_iff_getElem.mp I.pw (j - 1) (k - 1) p1 p2 (by omega)
        rw [q1, q2] at this
        exact this
      rw [j5, k5]
      rcases hp with z | ⟨z, z2⟩
      · exact slx_snoc (ih y.2.1.1 k1 x.2.1.1 xo yo z j4 k4)
      · rw [z] at j4
        rw [j4] at k4
        cases Option.some.inj k4
        refine .inr ⟨by simp, lex_last z2⟩
end K0


set_option Elab.async false
set_option linter.all false
set_option maxRecDepth 100000
set_option maxHeartbeats 2000000
/-! R1: walked_together: what it tells. -/
namespace K0
open PySem PySem.Spec PyProof.Rows L2 GxR Tk
variable [LamTab]
abbrev sWt : Stmt := t_walked_together
def pairD (p : Pr) : PyData := .tuple [.int (p.1 : Int), .int (p.2 : Int)]
def keyP (p : Pr) : List L2.Key := [Sum.inl (p.1 : Int), Sum.inl (p.2 : Int)]
def kvT (L : List Mt) : List (List L2.Key × V) := L.map fun x => (keyP x.1, V.bl true)
theorem keyP_inj {p q : Pr} (h : keyP p = keyP q) : p = q := by
  have h1 := List.cons.inj h
  have h2 := (List.cons.inj h1.2).1
  have e1 := Sum.inl.inj h1.1
  have e2 := Sum.inl.inj h2
  exact Prod.ext (by omega) (by omega)
theorem kvT_val : ∀ (L : List Mt) (p : Pr), (valV (kvT L) (keyP p)).isSome = decide (p ∈ L.map (·.1))
  | [], p => rfl
  | x :: L, p => by
    by_cases z : x.1 = p
    · rw [show kvT (x :: L) = (keyP x.1, V.bl true) :: kvT L from rfl, valV_pos (by rw [z]), decide_eq_true (by rw [List.map_cons, z]; exact List.mem_cons_self)]
      rfl
    · rw [show kvT (x :: L) = (keyP x.1, V.bl true) :: kvT L from rfl, valV_neg (fun e => z (keyP_inj e)), kvT_val L p]
      refine decide_eq_decide.mpr ?_
      rw [List.map_cons, List.mem_cons]
      exact ⟨.inr, fun h => h.resolve_left fun e => z e.symm⟩
theorem kvT_app (L : List Mt) (x : Mt) : kvT (L ++ [x]) = kvT L ++ [(keyP x.1, V.bl true)] := by
  unfold kvT
  rw [List.map_append]
  rfl
theorem kvT_put {L : List Mt} {x : Mt} (h : x.1 ∉ L.map (·.1)) : putK (kvT L) (keyP x.1) (.bl true) = kvT (L ++ [x]) := by
  rw [kvT_app]
  refine putK_new _ ?_
  have := kvT_val L x.1
  rw [decide_eq_false h] at this
  exact Option.isNone_iff_eq_none.mp (by rw [← Option.not_isSome, this]; rfl)
theorem kvT_len (L : List Mt) : (kvT L).length = L.length := List.length_map _
def likeM (R S : List Nd) (p : Pr) : Bool := match R[p.1]?, S[p.2]? with
  | some r, some s => PyData.eqv r.1 s.1
  | _, _ => true
def wt (R S : List Nd) : Nat → Nat → List Mt × Option Nat
  | 0, i => (metN R S i, none)
  | f + 1, i => match (metN R S i)[i]? with
    | none => (metN R S i, none)
    | some y => if likeM R S y.1 = true then wt R S f (i + 1) else (metN R S i, some i)
def wtR (R S : List Nd) : List Mt × Option Nat := wt R S (R.length * S.length) 0
theorem wt_end {R S : List Nd} {i : Nat} (h : (metN R S i).length ≤ i) : ∀ f, wt R S f i = (metN R S i, none)
  | 0 => rfl
  | f + 1 => by
    unfold wt
    rw [List.getElem?_eq_none h]
theorem wt_like {R S : List Nd} {i f : Nat} {y : Mt} (h : (metN R S i)[i]? = some y) (hl : likeM R S y.1 = true) : wt R S (f + 1) i = wt R S f (i + 1) := by
  rw [wt, h]
  exact if_pos hl
theorem wt_unlike {R S : List Nd} {i f : Nat} {y : Mt} (h : (metN R S i)[i]? = some y) (hl : likeM R S y.1 = false) : wt R S (f + 1) i = (metN R S i, some i) := by
  rw [wt, h]
  exact if_neg (by rw [hl]; exact Bool.false_ne_true)
def okL (R : List Nd) : Prop := ∀ r ∈ R, noDict r.1 = true ∧ SeqAt.shaped r.1 = true
def twoP (R S : List Nd) : Prop := rowsOk R ∧ rowsOk S ∧ 0 < R.length ∧ 0 < S.length ∧ R.length * S.length ≤ 1000 ∧ okL R ∧ okL S
/-- pairs that were made here -/
def Tps (B : Hp) : List V → List Pr → Prop := Paired fun (v : V) (p : Pr) => ∃ t, v = V.ref t ∧ B t = some (.tup [.int (p.1 : Int), .int (p.2 : Int)])
theorem pr_tup {K : PySem.W.Frag} {H : Hp} {t : Addr} {p : Pr} (h : H t = some (.tup [.int (p.1 : Int), .int (p.2 : Int)])) : Dt K H (.ref t) (pairD p) := .new_tup h (.cons (.int _) (.cons (.int _) .nil))
theorem Tps.ds {K : PySem.W.Frag} {B : Hp} {vs : List V} {ps : List Pr} (h : Tps B vs ps) : Ds K B vs (ps.map pairD) := by
  unfold Tps at h
  induction h with
  | nil => exact .nil
  | cons r _ ih =>
    obtain ⟨t, rfl, e⟩ := r
    exact .cons (pr_tup e) ih
theorem Tps.le {B B2 : Hp} {vs : List V} {ps : List Pr} (l : Le B B2) (h : Tps B vs ps) : Tps B2 vs ps := Paired.mapP h fun v p ⟨t, e, q⟩ => ⟨t, e, l.keep t _ q fun _ z => by cases z⟩
theorem Tps.snoc {B : Hp} {vs : List V} {ps : List Pr} {t : Addr} {p : Pr} (h : Tps B vs ps) (q : B t = some (.tup [.int (p.1 : Int), .int (p.2 : Int)])) : Tps B (vs ++ [.ref t]) (ps ++ [p]) := Paired.snoc h ⟨t, rfl, q⟩
def unV : Option Nat → V
  | some i => .int (i : Int)
  | none => .non
/-- the pairs, whence they were met, the first with unlike letters -/
def spWt (K : PySem.W.Frag) (T : List Addr) : Sp := fun vs H Q _ => vs.length = 2 ∧ Tbs T H ∧ ∃ B R S, Le B H ∧ Ds K B vs [.tuple (R.map ndD), .tuple (S.map ndD)] ∧ twoP R S ∧
  ∀ (a lp lo : Addr) (pv ov : List V) (B' H' : Hp), Up B H B' H' → B' a = some (.tup [.ref lp, .ref lo, unV (wtR R S).2]) → B' lp = some (.lst pv) → B' lo = some (.lst ov) → Tps B' pv ((wtR R S).1.map (·.1)) → Tps B' ov ((wtR R S).1.map (·.2.1)) → Q (.ref a) H'
def NWt : List Str := ["mine", "theirs", "pairs", "origins", "met", "at", "one", "other", "way", "pair"]
theorem scWt : FnScope NWt ["mine", "theirs"] (defScope sWt) := ⟨rfl, rfl, rfl, by decide +kernel, rfl, by decide +kernel, by decide +kernel⟩
theorem ndWt : List.Nodup NWt := by decide +kernel
end K0


set_option Elab.async false
set_option linter.all false
set_option maxRecDepth 100000
set_option maxHeartbeats 4000000
/-! R2: walked_together. -/
namespace K0
open PySem PySem.Spec PyProof.Rows L2 GxR Tk
variable [LamTab]
theorem upd_non {H : Hp} {a b : Addr} {o : HO} (h : upd H a o b = none) : b ≠ a ∧ H b = none := by
  by_cases z : b = a
  · rw [z, upd_same] at h; cases h
  · rw [upd_ne z] at h; exact ⟨z, h⟩
theorem up_add {B H B2 H2 : Hp} {a : Addr} {o : HO} (u : Up B H B2 H2) (h : H a = none) (b : B2 a = none) (e : H2 a = some o) (ho : ∀ ps, o ≠ .tbl ps) : Up B H (upd B2 a o) H2 :=
  ⟨u.h, u.b.trans (Le.new b), u.s.add e ho, fun x hx => by
    by_cases z : x = a
    · rw [z]; exact .inr (.inl h)
    · rw [upd_ne z] at hx; exact u.n x hx⟩
theorem at_pr {r : Nd} {w : Nat} (hw : w < 2) : atI [r.1, .int (r.2.1 : Int), .int (r.2.2 : Int)] (1 + (w : Int)) = some (.int ((if w = 0 then r.2.1 else r.2.2 : Nat) : Int)) := by
  match w, hw with
  | 0, _ => exact atI_nat (j := 1) rfl
  | 1, _ => exact atI_nat (j := 2) rfl
theorem pgo_eq {R S : List Nd} {w : Nat} {p : Pr} (h1 : p.1 < R.length) (h2 : p.2 < S.length) : pgo R S w p = ((if w = 0 then R[p.1].2.1 else R[p.1].2.2), if w = 0 then S[p.2].2.1 else S[p.2].2.2) := by
  unfold pgo
  rw [List.getElem?_eq_getElem h1, List.getElem?_eq_getElem h2]
  show (if w = 0 then (R[p.1].2.1, S[p.2].2.1) else (R[p.1].2.2, S[p.2].2.2)) = _
  split <;> rfl
theorem like_eq {R S : List Nd} {p : Pr} (h1 : p.1 < R.length) (h2 : p.2 < S.length) : likeM R S p = PyData.eqv R[p.1].1 S[p.2].1 := by
  unfold likeM
  rw [List.getElem?_eq_getElem h1, List.getElem?_eq_getElem h2]
/-- what a way adds -/
def xM (R S : List Nd) (i : Nat) (y : Mt) (w : Nat) : Mt := (pgo R S w y.1, (i, w), y.2.2 ++ [w])
section
variable {P : Program} {w : World} {K : PySem.W.Frag} {mg : Str → Option Value} {base : Heap} {f : Addr} {fd : FuncData} {T : List Addr}
theorem ok_wt (BL : Blt mg) (F : L2.Fun K "walked_together" "walked_together" sWt f fd) : FnOk P w K mg base CX0 1 f fd ["mine", "theirs"] (spWt K T) := by
  refine fn_any F scWt (fun vs H Q E h => h.1) fun cdv A outer s H vs Q E hr hcd h => ?_
  obtain ⟨hl, t0, B0, R, S, l0, hd0, ⟨hR, hS, r0, s0, hn, okR, okS⟩, q0⟩ := h
  obtain ⟨B, lB0, l, t, up0⟩ := with_tables t0 l0
  have hd := Ds.le lB0 hd0
  obtain ⟨v1, v2, rfl, h1, h2⟩ := ds2 hd
  have hu := hu64 hr
  have hu1 : (A.deeper (envOfC "walked_together" (defScope sWt) s.heap.objs.size f cdv)).units + 1 < cLine := by omega
  refine wb_cons ⟨_, ps_set (i := 2) ndWt rfl (by first | exact Or.inl rfl | exact Or.inr rfl) (pe_lst (pa_cons (pe_tup (pa_cons pe_int (pa_cons pe_int pa_nil))) pa_nil)) rfl (by first | exact Or.inl rfl | exact Or.inr rfl), ?_⟩
  refine ⟨by show 2 ≤ sizeLine; decide, fun t1 ht1 => ⟨by show 1 ≤ sizeLine; decide, fun lp hlp => ?_⟩⟩
  refine wb_cons ⟨_, ps_set (i := 3) ndWt rfl (by first | exact Or.inl rfl | exact Or.inr rfl) (pe_lst (pa_cons (pe_tup (pa_cons pe_int (pa_cons pe_int pa_nil))) pa_nil)) rfl (by first | exact Or.inl rfl | exact Or.inr rfl), ?_⟩
  refine ⟨by show 2 ≤ sizeLine; decide, fun t2 ht2 => ⟨by show 1 ≤ sizeLine; decide, fun lo hlo => ?_⟩⟩
  refine wb_cons ⟨_, ps_set (i := 4) ndWt rfl (by first | exact Or.inl rfl | exact Or.inr rfl) (pe_dispT hu1 (pps_cons (pe_tup (pa_cons pe_int (pa_cons pe_int pa_nil))) pe_bl pps_nil) (by rfl) (by rfl) (fun z => by cases z) (by decide)) rfl (by first | exact Or.inl rfl | exact Or.inr rfl), ?_⟩
  refine fun ld hld => ⟨by show 2 ≤ sizeLine; decide, fun t3 ht3 => ⟨?_, keyP (0, 0), t3, .bl true, rfl, upd_same, ?_⟩⟩
  · obtain ⟨z, _⟩ := upd_non ht3
    rw [upd_ne fun e => z e.symm]
    exact upd_same
  obtain ⟨n1, hlp1⟩ := upd_non hlp
  obtain ⟨n2, ht21⟩ := upd_non ht2
  obtain ⟨n3, ht22⟩ := upd_non ht21
  obtain ⟨m1, hlo1⟩ := upd_non hlo
  obtain ⟨m2, hlo2⟩ := upd_non hlo1
  obtain ⟨m3, hlo3⟩ := upd_non hlo2
  obtain ⟨k1, hld1⟩ := upd_non hld
  obtain ⟨k2, hld2⟩ := upd_non hld1
  obtain ⟨k3, hld3⟩ := upd_non hld2
  obtain ⟨k4, hld4⟩ := upd_non hld3
  obtain ⟨j1, ht31⟩ := upd_non ht3
  obtain ⟨j2, ht32⟩ := upd_non ht31
  obtain ⟨j3, ht33⟩ := upd_non ht32
  obtain ⟨j4, ht34⟩ := upd_non ht33
  obtain ⟨j5, ht35⟩ := upd_non ht34
  have nt : ∀ {xs : List V} (ps : Array Value), HO.tup xs ≠ .tbl ps := fun ps z => by cases z
  have uA := (Up.refl l).new (o := .tup [.int 0, .int 0]) ht1 nt
  have uB := up_mut uA hlp1 (by rw [upd_ne n1]; exact l.there lp hlp1) (o := .lst [.ref t1])
  have uC := uB.new (o := .tup [.int 0, .int 0]) ht2 nt
  have uD := up_mut uC hlo3 (by rw [upd_ne m1, upd_ne m3]; exact l.there lo hlo3) (o := .lst [.ref t2])
  have uE := up_mut uD hld4 (by rw [upd_ne k2, upd_ne k4]; exact l.there ld hld4) (o := .dT [])
  have uF := uE.new (o := .tup [.int 0, .int 0]) ht3 nt
  have uG := up_mut uF hld4 (by rw [upd_ne (fun z => j1 z.symm), upd_ne k2, upd_ne k4]; exact l.there ld hld4) (o := .dT [(keyP (0, 0), .bl true)])
  have e1 : (upd (upd (upd (upd (upd (upd (upd H t1 (.tup [.int 0, .int 0])) lp (.lst [.ref t1])) t2 (.tup [.int 0, .int 0])) lo (.lst [.ref t2])) ld (.dT [])) t3 (.tup [.int 0, .int 0])) ld (.dT [(keyP (0, 0), .bl true)])) lp = some (.lst [.ref t1]) := by
    rw [upd_ne (fun z => k3 z.symm), upd_ne (fun z => j4 z.symm), upd_ne (fun z => k3 z.symm), upd_ne (fun z => m2 z.symm), upd_ne (fun z => n2 z.symm)]
    exact upd_same
  have e2 : (upd (upd (upd (upd (upd (upd (upd H t1 (.tup [.int 0, .int 0])) lp (.lst [.ref t1])) t2 (.tup [.int 0, .int 0])) lo (.lst [.ref t2])) ld (.dT [])) t3 (.tup [.int 0, .int 0])) ld (.dT [(keyP (0, 0), .bl true)])) lo = some (.lst [.ref t2]) := by
    rw [upd_ne (fun z => k1 z.symm), upd_ne (fun z => j2 z.symm), upd_ne (fun z => k1 z.symm)]
    exact upd_same
  have e3 : (upd (upd (upd (upd (upd (upd (upd H t1 (.tup [.int 0, .int 0])) lp (.lst [.ref t1])) t2 (.tup [.int 0, .int 0])) lo (.lst [.ref t2])) ld (.dT [])) t3 (.tup [.int 0, .int 0])) ld (.dT [(keyP (0, 0), .bl true)])) ld = some (.dT (kvT [rootM])) := upd_same
  have d1 : (upd (upd (upd B t1 (.tup [.int 0, .int 0])) t2 (.tup [.int 0, .int 0])) t3 (.tup [.int 0, .int 0])) t1 = some (.tup [.int ((0, 0) : Pr).1, .int ((0, 0) : Pr).2]) := (by
    rw [upd_ne (fun z => j5 z.symm), upd_ne (fun z => n3 z.symm)]
    exact upd_same)
  have d2 : (upd (upd (upd B t1 (.tup [.int 0, .int 0])) t2 (.tup [.int 0, .int 0])) t3 (.tup [.int 0, .int 0])) t2 = some (.tup [.int ((0, 0) : Pr).1, .int ((0, 0) : Pr).2]) := (by
    rw [upd_ne (fun z => j3 z.symm)]
    exact upd_same)
  have bp : (upd (upd (upd B t1 (.tup [.int 0, .int 0])) t2 (.tup [.int 0, .int 0])) t3 (.tup [.int 0, .int 0])) lp = none := by
    rw [upd_ne (fun z => j4 z.symm), upd_ne (fun z => n2 z.symm), upd_ne n1]; exact l.there lp hlp1
  have bo : (upd (upd (upd B t1 (.tup [.int 0, .int 0])) t2 (.tup [.int 0, .int 0])) t3 (.tup [.int 0, .int 0])) lo = none := by
    rw [upd_ne (fun z => j2 z.symm), upd_ne m1, upd_ne m3]; exact l.there lo hlo3
  have bd : (upd (upd (upd B t1 (.tup [.int 0, .int 0])) t2 (.tup [.int 0, .int 0])) t3 (.tup [.int 0, .int 0])) ld = none := by
    rw [upd_ne (fun z => j1 z.symm), upd_ne k2, upd_ne k4]; exact l.there ld hld4
  generalize upd (upd (upd (upd (upd (upd (upd H t1 (.tup [.int 0, .int 0])) lp (.lst [.ref t1])) t2 (.tup [.int 0, .int 0])) lo (.lst [.ref t2])) ld (.dT [])) t3 (.tup [.int 0, .int 0])) ld (.dT [(keyP (0, 0), .bl true)]) = H1 at uG e1 e2 e3 ⊢
  generalize upd (upd (upd B t1 (.tup [.int 0, .int 0])) t2 (.tup [.int 0, .int 0])) t3 (.tup [.int 0, .int 0]) = B1 at uG d1 d2 bp bo bd ⊢
  have npo : lo ≠ lp := m2
  have npd : ld ≠ lp := k3
  have nod : ld ≠ lo := k1
  clear uA uB uC uD uE uF ht1 hlp ht2 hlo hld ht3 ht31 ht32 ht33 ht34 ht35 hlo1 hlo2 hld1 hld2 hld3 ht21 ht22
  refine wb_cons (ws_set (i := 5) (B := B1) uG.s ee_int (fun v B2 H2 u2 dv => ?_) ndWt)
  cases dv
  have e1 := u2.h.keep lp _ e1 (fun _ z => by cases z)
  have e2 := u2.h.keep lo _ e2 (fun _ z => by cases z)
  have e3 := u2.h.keep ld _ e3 (fun _ z => by cases z)
  have uG := uG.tab u2.h
  clear u2
  show WB _ _ _ [some v1, some v2, some (.ref lp), some (.ref lo), some (.ref ld), some (.int 0), none, none, none, none] H2
  refine wb_cons ⟨_, ps_while PassesOwn.never pt_w pss_w, ?_⟩
  refine ⟨fun k σ' H' => ∃ (i : Nat) (pv ov : List V) (a6 a7 a8 a9 : Option V) (B' : Hp), σ' = [some v1, some v2, some (.ref lp), some (.ref lo), some (.ref ld), some (.int (i : Int)), a6, a7, a8, a9] ∧ k = R.length * S.length - i ∧ wt R S (R.length * S.length - i) i = wtR R S ∧ H' lp = some (.lst pv) ∧ H' lo = some (.lst ov) ∧ H' ld = some (.dT (kvT (metN R S i))) ∧ Up B H B' H' ∧ B' lp = none ∧ B' lo = none ∧ B' ld = none ∧ Tps B' pv ((metN R S i).map (·.1)) ∧ Tps B' ov ((metN R S i).map (·.2.1)),
    ⟨R.length * S.length, 0, _, _, none, none, none, none, B1, rfl, rfl, rfl, e1, e2, e3, uG, bp, bo, bd, .cons ⟨t1, rfl, d1⟩ .nil, .cons ⟨t2, rfl, d2⟩ .nil⟩, ?_⟩
  clear e1 e2 e3 uG bp bo bd d1 d2
  rintro k σ' H' ⟨i, pv, ov, a6, a7, a8, a9, B', rfl, rfl, hW, e1, e2, e3, u0, bp, bo, bd, dp, dO⟩
  have I := met_inv hR hS r0 s0 i
  have hlen := met_len hR hS r0 s0 i
  have pl : (((metN R S i).map (·.1)).map pairD).length = (metN R S i).length := by rw [List.length_map, List.length_map]
  refine (et_cmp op_lt rr_lt (ee_var (i := 5) rfl (.int _)) (ee_len BL (ee_var (i := 2) rfl (.new_lst e1 (Tps.ds (Tps.le u0.s dp)))) rfl fun x z => by cases z)) H' (Le.refl _) _ fun H2 l2 => ?_
  have e1 := l2.keep lp _ e1 (fun _ z => by cases z)
  have e2 := l2.keep lo _ e2 (fun _ z => by cases z)
  have e3 := l2.keep ld _ e3 (fun _ z => by cases z)
  have u0 := u0.tab l2
  clear l2
  rw [pl]
  by_cases hlt : i < (metN R S i).length
  · rw [decide_eq_true (show (i : Int) < ((metN R S i).length : Int) by omega)]
    refine (if_pos rfl).mpr ?_
    have hy : (metN R S i)[i]? = some (metN R S i)[i] := List.getElem?_eq_getElem hlt
    obtain ⟨y1, y2⟩ := I.rg _ (List.getElem_mem hlt)
    have hpd : atI (((metN R S i).map (·.1)).map pairD) (i : Int) = some (pairD (metN R S i)[i].1) := atI_nat (j := i) (by rw [List.getElem?_map, List.getElem?_map, hy]; rfl)
    generalize hyE : (metN R S i)[i] = y at hy y1 y2 hpd
    obtain ⟨fu, hfu⟩ : ∃ fu, R.length * S.length - i = fu + 1 := ⟨R.length * S.length - i - 1, by omega⟩
    have hfu2 : R.length * S.length - (i + 1) = fu := by omega
    rw [hfu] at hW
    have hl1 : atI (R.map ndD) (y.1.1 : Int) = some (ndD R[y.1.1]) := at_nd y1
    have hl2 : atI (S.map ndD) (y.1.2 : Int) = some (ndD S[y.1.2]) := at_nd y2
    refine ⟨fun σ2 H5 => ∃ (pv ov : List V) (a6 a7 a8 a9 : Option V) (B' : Hp), σ2 = [some v1, some v2, some (.ref lp), some (.ref lo), some (.ref ld), some (.int ((i + 1 : Nat) : Int)), a6, a7, a8, a9] ∧ wt R S fu (i + 1) = wtR R S ∧ H5 lp = some (.lst pv) ∧ H5 lo = some (.lst ov) ∧ H5 ld = some (.dT (kvT (metN R S (i + 1)))) ∧ Up B H B' H5 ∧ B' lp = none ∧ B' lo = none ∧ B' ld = none ∧ Tps B' pv ((metN R S (i + 1)).map (·.1)) ∧ Tps B' ov ((metN R S (i + 1)).map (·.2.1)),
      fun σ2 H5 ⟨pv, ov, a6, a7, a8, a9, B', z1, z2, z⟩ => ⟨R.length * S.length - (i + 1), by omega, i + 1, pv, ov, a6, a7, a8, a9, B', z1, rfl, by rw [hfu2]; exact z2, z⟩, ?_⟩
    refine wb_cons (ws_tgtW (B := H2) (d := pairD y.1) (es := [.int (y.1.1 : Int), .int (y.1.2 : Int)]) (tjs := [6, 7]) (pat := patT 2) (fun Q q => (ee_ix ix_list (rr_ixL hpd) (ee_var (i := 2) rfl (.new_lst e1 (Tps.ds (Tps.le u0.s dp)))) (ee_var (i := 5) rfl (.int _))) H2 (Le.refl _) Q q) (eg_tup rfl (st_cons (st_cons st_nil ndWt) ndWt)) rfl fun us B3 H3 u3 dus => ?_)
    obtain ⟨x1, x2, rfl, dx1, dx2⟩ := ds2 dus
    cases dx1
    cases dx2
    have e1 := u3.h.keep lp _ e1 (fun _ z => by cases z)
    have e2 := u3.h.keep lo _ e2 (fun _ z => by cases z)
    have e3 := u3.h.keep ld _ e3 (fun _ z => by cases z)
    have u0 := u0.tab u3.h
    clear u3 dus
    have h1' := Dt.le u0.b h1
    have h2' := Dt.le u0.b h2
    show WB _ _ _ [some v1, some v2, some (.ref lp), some (.ref lo), some (.ref ld), some (.int (i : Int)), some (.int (y.1.1 : Int)), some (.int (y.1.2 : Int)), a8, a9] H3
    obtain ⟨kr1, kr2⟩ := okR _ (List.getElem_mem y1)
    obtain ⟨ks1, ks2⟩ := okS _ (List.getElem_mem y2)
    have hlk := like_eq (R := R) (S := S) y1 y2
    refine wb_cons (ws_if (k := !likeM R S y.1) u0.s ((et_cmp (op_neD hu) (rr_neD kr1 ks1 kr2 ks2) (ee_ix ix_tup (rr_ixT (d := R[y.1.1].1) at0) (ee_ix ix_tup (rr_ixT hl1) (ee_var (i := 0) rfl h1') (ee_var (i := 6) rfl (.int _))) ee_int) (ee_ix ix_tup (rr_ixT (d := S[y.1.2].1) at0) (ee_ix ix_tup (rr_ixT hl2) (ee_var (i := 1) rfl h2') (ee_var (i := 7) rfl (.int _))) ee_int)).cast (by rw [hlk])) (fun e H4 l4 => ?_) fun e H4 l4 => wb_nil ?_)
    · have hlk2 : likeM R S y.1 = false := bno e
      rw [wt_unlike hy hlk2] at hW
      have e1 := l4.keep lp _ e1 (fun _ z => by cases z)
      have e2 := l4.keep lo _ e2 (fun _ z => by cases z)
      have u4 := u0.tab l4
      have ub := up_add u4 hlp1 bp e1 (fun _ z => by cases z)
      have uc := up_add ub hlo3 (by rw [upd_ne npo]; exact bo) e2 (fun _ z => by cases z)
      have g1 : (upd (upd B' lp (.lst pv)) lo (.lst ov)) lp = some (.lst pv) := by rw [upd_ne fun z => npo z.symm]; exact upd_same
      have lBc : Le B' (upd (upd B' lp (.lst pv)) lo (.lst ov)) := (Le.new bp).trans (Le.new (by rw [upd_ne npo]; exact bo))
      refine wb_one ⟨_, ps_ret (pe_tup (pa_cons (pe_var (i := 2) rfl (by first | exact Or.inl rfl | exact Or.inr (Or.inl rfl) | exact Or.inr (Or.inr rfl))) (pa_cons (pe_var (i := 3) rfl (by first | exact Or.inl rfl | exact Or.inr (Or.inl rfl) | exact Or.inr (Or.inr rfl))) (pa_cons (pe_var (i := 5) rfl (by first | exact Or.inl rfl | exact Or.inr (Or.inl rfl) | exact Or.inr (Or.inr rfl))) pa_nil)))), ?_⟩
      refine ⟨_, rfl, _, rfl, _, rfl, by show 3 ≤ sizeLine; decide, fun a ha => ?_⟩
      have nfa : ∀ {b : Addr} {o : HO}, (upd (upd B' lp (.lst pv)) lo (.lst ov)) b = some o → b ≠ a := fun e z => by
        have := uc.s.there a ha
        rw [z, this] at e; cases e
      have eu : unV (wtR R S).2 = .int (i : Int) := by rw [← hW]; rfl
      have lx : Le (upd (upd B' lp (.lst pv)) lo (.lst ov)) (upd (upd (upd B' lp (.lst pv)) lo (.lst ov)) a (.tup [.ref lp, .ref lo, .int (i : Int)])) := Le.new (uc.s.there a ha)
      exact q0 a lp lo pv ov _ _ (up0 (uc.new ha nt)) (by rw [eu]; exact upd_same) (by rw [upd_ne (nfa g1)]; exact g1) (by rw [upd_ne (nfa upd_same)]; exact upd_same) (by rw [← hW]; exact Tps.le (lBc.trans lx) dp) (by rw [← hW]; exact Tps.le (lBc.trans lx) dO)
    have hlk2 : likeM R S y.1 = true := bys e
    rw [wt_like hy hlk2] at hW
    have e1 := l4.keep lp _ e1 (fun _ z => by cases z)
    have e2 := l4.keep lo _ e2 (fun _ z => by cases z)
    have e3 := l4.keep ld _ e3 (fun _ z => by cases z)
    have u0 := u0.tab l4
    clear l4
    show WB _ _ _ [some v1, some v2, some (.ref lp), some (.ref lo), some (.ref ld), some (.int (i : Int)), some (.int (y.1.1 : Int)), some (.int (y.1.2 : Int)), a8, a9] H4
    have xR : ∀ j, j < 2 → (pgo R S j y.1) = ((if j = 0 then R[y.1.1].2.1 else R[y.1.1].2.2), if j = 0 then S[y.1.2].2.1 else S[y.1.2].2.2) := fun j hj => pgo_eq y1 y2
    have lenJ : ∀ j, (([xM R S i y 0, xM R S i y 1].take j).foldl addM (metN R S i)).length ≤ 1002 := fun j => by
      have a1 : ∀ (L : List Mt) (x : Mt), (addM L x).length ≤ L.length + 1 := fun L x => by
        unfold addM
        split
        · omega
        · rw [List.length_append, List.length_singleton]; omega
      match j with
      | 0 => show (metN R S i).length ≤ 1002; omega
      | 1 => exact Nat.le_trans (a1 _ _) (by omega)
      | j + 2 => 
        have : ([xM R S i y 0, xM R S i y 1].take (j + 2)) = [xM R S i y 0, xM R S i y 1] := by simp
        rw [this]
        exact Nat.le_trans (a1 _ _) (by have := a1 (metN R S i) (xM R S i y 0); omega)
    refine wb_cons (ws_for (B := B') (ds := [.int 0, .int 1]) (tjs := [8]) (pat := patN) u0.s (ei_tup (ee_tup (ea_cons ee_int (ea_cons ee_int ea_nil)) (by show 2 ≤ sizeLine; decide))) (eg_name ndWt) (fun d hd => ⟨[d], rfl⟩) PassesOwn.never rfl
      (fun j σ' B' H' => ∃ (pv ov : List V) (a8 a9 : Option V), σ' = [some v1, some v2, some (.ref lp), some (.ref lo), some (.ref ld), some (.int (i : Int)), some (.int (y.1.1 : Int)), some (.int (y.1.2 : Int)), a8, a9] ∧ H' lp = some (.lst pv) ∧ H' lo = some (.lst ov) ∧ H' ld = some (.dT (kvT (([xM R S i y 0, xM R S i y 1].take j).foldl addM (metN R S i)))) ∧ Up B H B' H' ∧ B' lp = none ∧ B' lo = none ∧ B' ld = none ∧ Tps B' pv ((([xM R S i y 0, xM R S i y 1].take j).foldl addM (metN R S i)).map (·.1)) ∧ Tps B' ov ((([xM R S i y 0, xM R S i y 1].take j).foldl addM (metN R S i)).map (·.2.1)))
      (fun B' H' u => ⟨pv, ov, a8, a9, rfl, u.h.keep lp _ e1 (fun _ z => by cases z), u.h.keep lo _ e2 (fun _ z => by cases z), u.h.keep ld _ e3 (fun _ z => by cases z), u0.trans u, up_none u bp e1 (fun _ z => by cases z), up_none u bo e2 (fun _ z => by cases z), up_none u bd e3 (fun _ z => by cases z), Tps.le u.b dp, Tps.le u.b dO⟩) (fun j d es us σ' B4 H4 B'' H'' hj hd' lb hI u4 hpat dus N hN => ?_) fun σ' B4 H4 lb ls hI => ?_)
    · obtain ⟨pv, ov, a8, a9, rfl, f1, f2, f3, uj, b1, b2, b3, dp, dO⟩ := hI
      cases hpat
      obtain ⟨yv, rfl, hyv⟩ := ds1 (K := K) dus
      obtain ⟨rfl, hj2, hadd⟩ : d = .int (j : Int) ∧ j < 2 ∧ ([xM R S i y 0, xM R S i y 1].take (j + 1)).foldl addM (metN R S i) = addM (([xM R S i y 0, xM R S i y 1].take j).foldl addM (metN R S i)) (xM R S i y j) := by
        match j, hd' with
        | 0, hd' => cases hd'; exact ⟨rfl, by decide, rfl⟩
        | 1, hd' => cases hd'; exact ⟨rfl, by decide, rfl⟩
      cases hyv
      have c1 := up_none u4 b1 f1 (fun _ z => by cases z)
      have c2 := up_none u4 b2 f2 (fun _ z => by cases z)
      have c3 := up_none u4 b3 f3 (fun _ z => by cases z)
      have f1 := u4.h.keep lp _ f1 (fun _ z => by cases z)
      have f2 := u4.h.keep lo _ f2 (fun _ z => by cases z)
      have f3 := u4.h.keep ld _ f3 (fun _ z => by cases z)
      have uj := uj.trans u4
      have dp := Tps.le u4.b dp
      have dO := Tps.le u4.b dO
      have lj := lenJ j
      have xj := xR j hj2
      have xe : (xM R S i y j).1 = pgo R S j y.1 := rfl
      generalize hoE : ([xM R S i y 0, xM R S i y 1].take j).foldl addM (metN R S i) = Lj at f3 dp dO hadd lj
      show WB _ _ _ [some v1, some v2, some (.ref lp), some (.ref lo), some (.ref ld), some (.int (i : Int)), some (.int (y.1.1 : Int)), some (.int (y.1.2 : Int)), some (.int (j : Int)), a9] H''
      have h1'' := Dt.le uj.b h1
      have h2'' := Dt.le uj.b h2
      refine wb_cons ⟨_, ps_set (i := 9) ndWt rfl (by first | exact Or.inl rfl | exact Or.inr rfl) (pe_tup (pa_cons pe_w (pa_cons pe_w pa_nil))) rfl (by first | exact Or.inl rfl | exact Or.inr rfl), ?_⟩
      refine (ee_ix ix_tup (rr_ixT (at_pr hj2)) (ee_ix ix_tup (rr_ixT hl1) (ee_var (i := 0) rfl h1'') (ee_var (i := 6) rfl (.int _))) (ee_op op_add rr_add ee_int (ee_var (i := 8) rfl (.int _)))) H'' uj.s _ fun x1 B5 H5 u5 dx1 => ?_
      cases dx1
      refine (ee_ix ix_tup (rr_ixT (at_pr hj2)) (ee_ix ix_tup (rr_ixT hl2) (ee_var (i := 1) rfl h2'') (ee_var (i := 7) rfl (.int _))) (ee_op op_add rr_add ee_int (ee_var (i := 8) rfl (.int _)))) H5 (uj.s.trans u5.h) _ fun x2 B6 H6 u6 dx2 => ?_
      cases dx2
      have l56 := u5.h.trans u6.h
      have f1 := l56.keep lp _ f1 (fun _ z => by cases z)
      have f2 := l56.keep lo _ f2 (fun _ z => by cases z)
      have f3 := l56.keep ld _ f3 (fun _ z => by cases z)
      have uj := uj.tab l56
      clear u5 u6 l56
      refine ⟨by show 2 ≤ sizeLine; decide, fun p hp => ?_⟩
      have nf : ∀ {b : Addr} {o : HO}, H6 b = some o → b ≠ p := fun e z => by rw [z, hp] at e; cases e
      have eg : ([.int ((if j = 0 then R[y.1.1].2.1 else R[y.1.1].2.2 : Nat) : Int), .int ((if j = 0 then S[y.1.2].2.1 else S[y.1.2].2.2 : Nat) : Int)] : List V) = [.int ((pgo R S j y.1).1 : Int), .int ((pgo R S j y.1).2 : Int)] := by rw [xj]
      rw [eg]
      have f1p : (upd H6 p (.tup [.int ((pgo R S j y.1).1 : Int), .int ((pgo R S j y.1).2 : Int)])) lp = some (.lst pv) := by rw [upd_ne (nf f1)]; exact f1
      have f2p : (upd H6 p (.tup [.int ((pgo R S j y.1).1 : Int), .int ((pgo R S j y.1).2 : Int)])) lo = some (.lst ov) := by rw [upd_ne (nf f2)]; exact f2
      have f3p : (upd H6 p (.tup [.int ((pgo R S j y.1).1 : Int), .int ((pgo R S j y.1).2 : Int)])) ld = some (.dT (kvT Lj)) := by rw [upd_ne (nf f3)]; exact f3
      have up := uj.new (o := .tup [.int ((pgo R S j y.1).1 : Int), .int ((pgo R S j y.1).2 : Int)]) hp nt
      have fp : (upd H6 p (.tup [.int ((pgo R S j y.1).1 : Int), .int ((pgo R S j y.1).2 : Int)])) p = some (.tup [.int ((pgo R S j y.1).1 : Int), .int ((pgo R S j y.1).2 : Int)]) := upd_same
      have bpp : B'' p = none := uj.s.there p hp
      have cp1 : (upd B'' p (.tup [.int ((pgo R S j y.1).1 : Int), .int ((pgo R S j y.1).2 : Int)])) lp = none := by rw [upd_ne (nf f1)]; exact c1
      have cp2 : (upd B'' p (.tup [.int ((pgo R S j y.1).1 : Int), .int ((pgo R S j y.1).2 : Int)])) lo = none := by rw [upd_ne (nf f2)]; exact c2
      have cp3 : (upd B'' p (.tup [.int ((pgo R S j y.1).1 : Int), .int ((pgo R S j y.1).2 : Int)])) ld = none := by rw [upd_ne (nf f3)]; exact c3
      have lBp : Le B'' (upd B'' p (.tup [.int ((pgo R S j y.1).1 : Int), .int ((pgo R S j y.1).2 : Int)])) := Le.new bpp
      have dpt : (upd B'' p (.tup [.int ((pgo R S j y.1).1 : Int), .int ((pgo R S j y.1).2 : Int)])) p = some (.tup [.int ((pgo R S j y.1).1 : Int), .int ((pgo R S j y.1).2 : Int)]) := upd_same
      generalize upd H6 p (.tup [.int ((pgo R S j y.1).1 : Int), .int ((pgo R S j y.1).2 : Int)]) = H7 at f1p f2p f3p up fp ⊢
      generalize upd B'' p (.tup [.int ((pgo R S j y.1).1 : Int), .int ((pgo R S j y.1).2 : Int)]) = B7 at up cp1 cp2 cp3 lBp dpt ⊢
      show WB _ _ _ [some v1, some v2, some (.ref lp), some (.ref lo), some (.ref ld), some (.int (i : Int)), some (.int (y.1.1 : Int)), some (.int (y.1.2 : Int)), some (.int (j : Int)), some (.ref p)] H7
      refine wb_one ⟨_, ps_if (pt_cmp (pc_dnotin hu1 (pe_var (i := 9) rfl (by first | exact Or.inl rfl | exact Or.inr (Or.inl rfl) | exact Or.inr (Or.inr rfl))) (pe_var (i := 4) rfl (by first | exact Or.inl rfl | exact Or.inr (Or.inl rfl) | exact Or.inr (Or.inr rfl))))) (pss_cons (ps_dput hu1 (pe_var (i := 4) rfl (by first | exact Or.inl rfl | exact Or.inr (Or.inl rfl) | exact Or.inr (Or.inr rfl))) (pe_var (i := 9) rfl (by first | exact Or.inl rfl | exact Or.inr (Or.inl rfl) | exact Or.inr (Or.inr rfl))) pe_bl rfl) (pss_cons (ps_expr (pe_bm PySem.F.plainAttrs_list PySem.F.slot_list_append PySem.F.type_list_append mt_append (pe_var (i := 2) rfl (by first | exact Or.inl rfl | exact Or.inr (Or.inl rfl) | exact Or.inr (Or.inr rfl))) (pa_cons (pe_var (i := 9) rfl (by first | exact Or.inl rfl | exact Or.inr (Or.inl rfl) | exact Or.inr (Or.inr rfl))) pa_nil))) (pss_one (ps_expr (pe_bm PySem.F.plainAttrs_list PySem.F.slot_list_append PySem.F.type_list_append mt_append (pe_var (i := 3) rfl (by first | exact Or.inl rfl | exact Or.inr (Or.inl rfl) | exact Or.inr (Or.inr rfl))) (pa_cons (pe_tup (pa_cons (pe_var (i := 5) rfl (by first | exact Or.inl rfl | exact Or.inr (Or.inl rfl) | exact Or.inr (Or.inr rfl))) (pa_cons (pe_var (i := 8) rfl (by first | exact Or.inl rfl | exact Or.inr (Or.inl rfl) | exact Or.inr (Or.inr rfl))) pa_nil))) pa_nil)))))) pss_nil, ?_⟩
      refine ⟨_, rfl, _, rfl, ld, _, rfl, DGet.t (k := keyP (pgo R S j y.1)) f3p fp, _, rfl, ?_⟩
      rw [kvT_val]
      by_cases hm : pgo R S j y.1 ∈ Lj.map (·.1)
      · rw [decide_eq_true hm]
        refine hN _ B7 H7 lBp up.s ⟨pv, ov, _, _, rfl, ?_⟩
        rw [hadd, show addM Lj (xM R S i y j) = Lj from if_pos hm]
        exact ⟨f1p, f2p, f3p, up, cp1, cp2, cp3, Tps.le lBp dp, Tps.le lBp dO⟩
      · rw [decide_eq_false hm]
        have hx : addM Lj (xM R S i y j) = Lj ++ [xM R S i y j] := if_neg hm
        refine ⟨_, rfl, _, rfl, ld, _, rfl, DPut.t (k := keyP (pgo R S j y.1)) f3p fp (by rw [kvT_len]; exact Nat.lt_of_le_of_lt lj (by decide)), ?_⟩
        have g1 : (upd H7 ld (.dT (putK (kvT Lj) (keyP (pgo R S j y.1)) (.bl true)))) lp = some (.lst pv) := by rw [upd_ne (fun z => npd z.symm)]; exact f1p
        have pvl := Paired.length dp
        rw [List.length_map] at pvl
        have ovl := Paired.length dO
        rw [List.length_map] at ovl
        refine ⟨_, rfl, .inl ⟨rfl, _, SqL.of g1⟩, _, rfl, lp, pv, .ref p, rfl, rfl, g1, Nat.lt_of_le_of_lt (show pv.length ≤ 1002 by omega) (by decide), ?_⟩
        have ul := up_mut (up_mut up hld4 cp3 (o := .dT (putK (kvT Lj) (keyP (pgo R S j y.1)) (.bl true)))) hlp1 cp1 (o := .lst (pv ++ [.ref p]))
        have g2 : (upd (upd H7 ld (.dT (putK (kvT Lj) (keyP (pgo R S j y.1)) (.bl true)))) lp (.lst (pv ++ [.ref p]))) lo = some (.lst ov) := by rw [upd_ne npo, upd_ne (fun z => nod z.symm)]; exact f2p
        have g3 : (upd (upd H7 ld (.dT (putK (kvT Lj) (keyP (pgo R S j y.1)) (.bl true)))) lp (.lst (pv ++ [.ref p]))) ld = some (.dT (kvT (Lj ++ [xM R S i y j]))) := by
          rw [upd_ne npd, upd_same, ← kvT_put hm]
          rfl
        have g4 : (upd (upd H7 ld (.dT (putK (kvT Lj) (keyP (pgo R S j y.1)) (.bl true)))) lp (.lst (pv ++ [.ref p]))) lp = some (.lst (pv ++ [.ref p])) := upd_same
        generalize upd (upd H7 ld (.dT (putK (kvT Lj) (keyP (pgo R S j y.1)) (.bl true)))) lp (.lst (pv ++ [.ref p])) = H8 at ul g2 g3 g4 ⊢
        refine ⟨_, rfl, .inl ⟨rfl, _, SqL.of g2⟩, _, rfl, _, rfl, by show 2 ≤ sizeLine; decide, fun p2 hp2 => ?_⟩
        have nf2 : ∀ {b : Addr} {o : HO}, H8 b = some o → b ≠ p2 := fun e z => by rw [z, hp2] at e; cases e
        have g2p : (upd H8 p2 (.tup [.int (i : Int), .int (j : Int)])) lo = some (.lst ov) := by rw [upd_ne (nf2 g2)]; exact g2
        refine ⟨lo, ov, .ref p2, rfl, rfl, g2p, Nat.lt_of_le_of_lt (show ov.length ≤ 1002 by omega) (by decide), ?_⟩
        have uq := ul.new (o := .tup [.int (i : Int), .int (j : Int)]) hp2 nt
        have b7p : B7 p2 = none := ul.s.there p2 hp2
        have ur := up_mut uq hlo3 (by rw [upd_ne (nf2 g2)]; exact cp2) (o := .lst (ov ++ [.ref p2]))
        have lB9 : Le B7 (upd B7 p2 (.tup [.int (i : Int), .int (j : Int)])) := Le.new b7p
        refine hN _ _ _ (lBp.trans lB9) ur.s ⟨pv ++ [.ref p], ov ++ [.ref p2], _, _, rfl, ?_⟩
        rw [hadd, hx]
        refine ⟨?_, upd_same, ?_, ur, ?_, ?_, ?_, ?_, ?_⟩
        · rw [upd_ne (fun z => npo z.symm), upd_ne (nf2 g4)]; exact g4
        · rw [upd_ne nod, upd_ne (nf2 g3)]; exact g3
        · rw [upd_ne (nf2 g4)]; exact cp1
        · rw [upd_ne (nf2 g2)]; exact cp2
        · rw [upd_ne (nf2 g3)]; exact cp3
        · rw [List.map_append]
          exact (Tps.le (lBp.trans lB9) dp).snoc (lB9.keep p _ dpt fun _ z => by cases z)
        · rw [List.map_append]
          exact (Tps.le (lBp.trans lB9) dO).snoc (p := (i, j)) upd_same
    · obtain ⟨pv, ov, a8, a9, rfl, f1, f2, f3, uj, b1, b2, b3, dp, dO⟩ := hI
      have ej : ([xM R S i y 0, xM R S i y 1].take ([PyData.int 0, .int 1] : List PyData).length).foldl addM (metN R S i) = metN R S (i + 1) := by
        show addM (addM (metN R S i) (xM R S i y 0)) (xM R S i y 1) = stepM R S (metN R S i) i
        rw [step_at hy]
        rfl
      rw [ej] at f3 dp dO
      refine wb_one ⟨_, ps_aug (i := 5) ndWt rfl (by first | exact Or.inl rfl | exact Or.inr rfl) pe_int ip_add, ?_⟩
      exact ⟨_, rfl, (i : Int), 1, rfl, rfl, pv, ov, _, _, _, _, B4, rfl, hW, f1, f2, f3, uj, b1, b2, b3, dp, dO⟩
  · rw [decide_eq_false (show ¬ (i : Int) < ((metN R S i).length : Int) by omega)]
    refine (if_neg (by decide)).mpr ?_
    rw [wt_end (by omega)] at hW
    have ub := up_add u0 hlp1 bp e1 (fun _ z => by cases z)
    have uc := up_add ub hlo3 (by rw [upd_ne npo]; exact bo) e2 (fun _ z => by cases z)
    have g1 : (upd (upd B' lp (.lst pv)) lo (.lst ov)) lp = some (.lst pv) := by rw [upd_ne fun z => npo z.symm]; exact upd_same
    have lBc : Le B' (upd (upd B' lp (.lst pv)) lo (.lst ov)) := (Le.new bp).trans (Le.new (by rw [upd_ne npo]; exact bo))
    refine wb_one ⟨_, ps_ret (pe_tup (pa_cons (pe_var (i := 2) rfl (by first | exact Or.inl rfl | exact Or.inr (Or.inl rfl) | exact Or.inr (Or.inr rfl))) (pa_cons (pe_var (i := 3) rfl (by first | exact Or.inl rfl | exact Or.inr (Or.inl rfl) | exact Or.inr (Or.inr rfl))) (pa_cons pe_non pa_nil)))), ?_⟩
    refine ⟨_, rfl, _, rfl, by show 3 ≤ sizeLine; decide, fun a ha => ?_⟩
    have nfa : ∀ {b : Addr} {o : HO}, (upd (upd B' lp (.lst pv)) lo (.lst ov)) b = some o → b ≠ a := fun e z => by
      have := uc.s.there a ha
      rw [z, this] at e; cases e
    have eu : unV (wtR R S).2 = .non := by rw [← hW]; rfl
    have lx : Le (upd (upd B' lp (.lst pv)) lo (.lst ov)) (upd (upd (upd B' lp (.lst pv)) lo (.lst ov)) a (.tup [.ref lp, .ref lo, .non])) := Le.new (uc.s.there a ha)
    exact q0 a lp lo pv ov _ _ (up0 (uc.new ha nt)) (by rw [eu]; exact upd_same) (by rw [upd_ne (nfa g1)]; exact g1) (by rw [upd_ne (nfa upd_same)]; exact upd_same) (by rw [← hW]; exact Tps.le (lBc.trans lx) dp) (by rw [← hW]; exact Tps.le (lBc.trans lx) dO)
end
end K0


set_option Elab.async false
set_option linter.all false
set_option maxRecDepth 100000
set_option maxHeartbeats 4000000
/-! S1: sorted_out. -/
namespace K0
open PySem PySem.Spec PyProof.Rows L2 GxR Tk
variable [LamTab]
abbrev sSort : Stmt := t_sorted_out
def NSo : List Str := ["rows", "most", "lots", "many", "numbers", "signs", "sign", "at", "row"]
theorem scSort : FnScope NSo ["rows", "most"] (defScope sSort) := ⟨rfl, rfl, rfl, by decide +kernel, rfl, by decide +kernel, by decide +kernel⟩
theorem ndSo : List.Nodup NSo := by decide +kernel
/-- a sign, of a numbered row -/
def sgF (L : List Nat) : PyData → PyData
  | .tuple [.int i, .tuple [l, .int a, .int b]] => .tuple [l, .int ((gL L i.toNat : Nat) : Int), .int ((gL L a.toNat : Nat) : Int), .int ((gL L b.toNat : Nat) : Int)]
  | _ => .none
theorem sg_row {R : List Nd} {L : List Nat} {x : Nat} (h : x < R.length) : sgF L (.tuple [.int (Int.ofNat x), ndD R[x]]) = sgD R L x := by
  have e := List.getElem?_eq_getElem h
  unfold sgD
  rw [lt1_at e, gow_at e, gow_at e, if_pos rfl, if_neg (by decide)]
  rfl
theorem nums_at {R : List Nd} {x : Nat} (h : x < R.length) : (nums 0 (R.map ndD))[x]? = some (.tuple [.int (Int.ofNat x), ndD R[x]]) := by
  rw [nums_get, List.getElem?_map, List.getElem?_eq_getElem h, Nat.zero_add]
  rfl
theorem sg_map {R : List Nd} {L : List Nat} : (nums 0 (R.map ndD)).map (sgF L) = (List.range R.length).map (sgD R L) := by
  refine List.ext_getElem? fun x => ?_
  rw [List.getElem?_map, List.getElem?_map]
  by_cases h : x < R.length
  · rw [nums_at h, List.getElem?_range h]
    show some (sgF L _) = some (sgD R L x)
    rw [sg_row h]
  · rw [List.getElem?_eq_none (by rw [nums_len, List.length_map]; omega), List.getElem?_eq_none (by rw [List.length_range]; omega)]
    rfl
def srtP (ds : List PyData) : Prop := ∃ R m, ds = [.tuple (R.map ndD), .int ((m : Nat) : Int)] ∧ rowsOk R ∧ ltOk R ∧ 0 < R.length ∧ R.length ≤ m ∧ m ≤ 1000
def srtF : List PyData → PyData
  | [.tuple rs, _] => .list (idD (sortedL (rs.map ndOf)))
  | _ => .none
section
variable {P : Program} {w : World} {K : PySem.W.Frag} {mg : Str → Option Value} {base : Heap} {f : Addr} {fd : FuncData} {T : List Addr}
theorem hu10 {A : Around} {k : Nat} (r : Room k A) : A.units + 10 < cLine := by
  have := hu64 r
  omega
theorem ok_sort (BL : Blt mg) (F : L2.Fun K "sorted_out" "sorted_out" sSort f fd) : FnOk P w K mg base CX0 1 f fd ["rows", "most"] (spF K T 2 srtP srtF) := by
  refine fn_pure F scSort rfl fun cdv A outer s H vs B ds Q E hr hcd t l hd hl hp q => ?_
  obtain ⟨R, most, rfl, hR, hO, h0, hle, hm⟩ := hp
  obtain ⟨v1, v2, rfl, h1, h2⟩ := ds2 hd
  cases h2
  have hu := hu64 hr
  have hu1 : (A.deeper (envOfC "sorted_out" (defScope sSort) s.heap.objs.size f cdv)).units + 10 < cLine := hu10 hr
  refine wb_cons (ws_set (i := 2) l (ee_rep0 (ee_len BL (ee_var (i := 0) rfl h1) rfl fun x z => by cases z) (by rw [List.length_map]; omega)) (fun vL B1 H1 u1 dL => ?_) ndSo)
  rw [List.length_map] at dL
  refine wb_cons (ws_set (i := 3) (B := B1) u1.s ee_int (fun v B2 H2 u2 dv => ?_) ndSo)
  cases dv
  have dL := Dt.le u2.b dL
  have u0 := u1.trans u2
  clear u1 u2
  show WB _ _ _ [some v1, some (.int (most : Int)), some vL, some (.int 1), none, none, none, none, none] H2
  refine wb_cons ⟨_, ps_while PassesOwn.never pt_w pss_w, ?_⟩
  refine ⟨fun k σ' H' => ∃ (L : List Nat) (m : Nat) (vL : V) (a4 a5 a6 a7 a8 : Option V) (B' : Hp), σ' = [some v1, some (.int (most : Int)), some vL, some (.int (m : Int)), a4, a5, a6, a7, a8] ∧ R.length + 1 ≤ k + m ∧ srt R k L m = sortedL R ∧ Cls R L m ∧ Up B H B' H' ∧ Dt K B' vL (.list (idD L)),
    ⟨R.length, List.replicate R.length 0, 1, vL, none, none, none, none, none, B2, rfl, Nat.le_refl _, rfl, cls0 h0, u0, dL⟩, ?_⟩
  clear dL u0
  rintro k σ' H' ⟨L, m, vL, a4, a5, a6, a7, a8, B', rfl, hf, hsr, Cc, u0, dL⟩
  have hmn := Cc.le
  refine (et_cmp op_le rr_le (ee_var (i := 3) rfl (.int _)) (ee_var (i := 1) rfl (.int _))) H' (Le.refl _) _ fun H3 l3 => ?_
  have u0 := u0.tab l3
  clear l3
  rw [decide_eq_true (show (m : Int) ≤ (most : Int) by omega)]
  refine (if_pos rfl).mpr ?_
  obtain ⟨k, rfl⟩ : ∃ k', k = k' + 1 := ⟨k - 1, by omega⟩
  refine ⟨fun σ2 H5 => ∃ (L : List Nat) (m : Nat) (vL : V) (a4 a5 a6 a7 a8 : Option V) (B' : Hp), σ2 = [some v1, some (.int (most : Int)), some vL, some (.int (m : Int)), a4, a5, a6, a7, a8] ∧ R.length + 1 ≤ k + m ∧ srt R k L m = sortedL R ∧ Cls R L m ∧ Up B H B' H5 ∧ Dt K B' vL (.list (idD L)),
    fun σ2 H5 ⟨L, m, vL, a4, a5, a6, a7, a8, B', z⟩ => ⟨k, Nat.lt_succ_self _, L, m, vL, a4, a5, a6, a7, a8, B', z⟩, ?_⟩
  have h1' := Dt.le u0.b h1
  -- numbers = {}
  refine wb_cons ⟨_, ps_set (i := 4) ndSo rfl (by first | exact Or.inl rfl | exact Or.inr rfl) pe_nnew rfl (by first | exact Or.inl rfl | exact Or.inr rfl), ?_⟩
  refine fun p hp hsys => ?_
  have hpH : H p = none := u0.h.there p hp
  have hpB : B' p = none := u0.s.there p hp
  have n0 : ND P w K B' (upd H3 p (dnO P w p [])) p [] [] := ND.new hsys
  have u0 := up_mut u0 hpH hpB (o := dnO P w p [])
  show WB _ _ _ [some v1, some (.int (most : Int)), some vL, some (.int (m : Int)), some (.ref p), a5, a6, a7, a8] (upd H3 p (dnO P w p []))
  generalize upd H3 p (dnO P w p []) = H4 at u0 n0 ⊢
  -- signs
  refine wb_cons (ws_setLc (B := B') (ds := nums 0 (R.map ndD)) (own := [("at", 7), ("row", 8)]) (tjs := [7, 8]) (pat := patT 2) (i := 5) (fun _ => true) (sgF L) u0.s rfl ndSo (ei_enumT BL.enumerate (ee_var (i := 0) rfl h1')) (blkOk_by (show blkC NSo (defScope sSort) _ [("at", 7), ("row", 8)] = true by decide +kernel))
    (fun s H C cl fp => eg_tup rfl (st_cons (st_cons st_nil ndSo) ndSo)) (fun d hd => ?_) (fun vs hv => ?_) (fun B' d es vs lb hd he hv s H C cl fp => ets_nil) (fun B5 d es vs lb hd hb he hv s H C cl fp => ?_) (by rw [nums_len, List.length_map]; exact Nat.lt_of_le_of_lt (show R.length ≤ 1000 by omega) (by decide)) (fun lS acc B5 H5 hlS u5 e1 e2 dA => ?_) rfl)
  · obtain ⟨x, hx, e⟩ := List.mem_iff_getElem.mp hd
    have hx2 : x < R.length := by rw [nums_len, List.length_map] at hx; exact hx
    have := nums_at hx2
    rw [List.getElem?_eq_getElem hx, e] at this
    rw [Option.some.inj this]
    exact ⟨_, rfl, rfl⟩
  · match vs, hv with
    | [a, b], _ => rfl
  · obtain ⟨x, hx, e⟩ := List.mem_iff_getElem.mp hd
    have hx2 : x < R.length := by rw [nums_len, List.length_map] at hx; exact hx
    have e2 := nums_at hx2
    rw [List.getElem?_eq_getElem hx, e] at e2
    have e2 := Option.some.inj e2
    subst e2
    have hes : es = [.int (Int.ofNat x), ndD R[x]] := by
      have : patT 2 (.tuple [.int (Int.ofNat x), ndD R[x]]) = some [.int (Int.ofNat x), ndD R[x]] := rfl
      rw [this] at he
      exact (Option.some.inj he).symm
    subst hes
    obtain ⟨y1, y2, rfl, dy1, dy2⟩ := ds2 hv
    cases dy1
    obtain ⟨ra, rb⟩ := hR _ (List.getElem_mem hx2)
    have lL := Cc.len
    have dL5 := Dt.le lb dL
    refine ee_tup (ea_cons (ee_ix ix_tup (rr_ixT at0) (ee_var (i := 8) rfl dy2) ee_int) (ea_cons (ee_ix ix_list (rr_ixL (at_id (gL_at (by rw [lL]; exact hx2)))) (ee_var (i := 2) rfl dL5) (ee_var (i := 7) rfl (.int _)))
      (ea_cons (ee_ix ix_list (rr_ixL (at_id (gL_at (by rw [lL]; exact ra)))) (ee_var (i := 2) rfl dL5) (ee_ix ix_tup (rr_ixT (atI_nat (j := 1) rfl)) (ee_var (i := 8) rfl dy2) ee_int))
      (ea_cons (ee_ix ix_list (rr_ixL (at_id (gL_at (by rw [lL]; exact rb)))) (ee_var (i := 2) rfl dL5) (ee_ix ix_tup (rr_ixT (atI_nat (j := 2) rfl)) (ee_var (i := 8) rfl dy2) ee_int)) ea_nil)))) (by show 4 ≤ sizeLine; decide)
  rw [List.filter_eq_self.mpr fun _ _ => rfl, sg_map] at dA
  have hpB5 := up_none u5 hpB n0.at_ dnO_tbl
  have n0 := n0.le u5.b u5.h
  have u5' := u0.trans u5
  show WB _ _ _ [some v1, some (.int (most : Int)), some vL, some (.int (m : Int)), some (.ref p), some (.ref lS), a6, a7, a8] H5
  refine wb_cons (ws_for (B := B5) (ds := (List.range R.length).map (sgD R L)) (tjs := [6]) (pat := patN) u5'.s (ei_lst (ee_var (i := 5) rfl (.new_lst e1 dA))) (eg_name ndSo) (fun d hd => ⟨[d], rfl⟩) PassesOwn.never rfl
    (fun i σ' B' H' => ∃ a6 xs, σ' = [some v1, some (.int (most : Int)), some vL, some (.int (m : Int)), some (.ref p), some (.ref lS), a6, a7, a8] ∧ Le B5 B' ∧ B' p = none ∧ ND P w K B' H' p xs (((sgs R L).take i).foldl addK []) ∧ Up B H B' H')
    (fun B' H' u => ⟨a6, [], rfl, u.b, up_none u hpB5 n0.at_ dnO_tbl, n0.le u.b u.h, u5'.trans u⟩) (fun i d es us σ' B6 H6 B7 H7 hi hd' lb hI u7 hpat dus N hN => ?_) fun σ' B6 H6 lb ls hI => ?_)
  · obtain ⟨a6, xs, rfl, lB, hpB6, n1, u6⟩ := hI
    cases hpat
    obtain ⟨y, rfl, hy⟩ := ds1 (K := K) dus
    have hiR : i < R.length := by rw [List.length_map, List.length_range] at hi; exact hi
    have hd2 : d = sgD R L i := by
      rw [List.getElem?_map, List.getElem?_range hiR] at hd'
      exact (Option.some.inj hd').symm
    subst hd2
    obtain ⟨b, rfl⟩ : ∃ b, y = V.ref b := by
      have h := hy
      unfold sgD at h
      cases h
      exact ⟨_, rfl⟩
    have hpB7 := up_none u7 hpB6 n1.at_ dnO_tbl
    have n1 := n1.le u7.b u7.h
    have u7' := u6.trans u7
    have kS := sg_key (L := L) hO hiR
    have tk := fold_takeK (sgs_at (L := L) hiR)
    have hz : xs.length < sizeLine := by
      rw [n1.len]
      have h1 := fold_len ((sgs R L).take i) []
      rw [List.length_take, sgs_len] at h1
      exact Nat.lt_of_le_of_lt (show _ ≤ 1000 by simp at h1 ⊢; omega) (by decide)
    show WB _ _ _ [some v1, some (.int (most : Int)), some vL, some (.int (m : Int)), some (.ref p), some (.ref lS), some (.ref b), a7, a8] H7
    refine wb_one ⟨_, ps_expr (pe_nsetd hu1 (pe_var (i := 4) rfl (by first | exact Or.inl rfl | exact Or.inr (Or.inl rfl) | exact Or.inr (Or.inr rfl))) (pe_var (i := 6) rfl (by first | exact Or.inl rfl | exact Or.inr (Or.inl rfl) | exact Or.inr (Or.inr rfl))) (pe_callB c_lenN rfl BL.len boot_len' (pa_cons (pe_var (i := 4) rfl (by first | exact Or.inl rfl | exact Or.inr (Or.inl rfl) | exact Or.inr (Or.inr rfl))) pa_nil rfl) (by decide) (by decide) rfl rfl) ⟨rfl, rfl, rfl, rfl⟩), ?_⟩
    have D1 := n1.dn u7'.s
    refine ⟨_, rfl, p, rfl, ⟨xs, D1⟩, _, rfl, _, rfl, p, xs, rfl, D1, xs, b, sgD R L i, rfl, Dt.le u7'.s hy, kS, D1, hz, fun pr hpr => ?_, fun hno u hru => ?_⟩
    · have hmem : nkD (sgD R L i) ∈ ((sgs R L).take i).foldl addK [] := Decidable.byContradiction fun z => by
        rw [n1.no.mpr z] at hpr
        cases hpr
      obtain ⟨pr', t, g1, g2⟩ := n1.get hmem
      rw [hpr] at g1
      cases Option.some.inj g1
      refine ⟨.int _, ⟨t, g2⟩, hN _ B7 H7 (Le.refl _) u7'.s ⟨some (.ref b), xs, rfl, lB.trans u7.b, hpB7, ?_, u7'⟩⟩
      rw [tk, show addK (((sgs R L).take i).foldl addK []) (sgK R L i) = ((sgs R L).take i).foldl addK [] from if_pos hmem]
      exact n1
    · have hn := n1.no.mp hno
      obtain ⟨t, rfl⟩ := hru
      have n2 := n1.put (u := .int ((xs.length : Nat) : Int) t) (t := t) hy kS hn rfl hz
      have u8 := up_mut u7' hpH hpB7 (o := dnO P w p (xs ++ [(nkD (sgD R L i), b, .int ((xs.length : Nat) : Int) t)]))
      refine hN _ B7 _ (Le.refl _) u8.s ⟨some (.ref b), xs ++ [(nkD (sgD R L i), b, .int ((xs.length : Nat) : Int) t)], rfl, lB.trans u7.b, hpB7, ?_, u8⟩
      rw [tk, show addK (((sgs R L).take i).foldl addK []) (sgK R L i) = ((sgs R L).take i).foldl addK [] ++ [sgK R L i] from if_neg hn]
      exact n2
  · obtain ⟨a6, xs, rfl, lB, hpB6, n1, u6⟩ := hI
    have eD : ((sgs R L).take ((List.range R.length).map (sgD R L)).length).foldl addK [] = numsK R L := by
      rw [List.length_map, List.length_range, List.take_of_length_le (by rw [sgs_len]; omega)]
      rfl
    rw [eD] at n1
    -- the numbers may lie in the base from here on
    have u8 := up_add u6 hpH hpB6 n1.at_ dnO_tbl
    have lB8 : Le B6 (upd B6 p (dnO P w p xs)) := Le.new hpB6
    have n2 : ND P w K (upd B6 p (dnO P w p xs)) (upd B6 p (dnO P w p xs)) p xs (numsK R L) := ⟨upd_same, fun x hx => by
      obtain ⟨e, h1, h2, h3⟩ := n1.keys x hx
      exact ⟨e, Dt.le lB8 h1, h2, h3⟩, n1.nd, n1.sz, n1.lo, n1.ks, n1.vs⟩
    have e1 := lB8.keep lS _ (lB.keep lS _ e1 fun _ z => by cases z) fun _ z => by cases z
    have dA := Ds.le (lB.trans lB8) dA
    generalize upd B6 p (dnO P w p xs) = B8 at u8 lB8 n2 e1 dA
    clear n1 u6
    have key : (((List.range R.length).map (sgD R L)).filter fun _ => true).map (fun d => PyData.int (((numsK R L).idxOf (nkD d) : Nat) : Int)) = idD (nextL R L) := by
      rw [List.filter_eq_self.mpr fun _ _ => rfl, List.map_map]
      unfold idD nextL
      rw [List.map_map]
      rfl
    refine wb_cons (ws_set (B := B8) (i := 2) (d := .list (idD (nextL R L))) u8.s ((ee_lc (ds := (List.range R.length).map (sgD R L)) (own := [("sign", 6)]) (tjs := [6]) (pat := patN) (fun _ => true) (fun d => .int (((numsK R L).idxOf (nkD d) : Nat) : Int)) rfl ndSo (ei_lst (ee_var (i := 5) rfl (.new_lst e1 dA))) (blkOk_by (show blkC NSo (defScope sSort) _ [("sign", 6)] = true by decide +kernel))
      (fun s H C cl fp => eg_name ndSo) (fun d hd => ⟨[d], rfl, rfl⟩) (fun vs hv => ?_) (fun B' d es vs lb hd he hv s H C cl fp => ets_nil) (fun B9 d es vs lb hd hb he hv s H C cl fp => ?_) (by rw [List.length_map, List.length_range]; exact Nat.lt_of_le_of_lt (show R.length ≤ 1000 by omega) (by decide))).cast (congrArg PyData.list key)) (fun vN B9 H9 u9 dN => ?_) ndSo)
    · match vs, hv with
      | [a], _ => rfl
    · obtain ⟨x, hx, rfl⟩ := List.mem_map.mp hd
      have hx := List.mem_range.mp hx
      cases he
      obtain ⟨y, rfl, hy⟩ := ds1 (K := K) hv
      obtain ⟨b, rfl⟩ : ∃ b, y = V.ref b := by
        have h := hy
        unfold sgD at h
        cases h
        exact ⟨_, rfl⟩
      exact ee_nget (i := 4) (j := 6) (hu10 hr) rfl rfl (n2.le lb lb) hy (sg_key hO hx) (nums_mem hx)
    have u9' := u8.trans u9
    have n3 := (n2.dn (Le.refl _)).le u9.b
    have hlen : (xs.length : Int) = ((numsK R L).length : Int) := by rw [n2.len]
    show WB _ _ _ [some v1, some (.int (most : Int)), some vN, some (.int (m : Int)), some (.ref p), some (.ref lS), a6, a7, a8] H9
    refine wb_cons (ws_if (B := B9) (k := decide ((xs.length : Int) = (m : Int))) u9'.s (et_cmp op_eq rr_eqI (ee_lenN BL.len (i := 4) rfl n3) (ee_var (i := 3) rfl (.int _))) (fun e H10 l10 => ?_) fun e H10 l10 => wb_nil ?_)
    · have e := of_decide_eq_true e
      have em : (numsK R L).length = m := by omega
      refine wb_one (ws_ret (B := B9) (d := .list (idD (nextL R L))) (u9'.s.trans l10) (ee_var (i := 2) rfl dN) fun v B' H' u dv => q v B' H' ((u9'.tab l10).trans u) ?_)
      show Dt K B' v (.list (idD (sortedL ((R.map ndD).map ndOf))))
      rw [ndOf_map, ← hsr]
      unfold srt
      rw [if_pos em]
      exact dv
    · have e := of_decide_eq_false e
      have em : ¬ (numsK R L).length = m := by omega
      have u10 := u9'.tab l10
      have hmo := Cc.mono hO
      refine wb_one (ws_set (i := 3) (B := B9) u10.s (ee_lenN BL.len (i := 4) rfl n3) (fun v B' H' u dv => ?_) ndSo)
      rw [hlen] at dv
      cases dv
      refine ⟨nextL R L, (numsK R L).length, vN, some (.ref p), some (.ref lS), a6, a7, a8, B', rfl, by omega, ?_, Cc.next hR hO, u10.trans u, Dt.le u.b dN⟩
      rw [← hsr]
      show _ = (if (numsK R L).length = m then nextL R L else srt R k (nextL R L) (numsK R L).length)
      rw [if_neg em]
end
end K0


set_option Elab.async false
set_option linter.all false
set_option maxRecDepth 100000
set_option maxHeartbeats 2000000
/-! S2: walked, of a dict of rows. -/
namespace K0
open PySem PySem.Spec PyProof.Rows L2 GxR Tk
variable [LamTab]
/-- d[e], d of rows, on less than e -/
theorem ixD {X : Cx} {i : Nat} {x : Str} {ld : Addr} {kvs : List (Key × V)} {e : Expr} {σ : L2.St} {B Hf H1 : Hp} {n : Int} {d : PyData} {v : V} {p pos : Pos} (hu : X.A.units + 1 < cLine) (hσ : σ[i]? = some (some (.ref ld))) (hB : B ld = some (.dK kvs)) (he : EE X e σ Hf (.int n)) (hv : valV kvs (Sum.inl n) = some v) (hd : Dt X.K B v d) (lB : Le B Hf) (l : Le Hf H1) {Q : VK}
    (q : ∀ v B2 H2, Up B H1 B2 H2 → Dt X.K B2 v d → Q v H2) (hN : X.N[i]? = some x := by rfl) (hvis : Vis X.env.scope x := by first | exact Or.inl rfl | exact Or.inr (Or.inl rfl) | exact Or.inr (Or.inr rfl)) (hs : NoSl e := by intro _ _; rfl)
    (hdb : (x == ("__debug__" : Str)) = false := by decide) (hcd : (x == ("__classdict__" : Str)) = false := by decide) : WE X (.Subscript (.Name x p) e pos) σ H1 Q :=
  ⟨_, pe_dget hu (pe_var hN hvis hdb hcd) pe_w hs, .ref ld, hσ, he H1 l _ fun y B2 H2 u2 dy => by
    cases dy
    have g : DGet H2 ld (kV (Sum.inl n)) (valV kvs (Sum.inl n)) := DGet.k (u2.h.keep ld _ ((lB.trans l).keep ld _ hB fun _ z => by cases z) fun _ z => by cases z)
    rw [hv] at g
    exact ⟨ld, v, rfl, g, q v B H2 ⟨u2.h, Le.refl B, (lB.trans l).trans u2.h, fun a h => .inl h⟩ hd⟩⟩
theorem ee_dgetR {X : Cx} {i : Nat} {x : Str} {ld : Addr} {kvs : List (Key × V)} {e : Expr} {σ : L2.St} {B : Hp} {n : Int} {d : PyData} {v : V} {p pos : Pos} (hu : X.A.units + 1 < cLine) (hσ : σ[i]? = some (some (.ref ld))) (hB : B ld = some (.dK kvs)) (he : EE X e σ B (.int n)) (hv : valV kvs (Sum.inl n) = some v) (hd : Dt X.K B v d)
    (hN : X.N[i]? = some x := by rfl) (hvis : Vis X.env.scope x := by first | exact Or.inl rfl | exact Or.inr (Or.inl rfl) | exact Or.inr (Or.inr rfl)) (hs : NoSl e := by intro _ _; rfl)
    (hdb : (x == ("__debug__" : Str)) = false := by decide) (hcd : (x == ("__classdict__" : Str)) = false := by decide) : EE X (.Subscript (.Name x p) e pos) σ B d := fun H1 l Q q => ixD hu hσ hB he hv hd (Le.refl _) l q hN hvis hs hdb hcd
def spWD (K : PySem.W.Frag) (T : List Addr) : Sp := fun vs H Q _ => vs.length = 2 ∧ Tbs T H ∧ ∃ B R s lr kvs, vs = [.ref lr, .int ((s : Nat) : Int)] ∧ Le B H ∧ B lr = some (.dK kvs) ∧ (∀ k, (h : k < (R : List Nd).length) → ∃ v, valV kvs (Sum.inl (k : Int)) = some v ∧ Dt K B v (ndD R[k])) ∧ rowsOk R ∧ s < R.length ∧ R.length ≤ 1000 ∧
  ∀ v B' H', Up B H B' H' → Dt K B' v (.tuple (walkL R s)) → Q v H'
section
variable {P : Program} {w : World} {K : PySem.W.Frag} {mg : Str → Option Value} {base : Heap} {f : Addr} {fd : FuncData} {T : List Addr}
theorem ok_walkedD (BL : Blt mg) (F : L2.Fun K "walked" "walked" sWalked f fd) : FnOk P w K mg base CX0 1 f fd ["rows", "start"] (spWD K T) := by
  refine fn_any F scWalked (fun vs H Q E h => by rw [h.1]; rfl) fun cdv A outer s H vs Q E hr hcd h => ?_
  obtain ⟨hl, t0, B0, R, st, lr, kvs, rfl, l0, hr0, hrow0, hR, hs, hn, q0⟩ := h
  obtain ⟨B, lB0, l, t, up0⟩ := with_tables t0 l0
  have hBr := lB0.keep lr _ hr0 (fun _ z => by cases z)
  have hrow : ∀ k, (h : k < R.length) → ∃ v, valV kvs (Sum.inl (k : Int)) = some v ∧ Dt K B v (ndD R[k]) := fun k h => by
    obtain ⟨v, e1, e2⟩ := hrow0 k h
    exact ⟨v, e1, Dt.le lB0 e2⟩
  have q : ∀ v B' H', Up B H B' H' → Dt K B' v (.tuple (walkL R st)) → Q v H' := fun v B' H' u => q0 v B' H' (up0 u)
  have hu := hu64 hr
  have hu1 : (A.deeper (envOfC "walked" (defScope sWalked) s.heap.objs.size f cdv)).units + 1 < cLine := by omega
  refine wb_cons ⟨_, ps_set (i := 2) ndW rfl (by first | exact Or.inl rfl | exact Or.inr rfl) (pe_lst (pa_cons (pe_var (i := 1) rfl (by first | exact Or.inl rfl | exact Or.inr (Or.inl rfl) | exact Or.inr (Or.inr rfl))) pa_nil)) rfl (by first | exact Or.inl rfl | exact Or.inr rfl), ?_⟩
  refine ⟨_, rfl, by show 1 ≤ sizeLine; decide, fun lo hlo => ?_⟩
  refine wb_cons ⟨_, ps_set (i := 3) ndW rfl (by first | exact Or.inl rfl | exact Or.inr rfl) (pe_disp (pps_cons (pe_var (i := 1) rfl (by first | exact Or.inl rfl | exact Or.inr (Or.inl rfl) | exact Or.inr (Or.inr rfl))) pe_int pps_nil) (by rfl) (by rfl) (fun z => by cases z) (by decide)) rfl (by first | exact Or.inl rfl | exact Or.inr rfl), ?_⟩
  refine fun ld hld => ⟨_, rfl, upd_same, [(Sum.inl (st : Int), V.int 0)], rfl, by show 1 ≤ 15; decide, ?_⟩
  have hld0 : H ld = none := (Le.new hlo).there ld hld
  have hne : ld ≠ lo := fun z => by rw [z, upd_same] at hld; cases hld
  have lH : Le H (upd (upd (upd H lo (.lst [.int (st : Int)])) ld (.dK [])) ld (.dK (mergeK [] [(Sum.inl (st : Int), V.int 0)]))) := ((Le.new hlo).mut hld0).mut hld0
  have e1 : (upd (upd (upd H lo (.lst [.int (st : Int)])) ld (.dK [])) ld (.dK (mergeK [] [(Sum.inl (st : Int), V.int 0)]))) lo = some (.lst (iv [st])) := by
    rw [upd_ne (fun z => hne z.symm), upd_ne (fun z => hne z.symm)]
    exact upd_same
  have e2 : (upd (upd (upd H lo (.lst [.int (st : Int)])) ld (.dK [])) ld (.dK (mergeK [] [(Sum.inl (st : Int), V.int 0)]))) ld = some (.dK (kvF 0 [st])) := upd_same
  generalize upd (upd (upd H lo (.lst [.int (st : Int)])) ld (.dK [])) ld (.dK (mergeK [] [(Sum.inl (st : Int), V.int 0)])) = H0 at lH e1 e2 ⊢
  have hBo : B lo = none := l.there lo hlo
  have hBd : B ld = none := l.there ld hld0
  refine wb_cons (ws_set (i := 4) (B := B) (l.trans lH) ee_int (fun v B1 H1 u1 d1 => ?_) ndW)
  cases d1
  have e1 := u1.h.keep lo _ e1 (fun _ z => by cases z)
  have e2 := u1.h.keep ld _ e2 (fun _ z => by cases z)
  have lH := lH.trans u1.h
  clear u1
  show WB _ _ _ [some (.ref lr), some (.int (st : Int)), some (.ref lo), some (.ref ld), some (.int 0), none, none, none] H1
  have g0 : goodO R.length [st] := ⟨by simp, fun k hk => by rw [List.mem_singleton.mp hk]; exact hs⟩
  refine wb_cons ⟨_, ps_while PassesOwn.never pt_w pss_w, ?_⟩
  refine ⟨fun k σ' H' => ∃ (o : List Nat) (i : Nat) (a5 a6 : Option V), σ' = [some (.ref lr), some (.int (st : Int)), some (.ref lo), some (.ref ld), some (.int (i : Int)), a5, a6, none] ∧ k = R.length - i ∧ goodO R.length o ∧ i ≤ o.length ∧ bfs R (R.length - i) o i = walkO R st ∧ closedO R o i ∧ H' lo = some (.lst (iv o)) ∧ H' ld = some (.dK (kvF 0 o)) ∧ Le H H',
    ⟨R.length, [st], 0, none, none, rfl, rfl, g0, Nat.zero_le _, rfl, fun j k r hj => absurd hj (Nat.not_lt_zero _), e1, e2, lH⟩, ?_⟩
  rintro k σ' H' ⟨o, i, a5, a6, rfl, rfl, hg, hi, hW, hC, e1, e2, lH⟩
  have lB := l.trans lH
  have hlen := goodO_len hg
  refine (et_cmp op_lt rr_lt (ee_var (i := 4) rfl (.int _)) (ee_len BL (ee_var (i := 2) rfl (.new_lst e1 (ds_iv o))) rfl fun x z => by cases z)) H' (Le.refl _) _ fun H2 l2 => ?_
  have e1 := l2.keep lo _ e1 (fun _ z => by cases z)
  have e2 := l2.keep ld _ e2 (fun _ z => by cases z)
  have lH := lH.trans l2
  have lB := lB.trans l2
  clear l2
  have eL : (idD o).length = o.length := List.length_map _
  rw [eL]
  by_cases hlt : i < o.length
  · rw [decide_eq_true (show (i : Int) < (o.length : Int) by omega)]
    refine (if_pos rfl).mpr ?_
    have hk : o[i]? = some o[i] := List.getElem?_eq_getElem hlt
    have hkR : o[i] < R.length := hg.2 _ (List.getElem_mem hlt)
    have hRk : R[o[i]]? = some R[o[i]] := List.getElem?_eq_getElem hkR
    obtain ⟨ra, rb⟩ := hR _ (List.getElem_mem hkR)
    obtain ⟨fu, hfu⟩ : ∃ fu, R.length - i = fu + 1 := ⟨R.length - i - 1, by omega⟩
    have hfu2 : R.length - (i + 1) = fu := by omega
    rw [hfu, bfs_step hk hRk] at hW
    have hat := at_nd hkR
    obtain ⟨rv, hrv, hdr⟩ := hrow _ hkR
    generalize hrE : R[o[i]] = r at ra rb hRk hW hat hdr
    refine ⟨fun σ2 H5 => ∃ (o' : List Nat) (a5 a6 : Option V), σ2 = [some (.ref lr), some (.int (st : Int)), some (.ref lo), some (.ref ld), some (.int ((i + 1 : Nat) : Int)), a5, a6, none] ∧ goodO R.length o' ∧ i + 1 ≤ o'.length ∧ bfs R fu o' (i + 1) = walkO R st ∧ closedO R o' (i + 1) ∧ H5 lo = some (.lst (iv o')) ∧ H5 ld = some (.dK (kvF 0 o')) ∧ Le H H5,
      fun σ2 H5 ⟨o', a5, a6, z1, z2, z3, z4, zc, z5, z6, z7⟩ => ⟨R.length - (i + 1), by omega, o', i + 1, a5, a6, z1, rfl, z2, z3, by rw [hfu2]; exact z4, zc, z5, z6, z7⟩, ?_⟩
    refine wb_cons ⟨_, ps_set (i := 5) ndW rfl (by first | exact Or.inl rfl | exact Or.inr rfl) pe_w rfl (by first | exact Or.inl rfl | exact Or.inr rfl), ixD (i := 0) (B := B) (Hf := H2) hu1 rfl hBr (ee_ix ix_list (rr_ixL (at_id hk)) (ee_var (i := 2) rfl (.new_lst e1 (ds_iv o))) (ee_var (i := 4) rfl (.int _))) hrv hdr lB (Le.refl _) fun v B3 H3 u3 dv => ?_⟩
    have b3o := up_none u3 hBo e1 (fun _ z => by cases z)
    have b3d := up_none u3 hBd e2 (fun _ z => by cases z)
    have e1 := u3.h.keep lo _ e1 (fun _ z => by cases z)
    have e2 := u3.h.keep ld _ e2 (fun _ z => by cases z)
    have lH := lH.trans u3.h
    show WB _ _ _ [some (.ref lr), some (.int (st : Int)), some (.ref lo), some (.ref ld), some (.int (i : Int)), some v, a6, none] H3
    refine wb_cons (ws_for (B := B3) (ds := [.int (r.2.1 : Int), .int (r.2.2 : Int)]) (tjs := [6]) (pat := patN) u3.s (ei_tup ((ee_cut (ee_var (i := 5) rfl dv) (eo_some ee_int) eo_no).cast (by
        show PyData.tuple (cutD [r.1, .int (r.2.1 : Int), .int (r.2.2 : Int)] (some ((1 : Nat) : Int)) none) = _
        rw [cutD_drop (by show 1 ≤ 3; decide)]
        rfl))) (eg_name ndW) (fun d hd => ⟨[d], rfl⟩) PassesOwn.never rfl
      (fun j σ' B' H' => ∃ a6, σ' = [some (.ref lr), some (.int (st : Int)), some (.ref lo), some (.ref ld), some (.int (i : Int)), some v, a6, none] ∧ Le B B' ∧ B' lo = none ∧ B' ld = none ∧ goodO R.length (([r.2.1, r.2.2].take j).foldl addG o) ∧ H' lo = some (.lst (iv (([r.2.1, r.2.2].take j).foldl addG o))) ∧ H' ld = some (.dK (kvF 0 (([r.2.1, r.2.2].take j).foldl addG o))) ∧ Le H H')
      (fun B' H' u => ⟨a6, rfl, u3.b.trans u.b, up_none u b3o e1 (fun _ z => by cases z), up_none u b3d e2 (fun _ z => by cases z), hg, u.h.keep lo _ e1 (fun _ z => by cases z), u.h.keep ld _ e2 (fun _ z => by cases z), lH.trans u.h⟩) (fun j d es us σ' B' H' B'' H'' hj hd' lb hI u4 hpat dus N hN => ?_) fun σ' B' H' lb ls hI => ?_)
    · obtain ⟨a6, rfl, lB', b1, b2, gj, f1, f2, lHj⟩ := hI
      cases hpat
      obtain ⟨y, rfl, hy⟩ := ds1 (K := K) dus
      obtain ⟨g, rfl, hgn, hadd⟩ : ∃ g : Nat, d = .int (g : Int) ∧ g < R.length ∧ ([r.2.1, r.2.2].take (j + 1)).foldl addG o = addG (([r.2.1, r.2.2].take j).foldl addG o) g := by
        match j, hd' with
        | 0, hd' => cases hd'; exact ⟨r.2.1, rfl, ra, rfl⟩
        | 1, hd' => cases hd'; exact ⟨r.2.2, rfl, rb, rfl⟩
      cases hy
      have c1 := up_none u4 b1 f1 (fun _ z => by cases z)
      have c2 := up_none u4 b2 f2 (fun _ z => by cases z)
      have f1 := u4.h.keep lo _ f1 (fun _ z => by cases z)
      have f2 := u4.h.keep ld _ f2 (fun _ z => by cases z)
      have lHj := lHj.trans u4.h
      have lB'' := lB'.trans u4.b
      have gl := goodO_len gj
      generalize hoE : ([r.2.1, r.2.2].take j).foldl addG o = oj at gj f1 f2 hadd gl
      show WB _ _ _ [some (.ref lr), some (.int (st : Int)), some (.ref lo), some (.ref ld), some (.int (i : Int)), some v, some (.int (g : Int)), none] H''
      refine wb_one ⟨_, ps_if (pt_cmp (pc_dnotin hu1 (pe_var (i := 6) rfl (by first | exact Or.inl rfl | exact Or.inr (Or.inl rfl) | exact Or.inr (Or.inr rfl))) (pe_var (i := 3) rfl (by first | exact Or.inl rfl | exact Or.inr (Or.inl rfl) | exact Or.inr (Or.inr rfl))))) (pss_cons (ps_dput hu1 (pe_var (i := 3) rfl (by first | exact Or.inl rfl | exact Or.inr (Or.inl rfl) | exact Or.inr (Or.inr rfl))) (pe_var (i := 6) rfl (by first | exact Or.inl rfl | exact Or.inr (Or.inl rfl) | exact Or.inr (Or.inr rfl))) pe_w rfl) (pss_one (ps_expr (pe_bm PySem.F.plainAttrs_list PySem.F.slot_list_append PySem.F.type_list_append mt_append (pe_var (i := 2) rfl (by first | exact Or.inl rfl | exact Or.inr (Or.inl rfl) | exact Or.inr (Or.inr rfl))) (pa_cons (pe_var (i := 6) rfl (by first | exact Or.inl rfl | exact Or.inr (Or.inl rfl) | exact Or.inr (Or.inr rfl))) pa_nil))))) pss_nil, ?_⟩
      refine ⟨_, rfl, _, rfl, ld, _, rfl, DGet.k (k := Sum.inl (g : Int)) f2, _, rfl, ?_⟩
      rw [kvF_val]
      by_cases hm : g ∈ oj
      · rw [if_pos hm]
        refine hN _ B'' H'' (Le.refl _) u4.s ⟨some (.int (g : Int)), rfl, lB'', c1, c2, ?_⟩
        rw [hadd, show addG oj g = oj from if_pos hm]
        exact ⟨gj, f1, f2, lHj⟩
      · rw [if_neg hm]
        refine (ee_len BL (ee_var (i := 2) rfl (.new_lst f1 (ds_iv oj))) rfl fun x z => by cases z) H'' (Le.refl _) _ fun x B6 H6 u6 dx => ?_
        cases dx
        have f1 := u6.h.keep lo _ f1 (fun _ z => by cases z)
        have f2 := u6.h.keep ld _ f2 (fun _ z => by cases z)
        refine ⟨_, rfl, _, rfl, ld, _, rfl, DPut.k (k := Sum.inl (g : Int)) f2 (by rw [kvF_len]; exact Nat.lt_of_le_of_lt (show oj.length ≤ 1000 by omega) (by decide)), ?_⟩
        have g1 : (upd H6 ld (.dK (putK (kvF 0 oj) (Sum.inl (g : Int)) (.int ((idD oj).length : Int))))) lo = some (.lst (iv oj)) := by rw [upd_ne (fun z => hne z.symm)]; exact f1
        refine ⟨_, rfl, .inl ⟨rfl, _, SqL.of g1⟩, _, rfl, lo, iv oj, .int (g : Int), rfl, rfl, g1, by rw [iv, List.length_map]; exact Nat.lt_of_le_of_lt (show oj.length ≤ 1000 by omega) (by decide), ?_⟩
        have lHk := ((lHj.trans u6.h).mut hld0 (o := .dK (putK (kvF 0 oj) (Sum.inl (g : Int)) (.int ((idD oj).length : Int))))).mut hlo (o := .lst (iv oj ++ [.int (g : Int)]))
        have lBk : Le B'' (upd (upd H6 ld (.dK (putK (kvF 0 oj) (Sum.inl (g : Int)) (.int ((idD oj).length : Int))))) lo (.lst (iv oj ++ [.int (g : Int)]))) := ((u4.s.trans u6.h).mut c2).mut c1
        refine hN _ B'' _ (Le.refl _) lBk ⟨some (.int (g : Int)), rfl, lB'', c1, c2, ?_⟩
        rw [hadd]
        refine ⟨goodO_add gj hgn, ?_, ?_, lHk⟩
        · rw [show addG oj g = oj ++ [g] from if_neg hm, iv_app]
          exact upd_same
        · rw [show addG oj g = oj ++ [g] from if_neg hm, upd_ne hne]
          rw [← kvF_put hm, idD, List.length_map]
          exact upd_same
    · obtain ⟨a6, rfl, lB', b1, b2, gj, f1, f2, lHj⟩ := hI
      have ej : ([r.2.1, r.2.2].take ([PyData.int (r.2.1 : Int), .int (r.2.2 : Int)] : List PyData).length).foldl addG o = addG (addG o r.2.1) r.2.2 := rfl
      rw [ej] at gj f1 f2
      have hlen2 : i + 1 ≤ (addG (addG o r.2.1) r.2.2).length := Nat.le_trans hlt (addG_pre.trans addG_pre).length_le
      refine wb_one ⟨_, ps_aug (i := 4) ndW rfl (by first | exact Or.inl rfl | exact Or.inr rfl) pe_int ip_add, ?_⟩
      exact ⟨_, rfl, (i : Int), 1, rfl, rfl, addG (addG o r.2.1) r.2.2, some v, a6, rfl, gj, hlen2, hW, closed_step hC hk hRk, f1, f2, lHj⟩
  · rw [decide_eq_false (show ¬ (i : Int) < (o.length : Int) by omega)]
    refine (if_neg (by decide)).mpr ?_
    have hio : i = o.length := by omega
    subst hio
    rw [bfs_end] at hW
    have hu1 : (A.deeper (envOfC "walked" (defScope sWalked) s.heap.objs.size f cdv)).units + 1 < cLine := by omega
    have lF := (lB.add e1 (fun _ z => by cases z)).add e2 (fun _ z => by cases z)
    have hFd : (upd (upd B lo (.lst (iv o))) ld (.dK (kvF 0 o))) ld = some (.dK (kvF 0 o)) := upd_same
    have hFo : (upd (upd B lo (.lst (iv o))) ld (.dK (kvF 0 o))) lo = some (.lst (iv o)) := by rw [upd_ne fun z => hne z.symm]; exact upd_same
    have lBF : Le B (upd (upd B lo (.lst (iv o))) ld (.dK (kvF 0 o))) := (Le.new hBo).trans (Le.new (by rw [upd_ne hne]; exact hBd))
    have hcl : ∀ k ∈ o, ∀ r, R[k]? = some r → r.2.1 ∈ o ∧ r.2.2 ∈ o := fun k hk r hr => by
      obtain ⟨j, hj, e⟩ := List.mem_iff_getElem.mp hk
      exact hC j k r hj (by rw [List.getElem?_eq_getElem hj, e]) hr
    have key : ((idD o).filter fun _ => true).map (fun d => renum R o (natD d)) = walkL R st := by
      unfold walkL
      rw [← hW, List.filter_eq_self.mpr fun _ _ => rfl, idD, List.map_map]
      rfl
    generalize hBF : upd (upd B lo (.lst (iv o))) ld (.dK (kvF 0 o)) = BF at lF hFd hFo lBF
    refine wb_one (ws_ret (B := BF) (d := .tuple (walkL R st)) lF (ee_tuple BL (ds := walkL R st) ((ee_lc (own := [("node", 7)]) (tjs := [7]) (pat := patN) (fun _ => true) (fun d => renum R o (natD d)) rfl ndW (ei_lst (ee_var (i := 2) rfl (.new_lst hFo (ds_iv o))))
      (blkOk_by (show blkC NW (defScope sWalked) _ [("node", 7)] = true by decide +kernel)) (fun s H C cl fp => eg_name ndW) (fun d hd => ⟨[d], rfl, rfl⟩) (fun vs hv => ?_) (fun B' d es vs lb hd he hv s H C cl fp => ets_nil) (fun B' d es vs lb hd hb he hv s H C cl fp => ?_) ?_).cast (congrArg PyData.list key))) fun v B' H' u dv => q v B' H' ?_ ?_)
    · match vs, hv with
      | [a], _ => rfl
    · obtain ⟨k, hk, rfl⟩ := List.mem_map.mp hd
      cases he
      obtain ⟨y, rfl, hy⟩ := ds1 (K := K) hv
      cases hy
      have hkR := hg.2 k hk
      have hRk : R[k]? = some R[k] := List.getElem?_eq_getElem hkR
      obtain ⟨m1, m2⟩ := hcl k hk _ hRk
      obtain ⟨rv, hrv, hdr⟩ := hrow k hkR
      have e0 : renum R o (natD (.int (k : Int))) = .tuple [R[k].1, .int (o.idxOf R[k].2.1 : Nat), .int (o.idxOf R[k].2.2 : Nat)] := by
        show renum R o k = _
        unfold renum
        rw [hRk]
      rw [e0]
      have hd2 := lb.keep ld _ hFd (fun _ z => by cases z)
      have hnd : ∀ {X : Cx} {σ : L2.St} {p1 p2 p3 : Pos}, True := fun {X σ p1 p2 p3} => trivial
      refine ee_tup (ea_cons (ee_ix ix_tup (rr_ixT at0) (ee_dgetR (i := 0) hu1 rfl ((lBF.trans lb).keep lr _ hBr (fun _ z => by cases z)) (ee_var (i := 7) rfl (.int _)) hrv (Dt.le (lBF.trans lb) hdr)) ee_int) (ea_cons (ee_dget (i := 3) (n := (R[k].2.1 : Int)) hu1 rfl hd2 (ee_ix ix_tup (rr_ixT (atI_nat (j := 1) rfl)) (ee_dgetR (i := 0) hu1 rfl ((lBF.trans lb).keep lr _ hBr (fun _ z => by cases z)) (ee_var (i := 7) rfl (.int _)) hrv (Dt.le (lBF.trans lb) hdr)) ee_int) ?_ fun H => .int _) (ea_cons (ee_dget (i := 3) (n := (R[k].2.2 : Int)) hu1 rfl hd2 (ee_ix ix_tup (rr_ixT (atI_nat (j := 2) rfl)) (ee_dgetR (i := 0) hu1 rfl ((lBF.trans lb).keep lr _ hBr (fun _ z => by cases z)) (ee_var (i := 7) rfl (.int _)) hrv (Dt.le (lBF.trans lb) hdr)) ee_int) ?_ fun H => .int _) ea_nil))) (by show 3 ≤ sizeLine; decide)
      · rw [kvF_val, if_pos m1, Nat.zero_add]
      · rw [kvF_val, if_pos m2, Nat.zero_add]
    · unfold idD
      rw [List.length_map]
      exact Nat.lt_of_le_of_lt (show o.length ≤ 1000 by omega) (by decide)
    · refine ⟨lH.trans u.h, lBF.trans u.b, u.s, fun a ha => ?_⟩
      rcases u.n a ha with z | z | z
      · rw [← hBF] at z
        by_cases y : a = ld
        · rw [y]; exact .inr (.inl hld0)
        rw [upd_ne y] at z
        by_cases x : a = lo
        · rw [x]; exact .inr (.inl hlo)
        rw [upd_ne x] at z
        exact .inl z
      · exact .inr (.inl (lH.there a z))
      · obtain ⟨⟨ps, z⟩, nz⟩ := z
        rcases tbl_back lH z with y | y
        · exact .inr (.inl y)
        · exact .inr (.inr ⟨y, nz⟩)
    · exact dv
end
end K0


set_option Elab.async false
set_option linter.all false
set_option maxRecDepth 100000
set_option maxHeartbeats 4000000
/-! S3: least_rows. -/
namespace Tk
open PySem PySem.Spec PyProof.Rows L2 GxR Gx
variable [LamTab]
/-- a, (b, ..) -/
def patP (n : Nat) : PyData → Option (List PyData)
  | .tuple [a, .tuple xs] => if xs.length = n then some (a :: xs) else none
  | _ => none
theorem patP_some {n : Nat} {d : PyData} {es : List PyData} (h : patP n d = some es) : ∃ a xs, d = .tuple [a, .tuple xs] ∧ xs.length = n ∧ es = a :: xs := by
  unfold patP at h
  split at h
  · rename_i a xs
    by_cases z : xs.length = n
    · rw [if_pos z] at h
      exact ⟨a, xs, rfl, z, (Option.some.inj h).symm⟩
    · rw [if_neg z] at h
      cases h
  · cases h
theorem eg_pair {X : Cx} {x : Str} {px p2 pos : Pos} {j k k2 : Nat} {es : List Expr} {tjs : List Nat} (hc : X.calm = true) (nd : X.N.Nodup) (h : SetsTo X es tjs) (hN : X.N[j]? = some x := by rfl) (hx : L2.Loc X.env.scope x := by first | exact Or.inl rfl | exact Or.inr rfl)
    (hf : X.fn x = true ∨ X.env.scope.names.lookup x = some .local := by first | exact Or.inl rfl | exact Or.inr rfl)
    (h1 : (assignEach es X.env).length = tjs.length := by rfl) (h2 : (assignEach es X.env).findIdx? (fun x => x.1) = none := by rfl)
    (a1 : (assignEach [.Name x px, .Tuple es k2 p2] X.env).map (·.2) = assign (.Name x px) X.env :: (assignEach [.Tuple es k2 p2] X.env).map (·.2) := by rfl) (a2 : (assignEach [.Tuple es k2 p2] X.env).map (·.2) = assign (.Tuple es k2 p2) X.env :: (assignEach [] X.env).map (·.2) := by rfl)
    (b1 : (assignEach [.Name x px, .Tuple es k2 p2] X.env).length = 2 := by rfl) (b2 : (assignEach [.Name x px, .Tuple es k2 p2] X.env).findIdx? (fun x => x.1) = none := by rfl) :
    EG X (.Tuple [.Name x px, .Tuple es k2 p2] k pos) (j :: tjs) (patP tjs.length) := fun v d es' σ B H l dv hp Q q => by
  obtain ⟨a, xs, rfl, hl, rfl⟩ := patP_some hp
  obtain ⟨t, g1, g2⟩ := h
  cases dv with
  | tup s ty h0 =>
    cases h0 with
    | cons da h0 =>
      cases h0 with
      | cons db h0 =>
        cases h0
        cases db with
        | tup s2 ty2 h3 =>
          exact ⟨_, pg_tup hc (pgs_cons (pg_name nd hN hx hf) (pgs_cons (pg_tup hc g1 h1 h2) pgs_nil a2) a1) b1 b2, _, _, rfl, sqT_le l s, rfl, _, _, rfl, _, _, rfl, ⟨_, _, rfl, sqT_le l s2, by rw [h3.length, hl], g2 _ _ _ _ (by rw [h3.length, hl]) ⟨rfl, q _ (.cons da h3)⟩⟩⟩
/-- x is None, of what is a list -/
theorem et_isL {X : Cx} {σ : L2.St} {B : Hp} {i : Nat} {x : Str} {a : Addr} {k : Nat} {p pos pos' : Pos} (hσ : σ[i]? = some (some (.ref a))) (hN : X.N[i]? = some x := by rfl) (hv : Vis X.env.scope x := by first | exact Or.inl rfl | exact Or.inr (Or.inl rfl) | exact Or.inr (Or.inr rfl))
    (hdb : (x == ("__debug__" : Str)) = false := by decide) (hcd : (x == ("__classdict__" : Str)) = false := by decide) : ET X (.Compare (.Name x p) [.Is] [.Constant .none k pos'] pos) σ B false := fun H1 l Q q => by
  refine ⟨_, pt_cmp (pc_isN (pe_var hN hv hdb hcd)), ?_⟩
  refine ⟨_, hσ, ?_⟩
  exact ⟨_, rfl, q H1 (Le.refl _)⟩
end Tk
namespace K0
open PySem PySem.Spec PyProof.Rows L2 GxR Tk
variable [LamTab]
theorem walkN_lt {R : List Nd} {s : Nat} (kR : rowsOk R) (hs : s < R.length) (ok : ltOk R) : ltOk (walkN R s) := fun r hr => by
  obtain ⟨k, hk, rfl⟩ := List.mem_map.mp hr
  exact lt_of ok ((walkO_facts kR hs).1.2 k hk)
theorem walkN_pos {R : List Nd} {s : Nat} (kR : rowsOk R) (hs : s < R.length) : 0 < (walkN R s).length := by
  have := (walkO_facts kR hs).2.2
  have := (List.getElem?_eq_some_iff.mp this).1
  rw [walkN_len]
  exact this
theorem walkN_le {R : List Nd} {s : Nat} (kR : rowsOk R) (hs : s < R.length) : (walkN R s).length ≤ R.length := by
  rw [walkN_len]
  exact goodO_len (walkO_facts kR hs).1
/-- the rows of the lots, in the dict, of the first i rows -/
structure FW (K : PySem.W.Frag) (B : Hp) (W : List Nd) (L : List Nat) (kvs : List (Key × V)) (i : Nat) : Prop where
  len : kvs.length ≤ i
  at_ : ∀ x, x < i → ∃ v, valV kvs (Sum.inl ((gL L x : Nat) : Int)) = some v ∧ Dt K B v (ndD (lotR W L (gL L x)))
  no : ∀ j : Nat, (∀ x, x < i → gL L x ≠ j) → valV kvs (Sum.inl (j : Int)) = none
theorem FW.le {K : PySem.W.Frag} {B B' : Hp} {W : List Nd} {L : List Nat} {kvs : List (Key × V)} {i : Nat} (l : Le B B') (h : FW K B W L kvs i) : FW K B' W L kvs i := ⟨h.len, fun x hx => by
  obtain ⟨v, e1, e2⟩ := h.at_ x hx
  exact ⟨v, e1, Dt.le l e2⟩, h.no⟩
theorem FW.nil {K : PySem.W.Frag} {B : Hp} {W : List Nd} {L : List Nat} : FW K B W L [] 0 := ⟨Nat.le_refl _, fun x hx => absurd hx (Nat.not_lt_zero _), fun _ _ => rfl⟩
theorem FW.seen {K : PySem.W.Frag} {B : Hp} {W : List Nd} {L : List Nat} {kvs : List (Key × V)} {i : Nat} {v : V} (h : FW K B W L kvs i) (e : valV kvs (Sum.inl ((gL L i : Nat) : Int)) = some v) : FW K B W L kvs (i + 1) := by
  have hx : ∃ x, x < i ∧ gL L x = gL L i := Decidable.byContradiction fun z => by
    rw [h.no _ fun x hx y => z ⟨x, hx, y⟩] at e
    cases e
  obtain ⟨x, hx, ex⟩ := hx
  refine ⟨by have := h.len; omega, fun y hy => ?_, fun j hj => h.no j fun y hy => hj y (by omega)⟩
  by_cases z : y = i
  · subst z
    rw [← ex]
    exact h.at_ x hx
  · exact h.at_ y (by omega)
theorem putK_len {kvs : List (Key × V)} {k : Key} {v : V} : (putK kvs k v).length ≤ kvs.length + 1 := by
  have := length_putK kvs k v
  omega
theorem idx_first {L : List Nat} {i : Nat} (hi : i < L.length) (h : ∀ x, x < i → gL L x ≠ gL L i) : L.idxOf (gL L i) = i := by
  have m : gL L i ∈ L := List.mem_of_getElem? (gL_at hi)
  have h1 := List.idxOf_lt_length_of_mem m
  have h2 := gL_at h1
  rw [List.getElem?_eq_getElem h1, List.getElem_idxOf h1] at h2
  have e := Option.some.inj h2
  apply Decidable.byContradiction
  intro z
  by_cases q : L.idxOf (gL L i) < i
  · exact h _ q e.symm
  · -- the first place is not behind i
    have : ¬ i < L.idxOf (gL L i) := fun y => by
      have := List.not_of_lt_findIdx (p := (· == gL L i)) (xs := L) (i := i) y
      rw [show L[i] = gL L i from by have := gL_at hi; rw [List.getElem?_eq_getElem hi] at this; exact Option.some.inj this] at this
      simp at this
    omega
theorem FW.put {K : PySem.W.Frag} {B : Hp} {W : List Nd} {L : List Nat} {kvs : List (Key × V)} {i : Nat} {v : V} (h : FW K B W L kvs i) (hi : i < L.length) (e : valV kvs (Sum.inl ((gL L i : Nat) : Int)) = none) (hv : Dt K B v (.tuple [lt1 W i, .int ((gL L (gow W i 0) : Nat) : Int), .int ((gL L (gow W i 1) : Nat) : Int)])) : FW K B W L (putK kvs (Sum.inl ((gL L i : Nat) : Int)) v) (i + 1) := by
  have hn : ∀ x, x < i → gL L x ≠ gL L i := fun x hx y => by
    obtain ⟨u, e1, _⟩ := h.at_ x hx
    rw [y, e] at e1
    cases e1
  have ix := idx_first hi hn
  have inj : ∀ {a b : Nat}, (Sum.inl (a : Int) : Key) = Sum.inl (b : Int) ↔ a = b := fun {a b} => ⟨fun z => by have := Sum.inl.inj z; omega, fun z => by rw [z]⟩
  refine ⟨Nat.le_trans putK_len (by have := h.len; omega), fun y hy => ?_, fun j hj => ?_⟩
  · rw [valV_put]
    by_cases z : gL L y = gL L i
    · rw [if_pos (inj.mpr z), z]
      refine ⟨v, rfl, ?_⟩
      show Dt K B v (.tuple [lt1 W (L.idxOf (gL L i)), .int ((gL L (gow W (L.idxOf (gL L i)) 0) : Nat) : Int), .int ((gL L (gow W (L.idxOf (gL L i)) 1) : Nat) : Int)])
      rw [ix]
      exact hv
    · rw [if_neg fun q => z (inj.mp q)]
      exact h.at_ y (by
        have : y ≠ i := fun q => z (by rw [q])
        omega)
  · rw [valV_put, if_neg fun q => hj i (Nat.lt_succ_self _) (inj.mp q).symm]
    exact h.no j fun x hx => hj x (by omega)
end K0


set_option Elab.async false
set_option linter.all false
set_option maxRecDepth 100000
set_option maxHeartbeats 4000000
/-! S4: least_rows, least. -/
namespace K0
open PySem PySem.Spec PyProof.Rows L2 GxR Tk
variable [LamTab]
abbrev sLr : Stmt := t_least_rows
abbrev sLst : Stmt := t_least
def NLr : List Str := ["rows", "most", "kept", "lots", "fewer", "at", "letter", "left", "right"]
theorem scLr : FnScope NLr ["rows", "most"] (defScope sLr) := ⟨rfl, rfl, rfl, by decide +kernel, rfl, by decide +kernel, by decide +kernel⟩
theorem ndLr : List.Nodup NLr := by decide +kernel
noncomputable def lrF : List PyData → PyData
  | [.tuple rs, _] => .tuple (canL (rs.map ndOf) 0)
  | _ => .none
section
variable {P : Program} {w : World} {K : PySem.W.Frag} {mg : Str → Option Value} {base : Heap} {f : Addr} {fd : FuncData} {T : List Addr}
theorem ee_walkD {X : Cx} {b : Expr} {σ : L2.St} {B : Hp} {R : List Nd} {lr : Addr} {st : Nat} {kvs : List (Key × V)} {i j : Nat} {y : Str} {p p2 pos : Pos} (F : Kn P w K mg base 1 "walked" ["rows", "start"] (spWD K T)) (hr : Room j X.A) (hk : 1 ≤ j) (t : Tbs T B) (hσ : σ[i]? = some (some (.ref lr))) (hB : B lr = some (.dK kvs))
    (hrow : ∀ k, (h : k < R.length) → ∃ v, valV kvs (Sum.inl (k : Int)) = some v ∧ Dt K B v (ndD R[k])) (hR : rowsOk R) (hs : st < R.length) (hn : R.length ≤ 1000) (hb : EE X b σ B (.int (st : Int)))
    (eP : X.prog = P := by rfl) (ew : X.w = w := by rfl) (eK : X.K = K := by rfl) (em : X.mg = mg := by rfl) (eb : X.base = base := by rfl) (hg : Gl X "walked" := by rfl) (hN : X.N[i]? = some y := by rfl) (hv : Vis X.env.scope y := by first | exact Or.inl rfl | exact Or.inr (Or.inl rfl) | exact Or.inr (Or.inr rfl)) (hdb : (y == ("__debug__" : Str)) = false := by decide) (hcd : (y == ("__classdict__" : Str)) = false := by decide)
    (he : starEach [.Name y p2, b] X.env = (false, eval (.Name y p2) X.env) :: starEach [b] X.env := by rfl) (he2 : starEach [b] X.env = (false, eval b X.env) :: starEach [] X.env := by rfl) (hpl : (backTo pos (starEach [b] X.env)).any (·.1) = false := by rfl) : EE X (.Call (.Name "walked" p) [.Name y p2, b] [] pos) σ B (.tuple (walkL R st)) := fun H1 l Q q => by
  subst eP ew eK em eb
  obtain ⟨fa, fd, m1, m2, G, bi⟩ := F.ex
  refine ⟨_, pe_call (E := L2.E0) G (hr.mono hk) hg m1 m2 bi .nil pass0 (pa_cons (pe_var hN hv hdb hcd) (pa_cons pe_w pa_nil he2) he) (by decide) he hpl, ?_⟩
  refine ⟨_, hσ, hb H1 l _ fun v B2 H2 u2 dv => ?_⟩
  cases dv
  exact (⟨rfl, (t.le l).le u2.h, B2, R, st, lr, kvs, rfl, u2.s, u2.b.keep lr _ hB (fun _ z => by cases z), fun k h => by
    obtain ⟨v, e1, e2⟩ := hrow k h
    exact ⟨v, e1, Dt.le u2.b e2⟩, hR, hs, hn, fun v B3 H3 u3 d3 => q v B3 H3 (u2.trans u3) d3⟩ : spWD X.K T [.ref lr, .int (st : Int)] H2 Q _)
theorem ok_lr (BL : Blt mg) (Fw : Kn P w K mg base 1 "walked" ["rows", "start"] (spF K T 2 walkP walkF)) (Fd : Kn P w K mg base 1 "walked" ["rows", "start"] (spWD K T)) (Fs : Kn P w K mg base 1 "sorted_out" ["rows", "most"] (spF K T 2 srtP srtF))
    (F : L2.Fun K "least_rows" "least_rows" sLr f fd) : FnOk P w K mg base CX0 2 f fd ["rows", "most"] (spF K T 2 srtP lrF) := by
  refine fn_pure F scLr rfl fun cdv A outer s H vs B ds Q E hr hcd t l hd hl hp q => ?_
  obtain ⟨R, m, rfl, hR, hO, h0, hle, hm⟩ := hp
  obtain ⟨v1, v2, rfl, h1, h2⟩ := ds2 hd
  cases h2
  have hu := hu64 hr
  have hu1 : (A.deeper (envOfC "least_rows" (defScope sLr) s.heap.objs.size f cdv)).units + 1 < cLine := by omega
  refine wb_cons (ws_set (i := 2) (d := .tuple ((walkN R 0).map ndD)) l (ee_call (f := walkF) (ds := [.tuple (R.map ndD), .int ((0 : Nat) : Int)]) Fw hr (by decide) t (ea_cons (ee_var (i := 0) rfl h1) (ea_cons ee_int ea_nil)) ⟨R, 0, rfl, hR, h0, by omega⟩ (by
    show PyData.tuple (walkL ((R.map ndD).map ndOf) 0) = _
    rw [ndOf_map, walkL_N hR h0])) (fun vK B1 H1 u1 dK => ?_) ndLr)
  have kW := walkN_ok hR h0
  have oW := walkN_lt hR h0 hO
  have pW := walkN_pos hR h0
  have nW := walkN_le hR h0
  have bW := walkN_root hR h0
  generalize walkN R 0 = W at dK kW oW pW nW bW
  refine wb_cons (ws_set (i := 3) (B := B1) (d := .list (idD (sortedL W))) u1.s (ee_call (f := srtF) (ds := [.tuple (W.map ndD), .int (m : Int)]) Fs hr (by decide) (t.le u1.b) (ea_cons (ee_var (i := 2) rfl dK) (ea_cons (ee_var (i := 1) rfl (.int _)) ea_nil)) ⟨W, m, rfl, kW, oW, pW, by omega, hm⟩ (by
    show PyData.list (idD (sortedL ((W.map ndD).map ndOf))) = _
    rw [ndOf_map])) (fun vL B2 H2 u2 dL => ?_) ndLr)
  obtain ⟨M, G⟩ := sorted_good kW oW pW
  generalize sortedL W = L at dL G
  have lL := G.cls.len
  have dK := Dt.le u2.b dK
  have u0 := u1.trans u2
  clear u1 u2
  obtain ⟨aL, rfl⟩ : ∃ a, vL = V.ref a := by
    have h := dL
    cases h
    exact ⟨_, rfl⟩
  show WB _ _ _ [some v1, some (.int (m : Int)), some vK, some (.ref aL), none, none, none, none, none] H2
  refine wb_cons (ws_if (B := B2) (k := false) u0.s (et_isL (i := 3) rfl) (fun e => by cases e) fun e H3 l3 => wb_nil ?_)
  have u0 := u0.tab l3
  clear l3
  refine wb_cons ⟨_, ps_set (i := 4) ndLr rfl (by first | exact Or.inl rfl | exact Or.inr rfl) pe_dnewK rfl (by first | exact Or.inl rfl | exact Or.inr rfl), ?_⟩
  refine fun p hp => ?_
  have hpH : H p = none := u0.h.there p hp
  have hpB : B2 p = none := u0.s.there p hp
  have e1 : (upd H3 p (.dK [])) p = some (.dK []) := upd_same
  have u0 := up_mut u0 hpH hpB (o := .dK [])
  show WB _ _ _ [some v1, some (.int (m : Int)), some vK, some (.ref aL), some (.ref p), none, none, none, none] (upd H3 p (.dK []))
  generalize upd H3 p (.dK []) = H4 at u0 e1 ⊢
  refine wb_cons (ws_for (B := B2) (ds := nums 0 (W.map ndD)) (tjs := [5, 6, 7, 8]) (pat := patP 3) u0.s (ei_enumT BL.enumerate (ee_var (i := 2) rfl dK)) (eg_pair (j := 5) rfl ndLr (st_cons (st_cons (st_cons st_nil ndLr) ndLr) ndLr)) (fun d hd => ?_) PassesOwn.never rfl
    (fun i σ' B' H' => ∃ a5 a6 a7 a8 kvs, σ' = [some v1, some (.int (m : Int)), some vK, some (.ref aL), some (.ref p), a5, a6, a7, a8] ∧ Le B2 B' ∧ B' p = none ∧ H' p = some (.dK kvs) ∧ FW K B' W L kvs i ∧ Up B H B' H')
    (fun B' H' u => ⟨none, none, none, none, [], rfl, u.b, up_none u hpB e1 (fun _ z => by cases z), u.h.keep p _ e1 (fun _ z => by cases z), FW.nil, u0.trans u⟩) (fun i d es us σ' B6 H6 B7 H7 hi hd' lb hI u7 hpat dus N hN => ?_) fun σ' B6 H6 lb ls hI => ?_)
  · obtain ⟨x, hx, e⟩ := List.mem_iff_getElem.mp hd
    have hx2 : x < W.length := by rw [nums_len, List.length_map] at hx; exact hx
    have := nums_at hx2
    rw [List.getElem?_eq_getElem hx, e] at this
    rw [Option.some.inj this]
    exact ⟨_, rfl⟩
  · obtain ⟨a5, a6, a7, a8, kvs, rfl, lB, hpB6, g1, fw, u6⟩ := hI
    have hiW : i < W.length := by rw [nums_len, List.length_map] at hi; exact hi
    have hd2 : d = .tuple [.int (Int.ofNat i), ndD W[i]] := by
      rw [nums_at hiW] at hd'
      exact (Option.some.inj hd').symm
    subst hd2
    have hes : es = [.int (Int.ofNat i), W[i].1, .int (W[i].2.1 : Int), .int (W[i].2.2 : Int)] := by
      have : patP 3 (.tuple [.int (Int.ofNat i), ndD W[i]]) = some [.int (Int.ofNat i), W[i].1, .int (W[i].2.1 : Int), .int (W[i].2.2 : Int)] := rfl
      rw [this] at hpat
      exact (Option.some.inj hpat).symm
    subst hes
    obtain ⟨y1, y2, y3, y4, rfl, dy1, dy2, dy3, dy4⟩ : ∃ y1 y2 y3 y4, us = [y1, y2, y3, y4] ∧ Dt K B7 y1 (.int (Int.ofNat i)) ∧ Dt K B7 y2 W[i].1 ∧ Dt K B7 y3 (.int (W[i].2.1 : Int)) ∧ Dt K B7 y4 (.int (W[i].2.2 : Int)) := by
      have dus : Ds K B7 us [.int (Int.ofNat i), W[i].1, .int (W[i].2.1 : Int), .int (W[i].2.2 : Int)] := dus
      cases dus with
      | cons a r =>
        obtain ⟨x2, x3, x4, rfl, b, c, d⟩ := ds3 r
        exact ⟨_, x2, x3, x4, rfl, a, b, c, d⟩
    cases dy1
    cases dy3
    cases dy4
    have hpB7 := up_none u7 hpB6 g1 (fun _ z => by cases z)
    have g1 := u7.h.keep p _ g1 (fun _ z => by cases z)
    have fw := fw.le u7.b
    have u7' := u6.trans u7
    have dL7 := Dt.le (lB.trans u7.b) dL
    obtain ⟨ra, rb⟩ := kW _ (List.getElem_mem hiW)
    have eW := List.getElem?_eq_getElem hiW
    have eg0 : W[i].2.1 = gow W i 0 := by rw [gow_at eW, if_pos rfl]
    have eg1 : W[i].2.2 = gow W i 1 := by rw [gow_at eW, if_neg (by decide)]
    have el : W[i].1 = lt1 W i := (lt1_at eW).symm
    have hlL : ∀ {x : Nat}, x < W.length → L[x]? = some (gL L x) := fun h => gL_at (by rw [lL]; exact h)
    show WB _ _ _ [some v1, some (.int (m : Int)), some vK, some (.ref aL), some (.ref p), some (.int (Int.ofNat i)), some y2, some (.int (W[i].2.1 : Int)), some (.int (W[i].2.2 : Int))] H7
    refine wb_one ⟨_, ps_expr (pe_dsetd (pe_var (i := 4) rfl (by first | exact Or.inl rfl | exact Or.inr (Or.inl rfl) | exact Or.inr (Or.inr rfl))) pe_w pe_w ⟨rfl, rfl, rfl, rfl⟩), ?_⟩
    refine ⟨_, rfl, p, rfl, .inl ⟨kvs, .inl g1⟩, ?_⟩
    refine (ee_ix ix_list (rr_ixL (at_id (hlL hiW))) (ee_var (i := 3) rfl dL7) (ee_var (i := 5) rfl (.int _))) H7 u7'.s _ fun x8 B8 H8 u8 dx8 => ?_
    cases dx8
    have dL8 := Dt.le u8.b dL7
    refine (ee_tup (ea_cons (ee_var (i := 6) rfl (Dt.le u8.b dy2)) (ea_cons (ee_ix ix_list (rr_ixL (at_id (hlL ra))) (ee_var (i := 3) rfl dL8) (ee_var (i := 7) rfl (.int _))) (ea_cons (ee_ix ix_list (rr_ixL (at_id (hlL rb))) (ee_var (i := 3) rfl dL8) (ee_var (i := 8) rfl (.int _))) ea_nil))) (by show 3 ≤ sizeLine; decide)) H8 u8.s _ fun x9 B9 H9 u9 dx9 => ?_
    have hpB8 := up_none u8 hpB7 g1 (fun _ z => by cases z)
    have g1 := u8.h.keep p _ g1 (fun _ z => by cases z)
    have hpB9 := up_none u9 hpB8 g1 (fun _ z => by cases z)
    have g1 := u9.h.keep p _ g1 (fun _ z => by cases z)
    have fw := fw.le (u8.b.trans u9.b)
    have u9' := (u7'.trans u8).trans u9
    have lB9 := ((lB.trans u7.b).trans u8.b).trans u9.b
    rw [eg0, eg1, el] at dx9
    have hz := fw.len
    refine ⟨kvs, Sum.inl ((gL L i : Nat) : Int), g1, rfl, Nat.lt_of_le_of_lt (show kvs.length ≤ 1000 by omega) (by decide), fun v hv => ?_, fun hv => ?_⟩
    · exact hN _ B9 H9 ((u8.b.trans u9.b)) u9'.s ⟨_, _, _, _, kvs, rfl, lB9, hpB9, g1, fw.seen hv, u9'⟩
    · have u10 := up_mut u9' hpH hpB9 (o := .dK (putK kvs (Sum.inl ((gL L i : Nat) : Int)) x9))
      exact hN _ B9 _ ((u8.b.trans u9.b)) u10.s ⟨_, _, _, _, putK kvs (Sum.inl ((gL L i : Nat) : Int)) x9, rfl, lB9, hpB9, upd_same, fw.put (by rw [lL]; exact hiW) hv dx9, u10⟩
  · obtain ⟨a5, a6, a7, a8, kvs, rfl, lB, hpB6, g1, fw, u6⟩ := hI
    rw [nums_len, List.length_map] at fw
    have u8 := up_add u6 hpH hpB6 g1 (fun _ z => by cases z)
    have lB8 : Le B6 (upd B6 p (.dK kvs)) := Le.new hpB6
    have hM := G.cls.le
    have l0 := G.cls.lt 0 pW
    refine wb_one (ws_ret (B := upd B6 p (.dK kvs)) (d := .tuple (walkL (lotS W L M) (gL L 0))) u8.s (ee_walkD (i := 4) Fd hr (by decide) (t.le (((u0.b.trans lB).trans lB8))) rfl upd_same (fun k h => ?_) (lotS_ok G.cls kW) (by rw [lotS_len]; exact l0) (by rw [lotS_len]; omega)
      (ee_ix ix_list (rr_ixL (at_id (gL_at (by rw [lL]; exact pW)))) (ee_var (i := 3) rfl (Dt.le (lB.trans lB8) dL)) ee_int)) fun v B' H' u dv => q v B' H' (u8.trans u) ?_)
    · rw [lotS_len] at h
      obtain ⟨x, hx, ex⟩ := G.cls.on k h
      obtain ⟨v, e1, e2⟩ := fw.at_ x hx
      have e3 : (lotS W L M)[k]'(by rw [lotS_len]; exact h) = lotR W L k := by
        have := lotS_at (R := W) (L := L) h
        rw [List.getElem?_eq_getElem (by rw [lotS_len]; exact h)] at this
        exact Option.some.inj this
      rw [ex] at e1 e2
      rw [e3]
      exact ⟨v, e1, Dt.le lB8 e2⟩
    · show Dt K B' v (.tuple (canL ((R.map ndD).map ndOf) 0))
      rw [ndOf_map, ← canL_quo kW (lotS_ok G.cls kW) hR (lotS_quo G) pW h0 bW]
      exact dv
/-- of a wood -/
def spOneW (K : PySem.W.Frag) (T : List Addr) (CW : Addr) (fF : List PyData → PyData) : Sp := fun vs H Q E => vs.length = 1 ∧ Tbs T H ∧ ∃ B d, Le B H ∧ Ds K B vs [d] ∧ okD d = true ∧
  (woodB d = false → ∀ H', Le H H' → E (.ref CW) none H') ∧ (woodB d = true → ∃ a sc R, d = .tuple [a, sc, .tuple (R.map ndD)] ∧ rowsOk R ∧ ltOk R ∧ 0 < R.length ∧ R.length ≤ 400 ∧ ∀ v B' H', Up B H B' H' → Dt K B' v (fF [d]) → Q v H')
noncomputable def lstF : List PyData → PyData
  | [.tuple [_, sc, .tuple rs]] => .tuple [.str "wood", sc, .tuple (canL (rs.map ndOf) 0)]
  | _ => .none
theorem scLst : FnScope ["wood"] ["wood"] (defScope sLst) := ⟨rfl, rfl, rfl, by decide +kernel, rfl, by decide +kernel, by decide +kernel⟩
theorem ok_least {CW : Addr} {f1 : Addr} {fd1 : FuncData} (G1 : FnOk P w K mg base (L2.CX P w) 6 f1 fd1 ["wood"] (spChk K T woodB CW)) (m1 : mg "check_wood" = some (.ref f1)) (k1 : PySem.W.keepIn K (.ref f1) = true) (b1 : Binds K fd1 ["wood"] [])
    (gM : ∃ t, mg "MOST_NODES" = some (.int 400 t)) (Fl : Kn P w K mg base 2 "least_rows" ["rows", "most"] (spF K T 2 srtP lrF)) (F : L2.Fun K "least" "least" sLst f fd) : FnOk P w K mg base (L2.CX P w) 7 f fd ["wood"] (spOneW K T CW lstF) := by
  refine F.okX scLst (fun vs H Q E h => h.1) fun cdv A outer s H vs Q E hr hsp => ?_
  obtain ⟨hl, ht, B, d, l, hd, okd, hnW, hy⟩ := hsp
  obtain ⟨v1, rfl, h1⟩ := ds1 hd
  show WB (cxOf (L2.CX P w) P w K mg base ["wood"] "least" (defScope sLst) f cdv A outer s H E) (defBody sLst) { nx := fun _ H' => Q .non H', rt := Q } (start ["wood"] [v1]) H
  refine wb_cons ⟨_, ps_expr (pe_call (CX := L2.CX P w) (E := E) G1 hr rfl m1 k1 b1 .nil (passes_call (takes_of rfl rfl rfl rfl) fun _ _ _ _ h => h) (pa_cons (pe_var (i := 0) rfl (by first | exact Or.inl rfl | exact Or.inr (Or.inl rfl) | exact Or.inr (Or.inr rfl))) pa_nil) (by decide) rfl rfl), _, rfl, ?_⟩
  refine ⟨rfl, ht, B, d, l, .cons h1 .nil, okd, fun eW H2 l2 => ?_, hnW⟩
  obtain ⟨a, sc, R, rfl, hR, hO, h0, hn, hq⟩ := hy eW
  obtain ⟨B4, l4, l5, t4, up⟩ := with_tables (ht.le l2) (l.trans l2)
  obtain ⟨tk, gM⟩ := gM
  refine wb_one (ws_ret (B := B4) (d := .tuple [.str "wood", sc, .tuple (canL R 0)]) l5 (ee_tup (ea_cons ee_str (ea_cons (ee_ix ix_tup (rr_ixT (d := sc) (atI_nat (j := 1) rfl)) (ee_var (i := 0) rfl (Dt.le l4 h1)) ee_int) (ea_cons
    (ee_call (f := lrF) (ds := [.tuple (R.map ndD), .int ((400 : Nat) : Int)]) (d := .tuple (canL R 0)) Fl hr (by decide) t4 (ea_cons (ee_ix ix_tup (rr_ixT (d := .tuple (R.map ndD)) (atI_nat (j := 2) rfl)) (ee_var (i := 0) rfl (Dt.le l4 h1)) ee_int)
      (ea_cons (ee_globD gM (v := .int 400) ⟨tk, rfl⟩ fun H' => .int _) ea_nil)) ⟨R, 400, rfl, hR, hO, h0, hn, by decide⟩ ?_) ea_nil))) (by show 3 ≤ sizeLine; decide)) fun v B5 H5 u5 d5 => hq v B5 H5 (up_back l2 (up u5)) ?_)
  · show PyData.tuple (canL ((R.map ndD).map ndOf) 0) = _
    rw [ndOf_map]
  · show Dt K B5 v (.tuple [.str "wood", sc, .tuple (canL ((R.map ndD).map ndOf) 0)])
    rw [ndOf_map]
    exact d5
end
end K0


set_option Elab.async false
set_option linter.all false
set_option maxRecDepth 100000
set_option maxHeartbeats 4000000
/-! V1: _law_numbered, of a dict of rows. -/
namespace K0
open PySem PySem.Spec PyProof.Rows L2 GxR Tk
variable [LamTab]
def spND (K : PySem.W.Frag) (T : List Addr) : Sp := fun vs H Q _ => vs.length = 3 ∧ Tbs T H ∧ ∃ B R s sc v1 lr kvs, vs = [v1, .int ((s : Nat) : Int), .ref lr] ∧ Le B H ∧ Dt K B v1 sc ∧ B lr = some (.dK kvs) ∧ (∀ k, (h : k < (R : List Nd).length) → ∃ v, valV kvs (Sum.inl (k : Int)) = some v ∧ Dt K B v (ndD R[k])) ∧ rowsOk R ∧ s < R.length ∧ R.length ≤ 1000 ∧
  ∀ v B' H', Up B H B' H' → Dt K B' v (.tuple [.str "wood", sc, .tuple (walkL R s)]) → Q v H'
section
variable {P : Program} {w : World} {K : PySem.W.Frag} {mg : Str → Option Value} {base : Heap} {f : Addr} {fd : FuncData} {T : List Addr}
theorem ok_lnbD (BL : Blt mg) (F : L2.Fun K "_law_numbered" "_law_numbered" sLNb f fd) : FnOk P w K mg base CX0 1 f fd ["scope", "first", "rows"] (spND K T) := by
  refine fn_any F scLNb (fun vs H Q E h => by rw [h.1]; rfl) fun cdv A outer s H vs Q E hr hcd h => ?_
  obtain ⟨hl, t0, B0, R, st, sc, v1, lr, kvs, rfl, l0, h10, hr0, hrow0, hR, hs, hn, q0⟩ := h
  obtain ⟨B, lB0, l, t, up0⟩ := with_tables t0 l0
  have h1 := Dt.le lB0 h10
  have hBr := lB0.keep lr _ hr0 (fun _ z => by cases z)
  have hrow : ∀ k, (h : k < R.length) → ∃ v, valV kvs (Sum.inl (k : Int)) = some v ∧ Dt K B v (ndD R[k]) := fun k h => by
    obtain ⟨v, e1, e2⟩ := hrow0 k h
    exact ⟨v, e1, Dt.le lB0 e2⟩
  have q : ∀ v B' H', Up B H B' H' → Dt K B' v (.tuple [.str "wood", sc, .tuple (walkL R st)]) → Q v H' := fun v B' H' u => q0 v B' H' (up0 u)
  have hu := hu64 hr
  have hu1 : (A.deeper (envOfC "_law_numbered" (defScope sLNb) s.heap.objs.size f cdv)).units + 1 < cLine := by omega
  refine wb_cons ⟨_, ps_par3 (i := 3) (j := 4) (l := 5) rfl ndB rfl rfl rfl (by decide) (by decide) (by decide) rfl rfl rfl pa_w rfl, ?_⟩
  refine ⟨_, pa_cons (pe_lst (pa_cons (pe_var (i := 1) rfl (by first | exact Or.inl rfl | exact Or.inr (Or.inl rfl) | exact Or.inr (Or.inr rfl))) pa_nil)) (pa_cons (pe_disp (pps_cons (pe_var (i := 1) rfl (by first | exact Or.inl rfl | exact Or.inr (Or.inl rfl) | exact Or.inr (Or.inr rfl))) pe_int pps_nil) (by rfl) (by rfl) (fun z => by cases z) (by decide)) (pa_cons (pe_lst pa_nil) pa_nil)), ?_⟩
  refine ⟨_, rfl, by show 1 ≤ sizeLine; decide, fun lo hlo ld hld => ⟨_, rfl, upd_same, [(Sum.inl (st : Int), V.int 0)], rfl, by show 1 ≤ 15; decide, ?_⟩⟩
  refine ⟨by decide, fun lD hlD => ⟨_, _, _, rfl, ?_⟩⟩
  have hld0 : H ld = none := (Le.new hlo).there ld hld
  have hne : ld ≠ lo := fun z => by rw [z, upd_same] at hld; cases hld
  have hneD : lD ≠ ld := fun z => by rw [z, upd_same] at hlD; cases hlD
  have hneO : lD ≠ lo := fun z => by rw [z, upd_ne (fun z => hne z.symm), upd_ne (fun z => hne z.symm), upd_same] at hlD; cases hlD
  have hlD0 : H lD = none := by
    rw [upd_ne hneD, upd_ne hneD, upd_ne hneO] at hlD
    exact hlD
  have hBo : B lo = none := l.there lo hlo
  have hBd : B ld = none := l.there ld hld0
  have hBD : B lD = none := l.there lD hlD0
  have u0 : Up B H B (upd (upd (upd (upd H lo (.lst [.int (st : Int)])) ld (.dK [])) ld (.dK (mergeK [] [(Sum.inl (st : Int), V.int 0)]))) lD (.lst [])) := up_mut (up_mut (up_mut (up_mut (Up.refl l) hlo hBo) hld0 hBd) hld0 hBd) hlD0 hBD
  have e1 : (upd (upd (upd (upd H lo (.lst [.int (st : Int)])) ld (.dK [])) ld (.dK (mergeK [] [(Sum.inl (st : Int), V.int 0)]))) lD (.lst [])) lo = some (.lst (iv [st])) := by
    rw [upd_ne (fun z => hneO z.symm), upd_ne (fun z => hne z.symm), upd_ne (fun z => hne z.symm)]
    exact upd_same
  have e2 : (upd (upd (upd (upd H lo (.lst [.int (st : Int)])) ld (.dK [])) ld (.dK (mergeK [] [(Sum.inl (st : Int), V.int 0)]))) lD (.lst [])) ld = some (.dK (kvF 0 [st])) := by
    rw [upd_ne (fun z => hneD z.symm)]
    exact upd_same
  have e3 : (upd (upd (upd (upd H lo (.lst [.int (st : Int)])) ld (.dK [])) ld (.dK (mergeK [] [(Sum.inl (st : Int), V.int 0)]))) lD (.lst [])) lD = some (.lst []) := upd_same
  generalize upd (upd (upd (upd H lo (.lst [.int (st : Int)])) ld (.dK [])) ld (.dK (mergeK [] [(Sum.inl (st : Int), V.int 0)]))) lD (.lst []) = H1 at u0 e1 e2 e3 ⊢
  show WB _ _ _ [some v1, some (.int (st : Int)), some (.ref lr), some (.ref lo), some (.ref ld), some (.ref lD), none, none, none, none] H1
  have g0 : goodO R.length [st] := ⟨by simp, fun k hk => by rw [List.mem_singleton.mp hk]; exact hs⟩
  refine wb_cons ⟨_, ps_while PassesOwn.never pt_w pss_w, ?_⟩
  refine ⟨fun k σ' H' => ∃ (o : List Nat) (i : Nat) (a6 a7 a8 a9 : Option V) (B' : Hp) (dv : List V), σ' = [some v1, some (.int (st : Int)), some (.ref lr), some (.ref lo), some (.ref ld), some (.ref lD), a6, a7, a8, a9] ∧ k = R.length - i ∧ goodO R.length o ∧ i ≤ o.length ∧ bfs R (R.length - i) o i = walkO R st ∧ H' lo = some (.lst (iv o)) ∧ H' ld = some (.dK (kvF 0 o)) ∧ H' lD = some (.lst dv) ∧ Up B H B' H' ∧ B' lo = none ∧ B' ld = none ∧ B' lD = none ∧ Ds K B' dv ((o.take i).map (renum R (walkO R st))),
    ⟨R.length, [st], 0, none, none, none, none, B, [], rfl, rfl, g0, Nat.zero_le _, rfl, e1, e2, e3, u0, hBo, hBd, hBD, .nil⟩, ?_⟩
  rintro k σ' H' ⟨o, i, a6, a7, a8, a9, B', dv, rfl, rfl, hg, hi, hW, e1, e2, e3, u0, b1, b2, b3, dds⟩
  have hlen := goodO_len hg
  have lo_len : ((o.take i).map (renum R (walkO R st))).length = i := by rw [List.length_map, List.length_take]; omega
  refine (et_cmp op_lt rr_lt (ee_len BL (ee_var (i := 5) rfl (.new_lst e3 (Ds.le u0.s dds))) rfl fun x z => by cases z) (ee_len BL (ee_var (i := 3) rfl (.new_lst e1 (ds_iv o))) rfl fun x z => by cases z)) H' (Le.refl _) _ fun H2 l2 => ?_
  have e1 := l2.keep lo _ e1 (fun _ z => by cases z)
  have e2 := l2.keep ld _ e2 (fun _ z => by cases z)
  have e3 := l2.keep lD _ e3 (fun _ z => by cases z)
  have u0 := u0.tab l2
  clear l2
  have eL : (idD o).length = o.length := List.length_map _
  rw [eL, lo_len]
  by_cases hlt : i < o.length
  · rw [decide_eq_true (show (i : Int) < (o.length : Int) by omega)]
    refine (if_pos rfl).mpr ?_
    have hk : o[i]? = some o[i] := List.getElem?_eq_getElem hlt
    have hkR : o[i] < R.length := hg.2 _ (List.getElem_mem hlt)
    have hRk : R[o[i]]? = some R[o[i]] := List.getElem?_eq_getElem hkR
    obtain ⟨ra, rb⟩ := hR _ (List.getElem_mem hkR)
    obtain ⟨fu, hfu⟩ : ∃ fu, R.length - i = fu + 1 := ⟨R.length - i - 1, by omega⟩
    have hfu2 : R.length - (i + 1) = fu := by omega
    rw [hfu, bfs_step hk hRk] at hW
    have hat := at_nd hkR
    obtain ⟨rv, hrv, hdr⟩ := hrow _ hkR
    generalize hrE : R[o[i]] = r at ra rb hRk hW hat hdr
    refine ⟨fun σ2 H5 => ∃ (o' : List Nat) (a6 a7 a8 a9 : Option V) (B' : Hp) (dv : List V), σ2 = [some v1, some (.int (st : Int)), some (.ref lr), some (.ref lo), some (.ref ld), some (.ref lD), a6, a7, a8, a9] ∧ goodO R.length o' ∧ i + 1 ≤ o'.length ∧ bfs R fu o' (i + 1) = walkO R st ∧ H5 lo = some (.lst (iv o')) ∧ H5 ld = some (.dK (kvF 0 o')) ∧ H5 lD = some (.lst dv) ∧ Up B H B' H5 ∧ B' lo = none ∧ B' ld = none ∧ B' lD = none ∧ Ds K B' dv ((o'.take (i + 1)).map (renum R (walkO R st))),
      fun σ2 H5 ⟨o', a6, a7, a8, a9, B', dv, z1, z2, z3, z4, z⟩ => ⟨R.length - (i + 1), by omega, o', i + 1, a6, a7, a8, a9, B', dv, z1, rfl, z2, z3, by rw [hfu2]; exact z4, z⟩, ?_⟩
    refine wb_cons (ws_tgtW (B := B') (d := ndD r) (es := [r.1, .int (r.2.1 : Int), .int (r.2.2 : Int)]) (tjs := [6, 7, 8]) (pat := patT 3) (fun Q q => ixD (i := 2) (B := B') (Hf := H2) hu1 rfl (u0.b.keep lr _ hBr (fun _ z => by cases z)) (ee_ix ix_list (rr_ixL (at_id hk)) (ee_var (i := 3) rfl (.new_lst e1 (ds_iv o))) (ee_len BL (ee_var (i := 5) rfl (.new_lst e3 (Ds.le u0.s dds))) (congrArg some lo_len) fun x z => by cases z)) hrv (Dt.le u0.b hdr) u0.s (Le.refl _) q) (eg_tup rfl (st_cons (st_cons (st_cons st_nil ndB) ndB) ndB)) rfl fun vs B3 H3 u3 dvs => ?_)
    obtain ⟨y1, y2, y3, rfl, d1, d2, d3⟩ := ds3 dvs
    cases d2
    cases d3
    have c1 := up_none u3 b1 e1 (fun _ z => by cases z)
    have c2 := up_none u3 b2 e2 (fun _ z => by cases z)
    have c3 := up_none u3 b3 e3 (fun _ z => by cases z)
    have e1 := u3.h.keep lo _ e1 (fun _ z => by cases z)
    have e2 := u3.h.keep ld _ e2 (fun _ z => by cases z)
    have e3 := u3.h.keep lD _ e3 (fun _ z => by cases z)
    have u3' := u0.trans u3
    have dds3 := Ds.le u3.b dds
    show WB _ _ _ [some v1, some (.int (st : Int)), some (.ref lr), some (.ref lo), some (.ref ld), some (.ref lD), some y1, some (.int (r.2.1 : Int)), some (.int (r.2.2 : Int)), a9] H3
    refine wb_cons (ws_for (B := B3) (ds := [.int (r.2.1 : Int), .int (r.2.2 : Int)]) (tjs := [9]) (pat := patN) u3.s (ei_lst (ee_lst (ea_cons (ee_var (i := 7) rfl (.int _)) (ea_cons (ee_var (i := 8) rfl (.int _)) ea_nil)) (by show 2 ≤ sizeLine; decide))) (eg_name ndB) (fun d hd => ⟨[d], rfl⟩) PassesOwn.never rfl
      (fun j σ' B' H' => ∃ a9, σ' = [some v1, some (.int (st : Int)), some (.ref lr), some (.ref lo), some (.ref ld), some (.ref lD), some y1, some (.int (r.2.1 : Int)), some (.int (r.2.2 : Int)), a9] ∧ Le B3 B' ∧ B' lo = none ∧ B' ld = none ∧ B' lD = none ∧ goodO R.length (([r.2.1, r.2.2].take j).foldl addG o) ∧ H' lo = some (.lst (iv (([r.2.1, r.2.2].take j).foldl addG o))) ∧ H' ld = some (.dK (kvF 0 (([r.2.1, r.2.2].take j).foldl addG o))) ∧ H' lD = some (.lst dv) ∧ Up B H B' H')
      (fun B' H' u => ⟨a9, rfl, u.b, up_none u c1 e1 (fun _ z => by cases z), up_none u c2 e2 (fun _ z => by cases z), up_none u c3 e3 (fun _ z => by cases z), hg, u.h.keep lo _ e1 (fun _ z => by cases z), u.h.keep ld _ e2 (fun _ z => by cases z), u.h.keep lD _ e3 (fun _ z => by cases z), u3'.trans u⟩) (fun j d es us σ' B4 H4 B'' H'' hj hd' lb hI u4 hpat dus N hN => ?_) fun σ' B4 H4 lb ls hI => ?_)
    · obtain ⟨a9, rfl, lB4, b1, b2, b3, gj, f1, f2, f3, uj⟩ := hI
      cases hpat
      obtain ⟨y, rfl, hy⟩ := ds1 (K := K) dus
      obtain ⟨g, rfl, hgn, hadd⟩ : ∃ g : Nat, d = .int (g : Int) ∧ g < R.length ∧ ([r.2.1, r.2.2].take (j + 1)).foldl addG o = addG (([r.2.1, r.2.2].take j).foldl addG o) g := by
        match j, hd' with
        | 0, hd' => cases hd'; exact ⟨r.2.1, rfl, ra, rfl⟩
        | 1, hd' => cases hd'; exact ⟨r.2.2, rfl, rb, rfl⟩
      cases hy
      have c1 := up_none u4 b1 f1 (fun _ z => by cases z)
      have c2 := up_none u4 b2 f2 (fun _ z => by cases z)
      have c3 := up_none u4 b3 f3 (fun _ z => by cases z)
      have f1 := u4.h.keep lo _ f1 (fun _ z => by cases z)
      have f2 := u4.h.keep ld _ f2 (fun _ z => by cases z)
      have f3 := u4.h.keep lD _ f3 (fun _ z => by cases z)
      have uj := uj.trans u4
      have lB'' := lB4.trans u4.b
      have gl := goodO_len gj
      generalize hoE : ([r.2.1, r.2.2].take j).foldl addG o = oj at gj f1 f2 hadd gl
      show WB _ _ _ [some v1, some (.int (st : Int)), some (.ref lr), some (.ref lo), some (.ref ld), some (.ref lD), some y1, some (.int (r.2.1 : Int)), some (.int (r.2.2 : Int)), some (.int (g : Int))] H''
      refine wb_one ⟨_, ps_if (pt_cmp (pc_dnotin hu1 (pe_var (i := 9) rfl (by first | exact Or.inl rfl | exact Or.inr (Or.inl rfl) | exact Or.inr (Or.inr rfl))) (pe_var (i := 4) rfl (by first | exact Or.inl rfl | exact Or.inr (Or.inl rfl) | exact Or.inr (Or.inr rfl))))) (pss_cons (ps_dput hu1 (pe_var (i := 4) rfl (by first | exact Or.inl rfl | exact Or.inr (Or.inl rfl) | exact Or.inr (Or.inr rfl))) (pe_var (i := 9) rfl (by first | exact Or.inl rfl | exact Or.inr (Or.inl rfl) | exact Or.inr (Or.inr rfl))) pe_w rfl) (pss_one (ps_expr (pe_bm PySem.F.plainAttrs_list PySem.F.slot_list_append PySem.F.type_list_append mt_append (pe_var (i := 3) rfl (by first | exact Or.inl rfl | exact Or.inr (Or.inl rfl) | exact Or.inr (Or.inr rfl))) (pa_cons (pe_var (i := 9) rfl (by first | exact Or.inl rfl | exact Or.inr (Or.inl rfl) | exact Or.inr (Or.inr rfl))) pa_nil))))) pss_nil, ?_⟩
      refine ⟨_, rfl, _, rfl, ld, _, rfl, DGet.k (k := Sum.inl (g : Int)) f2, _, rfl, ?_⟩
      rw [kvF_val]
      by_cases hm : g ∈ oj
      · rw [if_pos hm]
        refine hN _ B'' H'' (Le.refl _) u4.s ⟨some (.int (g : Int)), rfl, lB'', c1, c2, c3, ?_⟩
        rw [hadd, show addG oj g = oj from if_pos hm]
        exact ⟨gj, f1, f2, f3, uj⟩
      · rw [if_neg hm]
        refine (ee_len BL (ee_var (i := 3) rfl (.new_lst f1 (ds_iv oj))) rfl fun x z => by cases z) H'' (Le.refl _) _ fun x B6 H6 u6 dx => ?_
        cases dx
        have f1 := u6.h.keep lo _ f1 (fun _ z => by cases z)
        have f2 := u6.h.keep ld _ f2 (fun _ z => by cases z)
        have f3 := u6.h.keep lD _ f3 (fun _ z => by cases z)
        refine ⟨_, rfl, _, rfl, ld, _, rfl, DPut.k (k := Sum.inl (g : Int)) f2 (by rw [kvF_len]; exact Nat.lt_of_le_of_lt (show oj.length ≤ 1000 by omega) (by decide)), ?_⟩
        have g1 : (upd H6 ld (.dK (putK (kvF 0 oj) (Sum.inl (g : Int)) (.int ((idD oj).length : Int))))) lo = some (.lst (iv oj)) := by rw [upd_ne (fun z => hne z.symm)]; exact f1
        refine ⟨_, rfl, .inl ⟨rfl, _, SqL.of g1⟩, _, rfl, lo, iv oj, .int (g : Int), rfl, rfl, g1, by rw [iv, List.length_map]; exact Nat.lt_of_le_of_lt (show oj.length ≤ 1000 by omega) (by decide), ?_⟩
        have uk := up_mut (up_mut (uj.tab u6.h) hld0 c2 (o := .dK (putK (kvF 0 oj) (Sum.inl (g : Int)) (.int ((idD oj).length : Int))))) hlo c1 (o := .lst (iv oj ++ [.int (g : Int)]))
        refine hN _ B'' _ (Le.refl _) uk.s ⟨some (.int (g : Int)), rfl, lB'', c1, c2, c3, ?_⟩
        rw [hadd]
        refine ⟨goodO_add gj hgn, ?_, ?_, ?_, uk⟩
        · rw [show addG oj g = oj ++ [g] from if_neg hm, iv_app]
          exact upd_same
        · rw [show addG oj g = oj ++ [g] from if_neg hm, upd_ne hne]
          rw [← kvF_put hm, idD, List.length_map]
          exact upd_same
        · rw [upd_ne hneO, upd_ne hneD]
          exact f3
    · obtain ⟨a9, rfl, lB4, b1, b2, b3, gj, f1, f2, f3, uj⟩ := hI
      have ej : ([r.2.1, r.2.2].take ([PyData.int (r.2.1 : Int), .int (r.2.2 : Int)] : List PyData).length).foldl addG o = addG (addG o r.2.1) r.2.2 := rfl
      rw [ej] at gj f1 f2
      have pre : o <+: addG (addG o r.2.1) r.2.2 := addG_pre.trans addG_pre
      have hlen2 : i + 1 ≤ (addG (addG o r.2.1) r.2.2).length := Nat.le_trans hlt pre.length_le
      have m1 : r.2.1 ∈ addG (addG o r.2.1) r.2.2 := addG_pre.subset addG_mem
      have m2 : r.2.2 ∈ addG (addG o r.2.1) r.2.2 := addG_mem
      have preW : addG (addG o r.2.1) r.2.2 <+: walkO R st := by rw [← hW]; exact bfs_pre _ _ _
      have take2 : (addG (addG o r.2.1) r.2.2).take (i + 1) = o.take i ++ [o[i]] := by
        obtain ⟨tt, ht⟩ := pre
        rw [← ht, List.take_append_of_le_length (by omega), List.take_add_one, hk]
        rfl
      generalize hoE : addG (addG o r.2.1) r.2.2 = o' at gj f1 f2 hlen2 m1 m2 preW take2 hW
      have rn : renum R (walkO R st) o[i] = .tuple [r.1, .int (o'.idxOf r.2.1 : Nat), .int (o'.idxOf r.2.2 : Nat)] := by
        unfold renum
        rw [hRk]
        show PyData.tuple [r.1, .int ((walkO R st).idxOf r.2.1 : Nat), .int ((walkO R st).idxOf r.2.2 : Nat)] = _
        rw [idx_pre preW m1, idx_pre preW m2]
      refine wb_one ⟨_, ps_expr (pe_bm PySem.F.plainAttrs_list PySem.F.slot_list_append PySem.F.type_list_append mt_append (pe_var (i := 5) rfl (by first | exact Or.inl rfl | exact Or.inr (Or.inl rfl) | exact Or.inr (Or.inr rfl))) (pa_cons (pe_tup (pa_cons (pe_var (i := 6) rfl (by first | exact Or.inl rfl | exact Or.inr (Or.inl rfl) | exact Or.inr (Or.inr rfl))) (pa_cons pe_w (pa_cons pe_w pa_nil)))) pa_nil)), ?_⟩
      refine ⟨_, rfl, .inl ⟨rfl, _, SqL.of f3⟩, _, rfl, ?_⟩
      refine (ee_dget (i := 4) (n := (r.2.1 : Int)) (d := .int (o'.idxOf r.2.1 : Nat)) (v := .int (o'.idxOf r.2.1 : Nat)) hu1 rfl f2 (ee_var (i := 7) rfl (.int _)) (by rw [kvF_val, if_pos m1, Nat.zero_add]) fun H => .int _) H4 (Le.refl _) _ fun x1 B5 H5 u5 dx1 => ?_
      cases dx1
      have f1 := u5.h.keep lo _ f1 (fun _ z => by cases z)
      have f2 := u5.h.keep ld _ f2 (fun _ z => by cases z)
      have f3 := u5.h.keep lD _ f3 (fun _ z => by cases z)
      have uj := uj.tab u5.h
      refine (ee_dget (i := 4) (n := (r.2.2 : Int)) (d := .int (o'.idxOf r.2.2 : Nat)) (v := .int (o'.idxOf r.2.2 : Nat)) hu1 rfl f2 (ee_var (i := 8) rfl (.int _)) (by rw [kvF_val, if_pos m2, Nat.zero_add]) fun H => .int _) H5 (Le.refl _) _ fun x2 B6 H6 u6 dx2 => ?_
      cases dx2
      have f1 := u6.h.keep lo _ f1 (fun _ z => by cases z)
      have f2 := u6.h.keep ld _ f2 (fun _ z => by cases z)
      have f3 := u6.h.keep lD _ f3 (fun _ z => by cases z)
      have uj := uj.tab u6.h
      refine ⟨by show 3 ≤ sizeLine; decide, fun p hp => ?_⟩
      have nf : ∀ {b : Addr} {o : HO}, H6 b = some o → b ≠ p := fun e z => by rw [z, hp] at e; cases e
      have g3 : (upd H6 p (.tup [y1, .int (o'.idxOf r.2.1 : Nat), .int (o'.idxOf r.2.2 : Nat)])) lD = some (.lst dv) := by rw [upd_ne (nf f3)]; exact f3
      have dlen := dds3.length
      rw [lo_len] at dlen
      refine ⟨lD, dv, .ref p, rfl, rfl, g3, Nat.lt_of_le_of_lt (show dv.length ≤ 1000 by omega) (by decide), ?_⟩
      have hB4p : B4 p = none := uj.s.there p hp
      have uq := uj.new (o := .tup [y1, .int (o'.idxOf r.2.1 : Nat), .int (o'.idxOf r.2.2 : Nat)]) hp (fun _ z => by cases z)
      have ur := up_mut uq hlD0 (by rw [upd_ne (nf f3)]; exact b3) (o := .lst (dv ++ [.ref p]))
      refine ⟨o', _, _, _, _, upd B4 p (.tup [y1, .int (o'.idxOf r.2.1 : Nat), .int (o'.idxOf r.2.2 : Nat)]), dv ++ [.ref p], rfl, gj, hlen2, hW, ?_, ?_, upd_same, ur, by rw [upd_ne (nf f1)]; exact b1, by rw [upd_ne (nf f2)]; exact b2, by rw [upd_ne (nf f3)]; exact b3, ?_⟩
      · rw [upd_ne (fun z => hneO z.symm), upd_ne (nf f1)]; exact f1
      · rw [upd_ne (fun z => hneD z.symm), upd_ne (nf f2)]; exact f2
      · rw [take2, List.map_append, List.map_singleton, rn]
        refine (Ds.le (lB4.trans (Le.new hB4p)) dds3).snoc (.new_tup upd_same (.cons (Dt.le (lB4.trans (Le.new hB4p)) d1) (.cons (.int _) (.cons (.int _) .nil))))
  · rw [decide_eq_false (show ¬ (i : Int) < (o.length : Int) by omega)]
    refine (if_neg (by decide)).mpr ?_
    have hio : i = o.length := by omega
    subst hio
    rw [bfs_end] at hW
    rw [List.take_length, ← hW] at dds
    have ub : Up B H (upd B' lD (.lst dv)) H2 := ⟨u0.h, u0.b.trans (Le.new b3), u0.s.add e3 (fun _ z => by cases z), fun a ha => by
      by_cases z : a = lD
      · rw [z]; exact .inr (.inl hlD0)
      · rw [upd_ne z] at ha; exact u0.n a ha⟩
    have dd2 := Ds.le (Le.new (o := .lst dv) b3) dds
    refine wb_one (ws_ret (B := upd B' lD (.lst dv)) (d := .tuple [.str "wood", sc, .tuple (o.map (renum R o))]) ub.s (ee_tup (ea_cons ee_str (ea_cons (ee_var (i := 0) rfl (Dt.le ub.b h1)) (ea_cons (ee_tuple BL (ee_var (i := 5) rfl (.new_lst upd_same dd2))) ea_nil))) (by show 3 ≤ sizeLine; decide)) fun v B6 H6 u6 d6 => q v B6 H6 (ub.trans u6) ?_)
    have e9 : walkL R st = o.map (renum R o) := by
      unfold walkL
      rw [← hW]
    rw [e9]
    exact d6
end
end K0


set_option Elab.async false
set_option linter.all false
set_option maxRecDepth 100000
set_option maxHeartbeats 2000000
/-! R3: check_both. -/
namespace K0
open PySem PySem.Spec PyProof.Rows L2 GxR Tk
variable [LamTab]
abbrev sCkB : Stmt := t_check_both
def scpD : PyData → PyData
  | .tuple [_, sc, _] => sc
  | _ => .none
theorem wood_parts {d : PyData} (h : woodB d = true) (k : okD d = true) : ∃ a ns rs, d = .tuple [a, .tuple ns, rs] ∧ noDict (.tuple ns) = true ∧ SeqAt.shaped (.tuple ns) = true ∧ ∀ x ∈ ns, isStr x = true := by
  unfold woodB at h
  obtain ⟨h1, _⟩ := (Bool.and_eq_true _ _).mp h
  obtain ⟨a, b, c, rfl⟩ := head_three h1
  obtain ⟨_, h2⟩ := (Bool.and_eq_true _ _).mp ((wood_eq a b c).symm.trans h)
  obtain ⟨h3, _⟩ := (Bool.and_eq_true _ _).mp h2
  have kb : okD b = true := okDs_mem (okD_tup k).2 (by simp)
  unfold scopeB at h3
  obtain ⟨h4, h5⟩ := (Bool.and_eq_true _ _).mp h3
  cases b with
  | tuple ns =>
    have h6 := ((Bool.and_eq_true _ _).mp h5).1
    have hs : ∀ x ∈ ns, isStr x = true := fun x hx => name_str (List.all_eq_true.mp h6 x hx)
    obtain ⟨g1, g2, _⟩ := tupF_shaped (xs := ns) (fun x hx => by
      have := hs x hx
      cases x <;> first | rfl | cases this) kb
    exact ⟨a, ns, c, rfl, g1, g2, hs⟩
  | _ => cases h4
def spB2 (K : PySem.W.Frag) (T : List Addr) (CW CO : Addr) : Sp := fun vs H Q E => vs.length = 2 ∧ Tbs T H ∧ ∃ B d e, Le B H ∧ Ds K B vs [d, e] ∧ okD d = true ∧ okD e = true ∧
  (woodB d = false → ∀ H', Le H H' → E (.ref CW) none H') ∧ (woodB d = true → woodB e = false → ∀ H', Le H H' → E (.ref CW) none H') ∧ (woodB d = true → woodB e = true → PyData.eqv (scpD d) (scpD e) = false → ∀ H', Le H H' → E (.ref CO) none H') ∧
  (woodB d = true → woodB e = true → PyData.eqv (scpD d) (scpD e) = true → ∀ H', Le H H' → Q .non H')
section
variable {P : Program} {w : World} {K : PySem.W.Frag} {mg : Str → Option Value} {base : Heap} {f : Addr} {fd : FuncData} {T : List Addr} {CW CO : Addr}
theorem scCkB : FnScope ["one", "other"] ["one", "other"] (defScope sCkB) := ⟨rfl, rfl, rfl, by decide +kernel, rfl, by decide +kernel, by decide +kernel⟩
theorem ok_ckB {f1 : Addr} {fd1 : FuncData} (G1 : FnOk P w K mg base (L2.CX P w) 6 f1 fd1 ["wood"] (spChk K T woodB CW)) (m1 : mg "check_wood" = some (.ref f1)) (k1 : PySem.W.keepIn K (.ref f1) = true) (b1 : Binds K fd1 ["wood"] [])
    (xS : PySem.W.excIn K CO [.type "ValueError", .type "Exception", .type "BaseException", .type "object"] "ValueError.__new__" = true) (gS : mg "OtherScope" = some (.ref CO)) (kS : PySem.W.keepIn K (.ref CO) = true) (bS : PySem.W.subIn K (.ref CO) (.type "BaseException") = some true) (tS : PySem.W.typeIn K (.ref CO) = some (.type "type"))
    (F : L2.Fun K "check_both" "check_both" sCkB f fd) : FnOk P w K mg base (L2.CX P w) 7 f fd ["one", "other"] (spB2 K T CW CO) := by
  refine F.okX scCkB (fun vs H Q E h => h.1) fun cdv A outer s H vs Q E hr hsp => ?_
  obtain ⟨hl, ht, B0, d, e, l0, hd0, okd, oke, h1, h2, h3, h4⟩ := hsp
  obtain ⟨B, lB, l, t, up⟩ := with_tables ht l0
  have hd := Ds.le lB hd0
  obtain ⟨v1, v2, rfl, g1, g2⟩ := ds2 hd
  have hu := hu64 hr
  show WB (cxOf (L2.CX P w) P w K mg base ["one", "other"] "check_both" (defScope sCkB) f cdv A outer s H E) (defBody sCkB) { nx := fun _ H' => Q .non H', rt := Q } (start ["one", "other"] [v1, v2]) H
  refine wb_cons ⟨_, ps_expr (pe_call (CX := L2.CX P w) (E := E) G1 hr rfl m1 k1 b1 .nil (passes_call (takes_of rfl rfl rfl rfl) fun _ _ _ _ h => h) (pa_cons (pe_var (i := 0) rfl (by first | exact Or.inl rfl | exact Or.inr (Or.inl rfl) | exact Or.inr (Or.inr rfl))) pa_nil) (by decide) rfl rfl), _, rfl, ?_⟩
  refine ⟨rfl, ht, B, d, l, .cons g1 .nil, okd, fun eW H2 l2 => ?_, h1⟩
  refine wb_cons ⟨_, ps_expr (pe_call (CX := L2.CX P w) (E := E) G1 hr rfl m1 k1 b1 .nil (passes_call (takes_of rfl rfl rfl rfl) fun _ _ _ _ h => h) (pa_cons (pe_var (i := 1) rfl (by first | exact Or.inl rfl | exact Or.inr (Or.inl rfl) | exact Or.inr (Or.inr rfl))) pa_nil) (by decide) rfl rfl), _, rfl, ?_⟩
  refine ⟨rfl, ht.le l2, B, e, l.trans l2, .cons g2 .nil, oke, fun eO H3 l3 => ?_, fun eO H3 l3 => h2 eW eO H3 (l2.trans l3)⟩
  obtain ⟨a, ns, rs, rfl, q1, q2, _⟩ := wood_parts eW okd
  obtain ⟨a', ns', rs', rfl, q3, q4, _⟩ := wood_parts eO oke
  refine wb_one (ws_if (k := !PyData.eqv (.tuple ns) (.tuple ns')) ((l.trans l2).trans l3) (et_cmp (op_neD hu) (rr_neD q1 q3 q2 q4) (ee_ix ix_tup (rr_ixT (d := .tuple ns) (atI_nat (j := 1) rfl)) (ee_var (i := 0) rfl g1) ee_int) (ee_ix ix_tup (rr_ixT (d := .tuple ns') (atI_nat (j := 1) rfl)) (ee_var (i := 1) rfl g2) ee_int)) (fun ek H4 l4 => ?_) fun ek H4 l4 => ?_)
  · exact wb_one ⟨_, ps_raise rfl (takes_of rfl rfl rfl rfl) (pmk_own PySem.F.excBase_ValueError (q := xS) gS kS (raises_own bS tS) rfl), h3 eW eO (bno ek) H4 ((l2.trans l3).trans l4)⟩
  · exact wb_nil (h4 eW eO (bys ek) H4 ((l2.trans l3).trans l4))
end
end K0


set_option Elab.async false
set_option linter.all false
set_option maxRecDepth 100000
set_option maxHeartbeats 4000000
/-! R5: tie. -/
namespace K0
open PySem PySem.Spec PyProof.Rows L2 GxR Tk
variable [LamTab]
/-- of two woods -/
def spTw2 (K : PySem.W.Frag) (T : List Addr) (CW CO : Addr) (vF : List Nd → List Nd → PyData) : Sp := fun vs H Q E => vs.length = 2 ∧ Tbs T H ∧ ∃ B d e, Le B H ∧ Ds K B vs [d, e] ∧ okD d = true ∧ okD e = true ∧
  (woodB d = false → ∀ H', Le H H' → E (.ref CW) none H') ∧ (woodB d = true → woodB e = false → ∀ H', Le H H' → E (.ref CW) none H') ∧ (woodB d = true → woodB e = true → PyData.eqv (scpD d) (scpD e) = false → ∀ H', Le H H' → E (.ref CO) none H') ∧
  (woodB d = true → woodB e = true → PyData.eqv (scpD d) (scpD e) = true → ∃ a sc R a' sc' S, d = .tuple [a, sc, .tuple (R.map ndD)] ∧ e = .tuple [a', sc', .tuple (S.map ndD)] ∧ twoP R S ∧ ∀ v B' H', Up B H B' H' → Dt K B' v (vF R S) → Q v H')
theorem wtR_met {R S : List Nd} : ∃ n, (wtR R S).1 = metN R S n := by
  have : ∀ f i, ∃ n, (wt R S f i).1 = metN R S n := by
    intro f
    induction f with
    | zero => intro i; exact ⟨i, rfl⟩
    | succ f ih =>
      intro i
      unfold wt
      split
      · exact ⟨i, rfl⟩
      · split
        · exact ih (i + 1)
        · exact ⟨i, rfl⟩
  exact this _ _
theorem wtR_nd {R S : List Nd} (h : twoP R S) : ((wtR R S).1.map (·.1)).Nodup := by
  obtain ⟨n, e⟩ := wtR_met (R := R) (S := S)
  rw [e]
  exact (met_inv h.1 h.2.1 h.2.2.1 h.2.2.2.1 n).nd
theorem et_isN {X : Cx} {σ : L2.St} {B : Hp} {i : Nat} {x : Str} {o : Option Nat} {k : Nat} {p pos pos' : Pos} (hσ : σ[i]? = some (some (unV o))) (hN : X.N[i]? = some x := by rfl) (hv : Vis X.env.scope x := by first | exact Or.inl rfl | exact Or.inr (Or.inl rfl) | exact Or.inr (Or.inr rfl))
    (hdb : (x == ("__debug__" : Str)) = false := by decide) (hcd : (x == ("__classdict__" : Str)) = false := by decide) : ET X (.Compare (.Name x p) [.Is] [.Constant .none k pos'] pos) σ B o.isNone := fun H1 l Q q => by
  refine ⟨_, pt_cmp (pc_isN (pe_var hN hv hdb hcd)), ?_⟩
  refine ⟨_, hσ, ?_⟩
  have e : decide (unV o = .non) = o.isNone := by cases o <;> rfl
  show ∃ c, V.bl (decide (unV o = .non)) = V.bl c ∧ Q c H1
  rw [e]
  exact ⟨_, rfl, q H1 (Le.refl _)⟩
section
variable {P : Program} {w : World} {K : PySem.W.Frag} {mg : Str → Option Value} {base : Heap} {f : Addr} {fd : FuncData} {T : List Addr} {CW CO : Addr}
/-- walked_together, as it is known -/
structure WtAt (P : Program) (w : World) (K : PySem.W.Frag) (mg : Str → Option Value) (base : Heap) (T : List Addr) : Prop where
  ex : ∃ (f : Addr) (fd : FuncData), FnOk P w K mg base CX0 1 f fd ["mine", "theirs"] (spWt K T) ∧ mg "walked_together" = some (.ref f) ∧ PySem.W.keepIn K (.ref f) = true ∧ Binds K fd ["mine", "theirs"] []
structure CbAt (P : Program) (w : World) (K : PySem.W.Frag) (mg : Str → Option Value) (base : Heap) (T : List Addr) (CW CO : Addr) : Prop where
  ex : ∃ (f : Addr) (fd : FuncData), FnOk P w K mg base (L2.CX P w) 7 f fd ["one", "other"] (spB2 K T CW CO) ∧ mg "check_both" = some (.ref f) ∧ PySem.W.keepIn K (.ref f) = true ∧ Binds K fd ["one", "other"] []
end
end K0


set_option Elab.async false
set_option linter.all false
set_option maxRecDepth 100000
set_option maxHeartbeats 1000000
/-! Rv0: t[::-1] of a tuple. -/
namespace Tk
open PySem PySem.Spec PyProof.Rows L2 HT
variable [LamTab]
section
variable {prog : Program} {w : World} {A : Around} {E : Value → Shared → Prop} {s : Shared}
theorem rev_places (n : Nat) : Builtin.Slice.slicePlaces ((n : Int) - 1) (-1) (-1) = n := by
  unfold Builtin.Slice.slicePlaces
  rw [if_neg (show ¬ ((-1 : Int) > 0) by decide)]
  by_cases h : ((n : Int) - 1) > -1
  · rw [if_pos h, show -(-1 : Int) = 1 by decide, Int.ediv_one]
    omega
  · rw [if_neg h]
    have : n = 0 := by omega
    subst this
    rfl
theorem fm_map {α β : Type} {f : α → Option β} {g : α → β} : ∀ {l : List α}, (∀ x ∈ l, f x = some (g x)) → l.filterMap f = l.map g
  | [], _ => rfl
  | x :: l, h => by
    rw [List.filterMap_cons, h x List.mem_cons_self, List.map_cons, fm_map fun y hy => h y (List.mem_cons_of_mem _ hy)]
theorem rev_pick (xs : Array Value) : ((List.range xs.size).filterMap fun (m : Nat) => xs[((xs.size : Int) - 1 + (m : Int) * (-1)).toNat]?) = xs.toList.reverse := by
  have e : ((List.range xs.size).filterMap fun (m : Nat) => xs[((xs.size : Int) - 1 + (m : Int) * (-1)).toNat]?) = (List.range xs.size).map fun m => xs.toList.reverse.getD m Value.none := by
    refine fm_map fun m hm => ?_
    have hm : m < xs.size := List.mem_range.mp hm
    have i1 : ((xs.size : Int) - 1 + (m : Int) * (-1)).toNat = xs.size - 1 - m := by omega
    have hr : m < xs.toList.reverse.length := by rw [List.length_reverse, Array.length_toList]; exact hm
    rw [i1]
    show _ = some _
    rw [List.getD_eq_getElem?_getD, List.getElem?_reverse (by rw [Array.length_toList]; exact hm), Array.length_toList, Array.getElem?_toList]
    have h2 : xs.size - 1 - m < xs.size := by omega
    rw [Array.getElem?_eq_getElem h2]
    rfl
  rw [e]
  refine List.ext_getElem ?_ fun i h1 h2 => ?_
  · rw [List.length_map, List.length_range, List.length_reverse, Array.length_toList]
  · rw [List.getElem_map, List.getElem_range, List.getD_eq_getElem?_getD, List.getElem?_eq_getElem h2]
    rfl
theorem applied_rev {sl : Addr} {u : Tok} {n : Nat} {Q : Int × Int × Nat → Shared → Prop} (hs : s.heap.IsSliceOf sl .none .none (.int (-1) u)) (h : Q ((n : Int) - 1, -1, n) s) : wpAny (model prog w) A (Builtin.Slice.sliceApplied (.ref sl) (pure (n : Int))) Q E s := by
  obtain ⟨os, hos, hcs, hds⟩ := id hs
  unfold Builtin.Slice.sliceApplied Builtin.Slice.sliceFields
  refine wpAny_bind (wpAny_bind (wpAny_field hos hds (x := .none) rfl (wpAny_bind (wpAny_field hos hds (x := .none) rfl (wpAny_bind (wpAny_field hos hds (x := .int (-1) u) rfl (wpAny_pure ?_)))))))
  refine wpAny_bind (slicePart_int ?_)
  show wpAny _ _ (if ((-1 : Int) == 0) = true then _ else _) _ _ s
  rw [if_neg (by decide)]
  refine wpAny_bind (slicePart_none (wpAny_bind (slicePart_none (wpAny_bind (wpAny_pure ?_)))))
  show wpAny _ _ (pure ((n : Int) - 1, (-1 : Int), Builtin.Slice.slicePlaces ((n : Int) - 1) (-1) (-1))) _ _ s
  rw [rev_places]
  exact wpAny_pure h
theorem getItem_rev {t sl : Addr} {items : Array Value} {u : Tok} {Q : Value → Shared → Prop} (ht : IsTup s.heap t items) (hs : s.heap.IsSliceOf sl .none .none (.int (-1) u))
    (h : Q (.ref s.heap.objs.size) { s with heap := s.heap.push { cls := .type "tuple", data := .seq items.toList.reverse.toArray } }) (hsz : items.size ≤ sizeLine) : wpAny (model prog w) A (getItem (.ref t) (.ref sl)) Q E s := by
  have hok : sizeOk (.seq items.toList.reverse.toArray) := by
    show items.toList.reverse.toArray.size ≤ sizeLine
    rw [List.size_toArray, List.length_reverse, Array.length_toList]
    exact hsz
  obtain ⟨os, hos, hcs, hds⟩ := id hs
  have hTs : s.TypeIs (.ref sl) "slice" := ⟨os, hos, hcs⟩
  unfold getItem
  try with_reducible refine wpAny_holding ?_
  first | refine wpAny_bind (wpAny_pure ?_) | skip
  refine wpAny_bind (wpAny_sequenceKey ht.typeIs (by decide) ?_)
  refine wpAny_bind (wpAny_callSpecial?_slot (name := Str.ofString "__getitem__") ht.typeIs PyProof.Rows.slot_tuple_getitem
    (wpAny_call_entry PyProof.Rows.slot_tuple_getitem ht.typeIs entry_tuple_getitem ?_ (args_tuple_getitem _ _)))
  show wpAny _ _ (Builtin.Tuple.tupleItemsOf (.ref t) >>= _) _ _ s
  refine wpAny_bind (tupleItemsOf_ ht ?_)
  refine wpAny_bind (wpAny_typeOf hTs ?_)
  rw [if_pos (by decide)]
  refine wpAny_bind (applied_rev hs ?_)
  show wpAny _ _ (if (((items.size : Int) - 1) == 0 && (-1 : Int) == 1 && items.size == items.size) = true then _ else _) _ _ s
  rw [if_neg (by rw [show ((-1 : Int) == 1) = false by decide, Bool.and_false, Bool.false_and]; decide), rev_pick]
  first
    | exact wpAny_bind (m := Builtin.Tuple.tupleExact _) (wpAny_newObj_type (wpAny_pure ⟨_, rfl, wpAny_pure h⟩) hok)
    | exact wpAny_bind (m := Builtin.Tuple.tupleExact _) (wpAny_newObj_type (wpAny_bind (wpAny_pure (wpAny_pure ⟨_, rfl, wpAny_pure h⟩))) hok)
    | exact wpAny_bind (wpAny_bind (m := Builtin.Tuple.tupleExact _) (wpAny_newObj_type (wpAny_pure (wpAny_pure ⟨_, rfl, wpAny_pure h⟩)) hok))
    | exact wpAny_bind (wpAny_bind (m := Builtin.Tuple.tupleExact _) (wpAny_newObj_type (wpAny_pure ⟨_, rfl, wpAny_pure h⟩) hok))
end
section
variable {X : Cx} {e c : Expr} {te tc : TE} {pos p2 : Pos}
def rRevT (K : PySem.W.Frag) : V → Hp → VK → Prop := fun x H Q => ∃ a xs, x = .ref a ∧ SqT K H a xs ∧ ∀ p, H p = none → Q (.ref p) (upd H p (.tup xs.reverse))
theorem vals_rev : ∀ {xs : List V} {us : List Value}, Vals xs us → Vals xs.reverse us.reverse
  | _, _, .nil => .nil
  | _, _, .cons h t => by
    rw [List.reverse_cons, List.reverse_cons]
    exact (vals_rev t).append (.cons h .nil)
theorem pe_rev (he : PE X e te) (hc : PE X c tc) : PE X (.Subscript e (.Slice none none (some c) p2) pos) (fun σ H Q => te σ H fun x H1 => tc σ H1 fun y H2 => y = .int (-1) ∧ rRevT X.K x H2 Q) := by
  refine ⟨fun pins s σ H Q I h => ?_⟩
  refine Subscript_ (thn (he.run pins s σ H _ I h) fun v s1 ⟨x, H1, I1, r1, q1⟩ => ?_)
  refine wpAny_Slice ?_
  rw [evalPart_none]
  refine wpAny_pure ?_
  refine wpAny_pure ?_
  rw [evalPart_some]
  refine thn (hc.run pins s1 σ H1 _ I1 q1) fun vu s3 ⟨y, H3, I3, ry, hy, a, xs, hxa, hx, q⟩ => ?_
  subst hy hxa
  obtain ⟨u, rfl⟩ := ry
  cases r1
  have I4 : Inv X pins σ H3 { s3 with heap := s3.heap.push { cls := .type "slice", data := .fields #[.none, .none, .int (-1) u] } } := I3.kept (t' := s3.toks) fun b ob q => Heap.get?_push_of_some _ q
  obtain ⟨its, r, ht, hz⟩ := I4.tuple hx
  have hlen : its.toArray.size = xs.length := by rw [List.size_toArray]; exact r.length.symm
  show wpAny (model X.prog X.w) X.A (subscriptTail e (.Slice none none (some c) p2) (.ref a) (.ref s3.heap.objs.size)) (EP X pins σ Q) X.xe { s3 with heap := s3.heap.push { cls := .type "slice", data := .fields #[.none, .none, .int (-1) u] } }
  refine tail_any (ops := [.ref a, .ref s3.heap.objs.size]) ht.typeIs PyProof.Rows.slot_tuple_getitem.lookup ?_ (by with_unfolding_all rfl)
  refine getItem_rev ht (Heap.IsSliceOf.new ..) ?_ (by rw [hlen]; exact hz)
  refine ⟨.ref _, _, I4.laid (t' := s3.toks) (o := .tup xs.reverse) (fun b ob q => Heap.get?_push_of_some _ q) (Nat.le_refl _) ?_, rfl, q _ (I4.hok.fresh (Nat.le_refl _))⟩
  exact ⟨by rw [List.length_reverse]; exact hz, _, vals_rev r, IsTup.new _ _⟩
end
section
open GxR Gx
variable {X : Cx} {e c : Expr} {σ : L2.St} {B : Hp} {pos p2 : Pos} {xs : List PyData} {K : PySem.W.Frag} {H : Hp}
theorem _root_.Tk.Ds.rev : ∀ {vs : List V} {ds : List PyData}, Ds K H vs ds → Ds K H vs.reverse ds.reverse
  | _, _, .nil => .nil
  | _, _, .cons h t => by
    rw [List.reverse_cons, List.reverse_cons]
    exact (Ds.rev t).snoc h
theorem ee_rev (ha : EE X e σ B (.tuple xs)) (hc : EE X c σ B (.int (-1))) : EE X (.Subscript e (.Slice none none (some c) p2) pos) σ B (.tuple xs.reverse) := fun H1 l Q q =>
  ⟨_, pe_rev pe_w pe_w, ha H1 l _ fun v B2 H2 u2 dv => hc.mono u2.b H2 u2.s _ fun y B3 H3 u3 dy => by
    cases dy
    cases dv with
    | tup s t h0 =>
      have u := u2.trans u3
      exact ⟨rfl, _, _, rfl, sqT_le (u3.b.trans u3.s) s, fun p hp => q _ _ _ (u.new hp fun ps z => by cases z) (.new_tup upd_same (Ds.rev (Ds.le (u3.b.trans (Le.new (u3.s.there p hp))) h0)))⟩⟩
end
end Tk


set_option Elab.async false
set_option linter.all false
set_option maxRecDepth 100000
set_option maxHeartbeats 4000000
/-! R6: parting. -/
namespace K0
open PySem PySem.Spec PyProof.Rows L2 GxR Tk
variable [LamTab]
abbrev sPt : Stmt := t_parting
def NPt : List Str := ["one", "other", "_", "origins", "unlike", "place", "at", "way"]
theorem scPt : FnScope NPt ["one", "other"] (defScope sPt) := ⟨rfl, rfl, rfl, by decide +kernel, rfl, by decide +kernel, by decide +kernel⟩
theorem ndPt : List.Nodup NPt := by decide +kernel
def placeM (L : List Mt) (i : Nat) : List Nat := match L[i]? with
  | some x => x.2.2
  | none => []
def partV (R S : List Nd) : PyData := match (wtR R S).2 with
  | none => .none
  | some i => .tuple (idD (placeM (wtR R S).1 i))
theorem wt_lt {R S : List Nd} : ∀ (f i k : Nat), (wt R S f i).2 = some k → k < (wt R S f i).1.length
  | 0, i, k, h => by cases h
  | f + 1, i, k, h => by
    cases hy : (metN R S i)[i]? with
    | none =>
      rw [wt, hy] at h
      cases h
    | some y =>
      cases hl : likeM R S y.1 with
      | true =>
        rw [wt_like hy hl] at h ⊢
        exact wt_lt f (i + 1) k h
      | false =>
        rw [wt_unlike hy hl] at h ⊢
        cases h
        exact (List.getElem?_eq_some_iff.mp hy).1
theorem wb_nox {X : Cx} {st : List Stmt} {D : L2.Ends} {σ : L2.St} {H : Hp} (h : WB X.nox st D σ H) : WB X st D σ H := by
  obtain ⟨t, t1, t2⟩ := h
  exact ⟨t, t1.nox, t2⟩
theorem ee_revL {X : Cx} {e : Expr} {σ : L2.St} {B : Hp} {xs : List PyData} {k : Nat} {p1 p2 p3 pos : Pos} (ha : EE X e σ B (.list xs)) : EE X (.Subscript e (.Slice none none (some (.UnaryOp .USub (.Constant (.int 1) k p1) p2)) p3) pos) σ B (.list xs.reverse) := fun H1 l Q q =>
  ⟨_, pe_revL pe_w, ha H1 l _ fun v B2 H2 u2 dv => by
    cases dv with
    | lst s t h0 => exact ⟨_, _, rfl, sqL_le u2.s s, fun p hp => q _ _ _ (u2.new hp fun ps z => by cases z) (.new_lst upd_same (Ds.rev (Ds.le (Le.new (u2.s.there p hp)) h0)))⟩⟩
section
variable {P : Program} {w : World} {K : PySem.W.Frag} {mg : Str → Option Value} {base : Heap} {f : Addr} {fd : FuncData} {T : List Addr} {CW CO : Addr}
theorem ok_parting (BL : Blt mg) (GC : CbAt P w K mg base T CW CO) (GW : WtAt P w K mg base T) (F : L2.Fun K "parting" "parting" sPt f fd) : FnOk P w K mg base (L2.CX P w) 8 f fd ["one", "other"] (spTw2 K T CW CO partV) := by
  obtain ⟨f1, fd1, G1, m1, k1, b1⟩ := GC.ex
  obtain ⟨f2, fd2, G2, m2, k2, b2⟩ := GW.ex
  refine F.okX scPt (fun vs H Q E h => h.1) fun cdv A outer s H vs Q E hr hsp => ?_
  obtain ⟨hl, ht, B, d, e, l, hd, okd, oke, h1, h2, h3, h4⟩ := hsp
  obtain ⟨v1, v2, rfl, g1, g2⟩ := ds2 hd
  show WB (cxOf (L2.CX P w) P w K mg base NPt "parting" (defScope sPt) f cdv A outer s H E) (defBody sPt) { nx := fun _ H' => Q .non H', rt := Q } (start NPt [v1, v2]) H
  refine wb_cons ⟨_, ps_expr (pe_call (CX := L2.CX P w) (E := E) G1 hr rfl m1 k1 b1 .nil (passes_call (takes_of rfl rfl rfl rfl) fun _ _ _ _ h => h) (pa_cons (pe_var (i := 0) rfl (by first | exact Or.inl rfl | exact Or.inr (Or.inl rfl) | exact Or.inr (Or.inr rfl))) (pa_cons (pe_var (i := 1) rfl (by first | exact Or.inl rfl | exact Or.inr (Or.inl rfl) | exact Or.inr (Or.inr rfl))) pa_nil)) (by decide) rfl rfl), _, rfl, _, rfl, ?_⟩
  refine ⟨rfl, ht, B, d, e, l, hd, okd, oke, h1, h2, h3, fun eW eO eS H2 l2 => ?_⟩
  obtain ⟨a, sc, R, a', sc', S, rfl, rfl, tw, hq⟩ := h4 eW eO eS
  obtain ⟨B4, l4, l5, t4, up⟩ := with_tables (ht.le l2) (l.trans l2)
  have g1 := Dt.le l4 g1
  have g2 := Dt.le l4 g2
  refine wb_cons ⟨_, ps_asg (pe_call (CX := CX0) (E := L2.E0) G2 (hr.mono (by decide)) rfl m2 k2 b2 .nil pass0 (pa_cons pe_w (pa_cons pe_w pa_nil)) (by decide) rfl rfl) (pg_tup rfl (pgs_cons (pg_name (i := 2) ndPt rfl (by first | exact Or.inl rfl | exact Or.inr rfl) (by first | exact Or.inl rfl | exact Or.inr rfl)) (pgs_cons (pg_name (i := 3) ndPt rfl (by first | exact Or.inl rfl | exact Or.inr rfl) (by first | exact Or.inl rfl | exact Or.inr rfl)) (pgs_cons (pg_name (i := 4) ndPt rfl (by first | exact Or.inl rfl | exact Or.inr rfl) (by first | exact Or.inl rfl | exact Or.inr rfl)) pgs_nil)))), ?_⟩
  refine (ee_ix ix_tup (rr_ixT (d := .tuple (R.map ndD)) (atI_nat (j := 2) rfl)) (ee_var (i := 0) rfl g1) ee_int) H2 l5 _ fun x1 B5 H5 u5 d5 => ?_
  refine (ee_ix ix_tup (rr_ixT (d := .tuple (S.map ndD)) (atI_nat (j := 2) rfl)) (ee_var (i := 1) rfl (Dt.le u5.b g2)) ee_int) H5 u5.s _ fun x2 B6 H6 u6 d6 => ?_
  have u56 := u5.trans u6
  refine ⟨rfl, (t4.le l5).le u56.h, B6, R, S, u6.s, .cons (Dt.le u6.b d5) (.cons d6 .nil), tw, fun q lp lo pv ov B7 H7 u7 e7 elp elo tp to => ?_⟩
  refine ⟨q, _, rfl, SqT.of (u7.s.keep q _ e7 fun _ z => by cases z), rfl, ?_⟩
  refine ⟨_, _, rfl, _, _, rfl, _, _, rfl, rfl, ?_⟩
  refine wb_nox ?_
  show WB _ _ _ [some v1, some v2, some (.ref lp), some (.ref lo), some (unV (wtR R S).2), none, none, none] H7
  obtain ⟨n, hn⟩ := wtR_met (R := R) (S := S)
  have I := met_inv tw.1 tw.2.1 tw.2.2.1 tw.2.2.2.1 n
  rw [← hn] at I
  have hlt := wt_lt (R := R) (S := S) (R.length * S.length) 0
  have hlen : (wtR R S).1.length ≤ 1000 := by
    rw [hn]
    exact Nat.le_trans (met_len tw.1 tw.2.1 tw.2.2.1 tw.2.2.2.1 n) tw.2.2.2.2.1
  have hV : partV R S = (match (wtR R S).2 with | none => .none | some i => .tuple (idD (placeM (wtR R S).1 i))) := rfl
  have hlt : ∀ k, (wtR R S).2 = some k → k < (wtR R S).1.length := hlt
  rw [hV] at hq
  clear hV
  generalize (wtR R S).2 = un at e7 hq hlt ⊢
  generalize (wtR R S).1 = L at tp to I hlt hlen hq
  have upp : ∀ {B9 H9 : Hp}, Up B7 H7 B9 H9 → Up B H B9 H9 := fun u => up_back l2 (up ((u56.trans u7).trans u))
  refine wb_cons (ws_if (k := un.isNone) u7.s (et_isN (i := 4) rfl) (fun z H8 l8 => ?_) fun z H8 l8 => wb_nil ?_)
  · refine wb_one (ws_ret (B := B7) (d := .none) (u7.s.trans l8) ee_non fun v B9 H9 u9 d9 => hq v B9 H9 (upp ((Up.le u7.s l8).trans u9)) ?_)
    rw [Option.isNone_iff_eq_none.mp z]
    exact d9
  cases un with
  | none => cases z
  | some i0 =>
    have hi0 := hlt i0 rfl
    have hq' : ∀ v B' H', Up B H B' H' → Dt K B' v (.tuple (idD (placeM L i0))) → Q v H' := hq
    have ls := u7.s.trans l8
    refine wb_cons ⟨_, ps_set (i := 5) ndPt rfl (by first | exact Or.inl rfl | exact Or.inr rfl) (pe_lst pa_nil) rfl (by first | exact Or.inl rfl | exact Or.inr rfl), ?_⟩
    refine ⟨by show 0 ≤ sizeLine; exact Nat.zero_le _, fun lq hlq => ?_⟩
    have hB7q : B7 lq = none := ls.there lq hlq
    have u0 := up_mut (Up.refl ls) hlq hB7q (o := .lst (iv []))
    have e1 : (upd H8 lq (.lst (iv []))) lq = some (.lst (iv [])) := upd_same
    have fr : upd H8 lq (.lst (iv [])) = upd H8 lq (.lst []) := rfl
    rw [← fr]
    generalize upd H8 lq (.lst (iv [])) = H9 at u0 e1 ⊢
    refine wb_cons (ws_set (i := 6) (B := B7) u0.s (ee_var (i := 4) rfl (.int (i0 : Int))) (fun v BA HA uA dA => ?_) ndPt)
    cases dA
    have e1 := uA.h.keep lq _ e1 (fun _ z => by cases z)
    have u0 := u0.tab uA.h
    clear uA
    show WB _ _ _ [some v1, some v2, some (.ref lp), some (.ref lo), some (.int (i0 : Int)), some (.ref lq), some (.int (i0 : Int)), none] HA
    refine wb_cons ⟨_, ps_while PassesOwn.never pt_w pss_w, ?_⟩
    refine ⟨fun k σ' H' => ∃ (a : Nat) (ws : List Nat) (a7 : Option V), σ' = [some v1, some v2, some (.ref lp), some (.ref lo), some (.int (i0 : Int)), some (.ref lq), some (.int (a : Int)), a7] ∧ k = a ∧ a < L.length ∧ placeM L a ++ ws.reverse = placeM L i0 ∧ ws.length + a ≤ 1000 ∧ H' lq = some (.lst (iv ws)) ∧ Up B7 H8 B7 H',
      ⟨i0, i0, [], none, rfl, rfl, hi0, by simp, by simp; omega, e1, u0⟩, ?_⟩
    rintro k σ' H' ⟨a, ws, a7, rfl, hka, ha, hp, hw, e1, u0⟩
    refine (et_cmp op_gt rr_gt (ee_var (i := 6) rfl (.int _)) ee_int) H' u0.s _ fun H2' l2' => ?_
    have e1 := l2'.keep lq _ e1 (fun _ z => by cases z)
    have u0 := u0.tab l2'
    clear l2'
    by_cases h0 : a = 0
    · subst h0
      refine (if_neg (by decide)).mpr ?_
      have e9 : ws.reverse = placeM L i0 := by
        rw [← hp]
        unfold placeM
        rw [I.h0]
        rfl
      have ua := up_add u0 hlq hB7q e1 (fun _ z => by cases z)
      refine wb_one (ws_ret (B := upd B7 lq (.lst (iv ws))) (d := .tuple (idD (placeM L i0))) ua.s ((ee_tuple BL (ee_revL (ee_var (i := 5) rfl (.new_lst upd_same (ds_iv ws))))).cast ?_) fun v B9 H9 u9 d9 => hq' v B9 H9 (upp ((Up.le u7.s l8).trans (ua.trans u9))) d9)
      rw [← e9]
      unfold idD
      rw [List.map_reverse]
    · rw [decide_eq_true (show (0 : Int) < (a : Int) by omega)]
      refine (if_pos rfl).mpr ?_
      have hy : L[a]? = some L[a] := List.getElem?_eq_getElem ha
      obtain ⟨c1, c2, _, y, c4, c5, c6⟩ := I.og a L[a] hy (by omega)
      have hat : atI ((L.map (·.2.1)).map pairD) (a : Int) = some (pairD L[a].2.1) := atI_nat (j := a) (by rw [List.getElem?_map, List.getElem?_map, hy]; rfl)
      have pa : placeM L a = placeM L L[a].2.1.1 ++ [L[a].2.1.2] := by
        unfold placeM
        rw [hy, c4]
        exact c5
      generalize L[a].2.1 = og at c1 c2 hat pa
      refine ⟨fun σ2 H5 => ∃ (ws : List Nat) (a7 : Option V), σ2 = [some v1, some v2, some (.ref lp), some (.ref lo), some (.int (i0 : Int)), some (.ref lq), some (.int (og.1 : Int)), a7] ∧ placeM L og.1 ++ ws.reverse = placeM L i0 ∧ ws.length + og.1 ≤ 1000 ∧ H5 lq = some (.lst (iv ws)) ∧ Up B7 H8 B7 H5,
        fun σ2 H5 ⟨ws, a7, z1, z2, z3, z4⟩ => ⟨og.1, by omega, og.1, ws, a7, z1, rfl, by omega, z2, z3, z4⟩, ?_⟩
      refine wb_cons (ws_tgtW (B := B7) (d := pairD og) (es := [.int (og.1 : Int), .int (og.2 : Int)]) (tjs := [6, 7]) (pat := patT 2) (fun Q q => (ee_ix ix_list (rr_ixL hat) (ee_var (i := 3) rfl (.new_lst elo (Tps.ds to))) (ee_var (i := 6) rfl (.int _))) H2' u0.s Q q) (eg_tup rfl (st_cons (st_cons st_nil ndPt) ndPt)) rfl fun us B3 H3 u3 dus => ?_)
      obtain ⟨x1, x2, rfl, dx1, dx2⟩ := ds2 dus
      cases dx1
      cases dx2
      have e1 := u3.h.keep lq _ e1 (fun _ z => by cases z)
      have u0 := u0.tab u3.h
      clear u3 dus
      show WB _ _ _ [some v1, some v2, some (.ref lp), some (.ref lo), some (.int (i0 : Int)), some (.ref lq), some (.int (og.1 : Int)), some (.int (og.2 : Int))] H3
      refine wb_one ⟨_, ps_expr (pe_bm PySem.F.plainAttrs_list PySem.F.slot_list_append PySem.F.type_list_append mt_append (pe_var (i := 5) rfl (by first | exact Or.inl rfl | exact Or.inr (Or.inl rfl) | exact Or.inr (Or.inr rfl))) (pa_cons (pe_var (i := 7) rfl (by first | exact Or.inl rfl | exact Or.inr (Or.inl rfl) | exact Or.inr (Or.inr rfl))) pa_nil)), ?_⟩
      refine ⟨_, rfl, .inl ⟨rfl, _, SqL.of e1⟩, _, rfl, lq, iv ws, .int (og.2 : Int), rfl, rfl, e1, by rw [iv, List.length_map]; exact Nat.lt_of_le_of_lt (show ws.length ≤ 1000 by omega) (by decide), ?_⟩
      refine ⟨ws ++ [og.2], _, rfl, ?_, by rw [List.length_append, List.length_singleton]; omega, ?_, up_mut u0 hlq hB7q⟩
      · rw [← hp, pa, List.reverse_append]
        simp
      · rw [iv_app]
        exact upd_same
end
end K0


set_option Elab.async false
set_option linter.all false
set_option maxRecDepth 100000
set_option maxHeartbeats 4000000
/-! R7: _law_met. -/
namespace K0
open PySem PySem.Spec PyProof.Rows L2 GxR Tk
variable [LamTab]
abbrev sMet : Stmt := t__law_met
def NMet : List Str := ["one", "other", "found", "line", "pair", "way", "goal"]
theorem scMet : FnScope NMet ["one", "other"] (defScope sMet) := ⟨rfl, rfl, rfl, by decide +kernel, rfl, by decide +kernel, by decide +kernel⟩
theorem ndMet : List.Nodup NMet := by decide +kernel
theorem pairD_ok (p : Pr) : okD (pairD p) = true ∧ noDict (pairD p) = true ∧ (pairD p).depth ≤ 1 := ⟨rfl, rfl, by simp [pairD, PyData.depth, PyData.depthAll]⟩
theorem pairs_shaped {ps : List Pr} (h : ps.length ≤ 100000) : noDict (.list (ps.map pairD)) = true ∧ SeqAt.shaped (.list (ps.map pairD)) = true := by
  have n : noDicts (ps.map pairD) = true := noDicts_of fun x hx => by
    obtain ⟨p, _, rfl⟩ := List.mem_map.mp hx
    exact (pairD_ok p).2.1
  have dp : PyData.depthAll (ps.map pairD) ≤ 1 := depthAll_le fun x hx => by
    obtain ⟨p, _, rfl⟩ := List.mem_map.mp hx
    exact (pairD_ok p).2.2
  have k : okD (.list (ps.map pairD)) = true := by
    show (decide ((ps.map pairD).length ≤ 100000) && okDs (ps.map pairD)) = true
    rw [decide_eq_true (by rw [List.length_map]; exact h), okDs_of fun x hx => by
      obtain ⟨p, _, rfl⟩ := List.mem_map.mp hx
      exact (pairD_ok p).1]
    rfl
  have dd : (PyData.list (ps.map pairD)).depth ≤ 2 := by
    simp only [PyData.depth]
    omega
  refine ⟨n, ?_⟩
  unfold SeqAt.shaped
  rw [Bool.and_eq_true]
  exact ⟨okD_lay k n, decide_eq_true (by omega)⟩
/-- the places beside the pairs -/
def Vls (K : PySem.W.Frag) (B : Hp) : List (List L2.Key × V) → List Mt → Prop := Paired fun kv x => kv.1 = keyP x.1 ∧ Dt K B kv.2 (.tuple (idD x.2.2))
theorem Vls.le {K : PySem.W.Frag} {B B2 : Hp} {kvs : List (List L2.Key × V)} {L : List Mt} (l : Le B B2) (h : Vls K B kvs L) : Vls K B2 kvs L := Paired.mapP h fun kv x ⟨e, q⟩ => ⟨e, Dt.le l q⟩
theorem Vls.some {K : PySem.W.Frag} {B : Hp} {kvs : List (List L2.Key × V)} {L : List Mt} (h : Vls K B kvs L) (p : Pr) : (valV kvs (keyP p)).isSome = decide (p ∈ L.map (·.1)) := by
  unfold Vls at h
  induction h with
  | nil => rfl
  | @cons a b as bs r _ ih =>
    obtain ⟨e, _⟩ := r
    by_cases z : b.1 = p
    · rw [valV_pos (by rw [e, z]), decide_eq_true (by rw [List.map_cons, z]; exact List.mem_cons_self)]
      rfl
    · rw [valV_neg (fun y => z (keyP_inj (by rw [← e]; exact y))), ih]
      refine decide_eq_decide.mpr ?_
      rw [List.map_cons, List.mem_cons]
      exact ⟨.inr, fun h => h.resolve_left fun e => z e.symm⟩
theorem Vls.val {K : PySem.W.Frag} {B : Hp} {kvs : List (List L2.Key × V)} {L : List Mt} (h : Vls K B kvs L) (nd : (L.map (·.1)).Nodup) {x : Mt} (hx : x ∈ L) : ∃ v, valV kvs (keyP x.1) = Option.some v ∧ Dt K B v (.tuple (idD x.2.2)) := by
  unfold Vls at h
  induction h with
  | nil => cases hx
  | @cons a b as bs r _ ih =>
    obtain ⟨e, q⟩ := r
    rw [List.map_cons, List.nodup_cons] at nd
    rcases List.mem_cons.mp hx with z | z
    · subst z
      exact ⟨a.2, valV_pos e, q⟩
    · have ne : ¬ b.1 = x.1 := fun y => nd.1 (by rw [y]; exact List.mem_map.mpr ⟨x, z, rfl⟩)
      obtain ⟨v, v1, v2⟩ := ih nd.2 z
      exact ⟨v, by rw [valV_neg (fun y => ne (keyP_inj (by rw [← e]; exact y)))]; exact v1, v2⟩
theorem Vls.put {K : PySem.W.Frag} {B : Hp} {kvs : List (List L2.Key × V)} {L : List Mt} (h : Vls K B kvs L) {x : Mt} (hn : x.1 ∉ L.map (·.1)) {v : V} (hv : Dt K B v (.tuple (idD x.2.2))) : Vls K B (putK kvs (keyP x.1) v) (L ++ [x]) := by
  have e : valV kvs (keyP x.1) = Option.none := by
    have := h.some x.1
    rw [decide_eq_false hn] at this
    exact Option.isNone_iff_eq_none.mp (by rw [← Option.not_isSome, this]; rfl)
  rw [putK_new v e]
  exact Paired.snoc h ⟨rfl, hv⟩
end K0


set_option Elab.async false
set_option linter.all false
set_option maxRecDepth 100000
set_option maxHeartbeats 2000000
/-! Ap: pairs of nodes apart, told on until they stay. -/
namespace K0
open PySem PySem.Spec PyProof.Rows L2 GxR Tk
variable [LamTab]
theorem eqv_pair {a b : Pr} : PyData.eqv (pairD a) (pairD b) = decide (a = b) := by
  obtain ⟨a1, a2⟩ := a
  obtain ⟨b1, b2⟩ := b
  unfold pairD
  simp only [PyData.eqv, PyData.eqvAll, Bool.and_true]
  by_cases h : (a1, a2) = (b1, b2)
  · obtain ⟨rfl, rfl⟩ := Prod.mk.injEq .. ▸ h
    simp
  · rw [decide_eq_false h]
    have : ¬ (a1 = b1 ∧ a2 = b2) := fun z => h (by rw [z.1, z.2])
    by_cases z : a1 = b1
    · have z2 : ¬ a2 = b2 := fun y => this ⟨z, y⟩
      simp
      omega
    · simp
      omega
theorem any_pair {ps : List Pr} {p : Pr} : ((ps.map pairD).any fun z => PyData.eqv z (pairD p)) = decide (p ∈ ps) := by
  rw [List.any_map]
  induction ps with
  | nil => rfl
  | cons q ps ih =>
    rw [List.any_cons, ih]
    show (PyData.eqv (pairD q) (pairD p) || _) = _
    rw [eqv_pair]
    by_cases z : q = p
    · subst z; simp
    · have : ¬ p = q := fun y => z y.symm
      simp [z, this]
def hitP (R : List Nd) (AP : List Pr) (p : Pr) : Prop := (gow R p.1 0, gow R p.2 0) ∈ AP ∨ (gow R p.1 1, gow R p.2 1) ∈ AP
instance {R : List Nd} {AP : List Pr} {p : Pr} : Decidable (hitP R AP p) := by unfold hitP; infer_instance
structure AI (R : List Nd) (AP : List Pr) : Prop where
  rg : ∀ p ∈ AP, p.1 < R.length ∧ p.2 < R.length ∧ ¬ Bs R p.1 R p.2
  nd : AP.Nodup
def prs (n : Nat) : List Pr := (List.range n).flatMap fun x => (List.range n).map fun y => (x, y)
theorem prs_len (n : Nat) : (prs n).length = n * n := by
  unfold prs
  have e : ∀ l : List Nat, (l.flatMap fun x => (List.range n).map fun y => (x, y)).length = l.length * n := fun l => by
    induction l with
    | nil => simp
    | cons a l ih => rw [List.flatMap_cons, List.length_append, ih, List.length_map, List.length_range, List.length_cons, Nat.succ_mul]; omega
  rw [e, List.length_range]
theorem prs_mem {n : Nat} {p : Pr} (h1 : p.1 < n) (h2 : p.2 < n) : p ∈ prs n := List.mem_flatMap.mpr ⟨p.1, List.mem_range.mpr h1, List.mem_map.mpr ⟨p.2, List.mem_range.mpr h2, rfl⟩⟩
section
variable {R : List Nd} {AP : List Pr}
theorem AI.len (h : AI R AP) : AP.length ≤ R.length * R.length := by
  have := sub_len AP (prs R.length) h.nd fun p hp => prs_mem (h.rg p hp).1 (h.rg p hp).2.1
  rw [prs_len] at this
  exact this
theorem AI.nil : AI R [] := ⟨(fun p hp => nomatch hp), List.nodup_nil⟩
theorem AI.add (h : AI R AP) {p : Pr} (h1 : p.1 < R.length) (h2 : p.2 < R.length) (h3 : ¬ Bs R p.1 R p.2) (hn : p ∉ AP) : AI R (AP ++ [p]) := ⟨(fun q hq => by
    rcases List.mem_append.mp hq with z | z
    · exact h.rg q z
    · rw [List.mem_singleton.mp z]; exact ⟨h1, h2, h3⟩), List.nodup_append.mpr ⟨h.nd, by simp, fun a ha b hb e => hn (by rw [List.mem_singleton.mp hb] at e; exact e ▸ ha)⟩⟩
theorem AI.hit (h : AI R AP) {p : Pr} (z : hitP R AP p) : ¬ Bs R p.1 R p.2 := fun b => by
  rcases z with z | z
  · exact (h.rg _ z).2.2 (b.step 0)
  · exact (h.rg _ z).2.2 (b.step 1)
/-- all pairs of unlike letters, those ahead of (i, j) -/
def done0 (R : List Nd) (AP : List Pr) (i j : Nat) : Prop := ∀ x y, x < R.length → y < R.length → (x < i ∨ (x = i ∧ y < j)) → lt1 R x ≠ lt1 R y → (x, y) ∈ AP
def ahead (AP : List Pr) (i j : Nat) : Prop := ∀ p ∈ AP, p.1 < i ∨ (p.1 = i ∧ p.2 < j)
/-- of all pairs ahead of (i, j) whose goals were hit then -/
def done1 (R : List Nd) (A0 AP : List Pr) (i j : Nat) : Prop := ∀ x y, x < R.length → y < R.length → (x < i ∨ (x = i ∧ y < j)) → hitP R A0 (x, y) → (x, y) ∈ AP
theorem apart_iff (h : AI R AP) (kR : rowsOk R) (d0 : ∀ x y, x < R.length → y < R.length → lt1 R x ≠ lt1 R y → (x, y) ∈ AP) (d1 : ∀ x y, x < R.length → y < R.length → hitP R AP (x, y) → (x, y) ∈ AP) {x y : Nat} (hx : x < R.length) (hy : y < R.length) : (x, y) ∉ AP ↔ Bs R x R y := by
  constructor
  · intro hn ws
    induction ws generalizing x y with
    | nil =>
      apply Classical.byContradiction
      intro z
      exact hn (d0 x y hx hy z)
    | cons w ws ih =>
      refine ih (gow_lt kR hx) (gow_lt kR hy) fun z => hn (d1 x y hx hy ?_)
      by_cases e : w = 0
      · subst e; exact .inl z
      · rw [gow_one e, gow_one (w := w) e] at z
        exact .inr z
  · intro b z
    exact (h.rg _ z).2.2 b
theorem chief_lt {x : Nat} (h : x < R.length) : chief R x < R.length := Nat.lt_of_le_of_lt chief_le h
/-- the least of those that are not apart stands first -/
theorem chief_head (ap : ∀ x y, x < R.length → y < R.length → ((x, y) ∉ AP ↔ Bs R x R y)) {x : Nat} (hx : x < R.length) : ∃ rest, (List.range R.length).filter (fun y => decide ((x, y) ∉ AP)) = chief R x :: rest ∧ ∀ y ∈ rest, chief R x < y := by
  have pw : ((List.range R.length).filter (fun y => decide ((x, y) ∉ AP))).Pairwise (· < ·) := List.Pairwise.filter _ List.pairwise_lt_range
  have mc : chief R x ∈ (List.range R.length).filter (fun y => decide ((x, y) ∉ AP)) := List.mem_filter.mpr ⟨List.mem_range.mpr (chief_lt hx), decide_eq_true ((ap x _ hx (chief_lt hx)).mpr chief_bs)⟩
  have all : ∀ y ∈ (List.range R.length).filter (fun y => decide ((x, y) ∉ AP)), chief R x ≤ y := fun y hy => by
    obtain ⟨a, b⟩ := List.mem_filter.mp hy
    exact chief_min ((ap x y hx (List.mem_range.mp a)).mp (of_decide_eq_true b))
  cases e : (List.range R.length).filter (fun y => decide ((x, y) ∉ AP)) with
  | nil => rw [e] at mc; cases mc
  | cons c rest =>
    rw [e] at pw mc all
    have p1 := List.pairwise_cons.mp pw
    have ec : c = chief R x := by
      have a := all c List.mem_cons_self
      rcases List.mem_cons.mp mc with z | z
      · exact z.symm
      · have := p1.1 _ z
        omega
    subst ec
    exact ⟨rest, rfl, p1.1⟩
end
end K0


set_option Elab.async false
set_option linter.all false
set_option maxRecDepth 100000
set_option maxHeartbeats 4000000
/-! R8: _law_met. -/
namespace K0
open PySem PySem.Spec PyProof.Rows L2 GxR Tk
variable [LamTab]
def metR (R S : List Nd) : List Mt := metN R S (R.length * S.length)
theorem place_len {R S : List Nd} {b : Pr} {L : List Mt} (I : MInv R S b L) : ∀ (j : Nat) (x : Mt), L[j]? = some x → x.2.2.length ≤ j := by
  intro j
  induction j using Nat.strongRecOn with
  | _ j ih =>
    intro x hx
    by_cases z : j = 0
    · subst z
      rw [I.h0] at hx
      cases Option.some.inj hx
      exact Nat.le_refl _
    · obtain ⟨a1, _, _, y, a4, a5, _⟩ := I.og j x hx (by omega)
      have := ih _ a1 y a4
      rw [a5, List.length_append, List.length_singleton]
      omega
def spMet (K : PySem.W.Frag) (T : List Addr) : Sp := fun vs H Q _ => vs.length = 2 ∧ Tbs T H ∧ ∃ B a sc R a' sc' S, Le B H ∧ Ds K B vs [.tuple [a, sc, .tuple (R.map ndD)], .tuple [a', sc', .tuple (S.map ndD)]] ∧ twoP R S ∧
  ∀ (ld : Addr) (kvs : List (List L2.Key × V)) (B' H' : Hp), Up B H B' H' → B' ld = none → H ld = none → H' ld = some (.dT kvs) → Vls K B' kvs (metR R S) → Q (.ref ld) H'
section
variable {P : Program} {w : World} {K : PySem.W.Frag} {mg : Str → Option Value} {base : Heap} {f : Addr} {fd : FuncData} {T : List Addr}
theorem ok_met (BL : Blt mg) (F : L2.Fun K "_law_met" "_law_met" sMet f fd) : FnOk P w K mg base CX0 1 f fd ["one", "other"] (spMet K T) := by
  refine fn_any F scMet (fun vs H Q E h => h.1) fun cdv A outer s H vs Q E hr hcd h => ?_
  obtain ⟨hl, t0, B0, a0, sc0, R, a0', sc0', S, l0, hd0, ⟨hR, hS, r0, s0, hn, okR, okS⟩, q0⟩ := h
  obtain ⟨B, lB0, l, t, up0⟩ := with_tables t0 l0
  have hd := Ds.le lB0 hd0
  obtain ⟨v1, v2, rfl, h1, h2⟩ := ds2 hd
  have hu := hu64 hr
  have hu1 : (A.deeper (envOfC "_law_met" (defScope sMet) s.heap.objs.size f cdv)).units + 1 < cLine := by omega
  refine wb_cons ⟨_, ps_par (i := 2) (j := 3) rfl ndMet rfl rfl (by decide) rfl rfl (pa_cons (pe_dispT hu1 (pps_cons (pe_tup (pa_cons pe_int (pa_cons pe_int pa_nil))) (pe_tup pa_nil) pps_nil) (by rfl) (by rfl) (fun z => by cases z) (by decide)) (pa_cons (pe_lst (pa_cons (pe_tup (pa_cons pe_int (pa_cons pe_int pa_nil))) pa_nil)) pa_nil)) rfl, ?_⟩
  refine fun ld hld => ⟨by show 2 ≤ sizeLine; decide, fun t1 ht1 => ⟨by show 0 ≤ sizeLine; exact Nat.zero_le _, fun t2 ht2 => ⟨?_, keyP (0, 0), t1, .ref t2, rfl, ?_, ?_⟩⟩⟩
  · rw [upd_ne fun z => (upd_non (upd_non ht2).2).1 z.symm, upd_ne fun z => (upd_non ht1).1 z.symm]
    exact upd_same
  · rw [upd_ne fun z => (upd_non ht2).1 z.symm]
    exact upd_same
  refine ⟨by show 2 ≤ sizeLine; decide, fun t3 ht3 => ⟨by show 1 ≤ sizeLine; decide, fun ll hll => ⟨_, _, rfl, ?_⟩⟩⟩
  obtain ⟨n1, ht11⟩ := upd_non ht1
  obtain ⟨n2, ht21⟩ := upd_non ht2
  obtain ⟨n3, ht22⟩ := upd_non ht21
  obtain ⟨m1, ht31⟩ := upd_non ht3
  obtain ⟨m2, ht32⟩ := upd_non ht31
  obtain ⟨m3, ht33⟩ := upd_non ht32
  obtain ⟨_, ht34⟩ := upd_non ht33
  obtain ⟨k1, hll1⟩ := upd_non hll
  obtain ⟨k2, hll2⟩ := upd_non hll1
  obtain ⟨k3, hll3⟩ := upd_non hll2
  obtain ⟨k4, hll4⟩ := upd_non hll3
  obtain ⟨_, hll5⟩ := upd_non hll4
  have nt : ∀ {xs : List V} (ps : Array Value), HO.tup xs ≠ .tbl ps := fun ps z => by cases z
  have uA := up_mut (Up.refl l) hld (l.there ld hld) (o := .dT [])
  have uB := uA.new (o := .tup [.int 0, .int 0]) ht1 nt
  have uC := uB.new (o := .tup []) ht2 nt
  have uD := up_mut uC hld (by rw [upd_ne (fun z => n3 z.symm), upd_ne (fun z => n1 z.symm)]; exact l.there ld hld) (o := .dT [(keyP (0, 0), .ref t2)])
  have uE := uD.new (o := .tup [.int 0, .int 0]) ht3 nt
  have uF := up_mut uE hll5 (by rw [upd_ne k1, upd_ne k3, upd_ne k4]; exact l.there ll hll5) (o := .lst [.ref t3])
  have e1 : (upd (upd (upd (upd (upd (upd H ld (.dT [])) t1 (.tup [.int 0, .int 0])) t2 (.tup [])) ld (.dT [(keyP (0, 0), .ref t2)])) t3 (.tup [.int 0, .int 0])) ll (.lst [.ref t3])) ll = some (.lst [.ref t3]) := upd_same
  have e2 : (upd (upd (upd (upd (upd (upd H ld (.dT [])) t1 (.tup [.int 0, .int 0])) t2 (.tup [])) ld (.dT [(keyP (0, 0), .ref t2)])) t3 (.tup [.int 0, .int 0])) ll (.lst [.ref t3])) ld = some (.dT [(keyP (0, 0), .ref t2)]) := by
    rw [upd_ne (fun z => k2 z.symm), upd_ne (fun z => m1 z.symm)]
    exact upd_same
  have d1 : (upd (upd (upd B t1 (.tup [.int 0, .int 0])) t2 (.tup [])) t3 (.tup [.int 0, .int 0])) t3 = some (.tup [.int ((0, 0) : Pr).1, .int ((0, 0) : Pr).2]) := upd_same
  have d2 : Dt K (upd (upd (upd B t1 (.tup [.int 0, .int 0])) t2 (.tup [])) t3 (.tup [.int 0, .int 0])) (.ref t2) (.tuple (idD [])) := .new_tup (by
    rw [upd_ne (fun z => m2 z.symm)]
    exact upd_same) .nil
  have bl : (upd (upd (upd B t1 (.tup [.int 0, .int 0])) t2 (.tup [])) t3 (.tup [.int 0, .int 0])) ll = none := by
    rw [upd_ne k1, upd_ne k3, upd_ne k4]; exact l.there ll hll5
  have bd : (upd (upd (upd B t1 (.tup [.int 0, .int 0])) t2 (.tup [])) t3 (.tup [.int 0, .int 0])) ld = none := by
    rw [upd_ne (fun z => m1 z.symm), upd_ne (fun z => n3 z.symm), upd_ne (fun z => n1 z.symm)]; exact l.there ld hld
  generalize upd (upd (upd (upd (upd (upd H ld (.dT [])) t1 (.tup [.int 0, .int 0])) t2 (.tup [])) ld (.dT [(keyP (0, 0), .ref t2)])) t3 (.tup [.int 0, .int 0])) ll (.lst [.ref t3]) = H1 at uF e1 e2 ⊢
  generalize upd (upd (upd B t1 (.tup [.int 0, .int 0])) t2 (.tup [])) t3 (.tup [.int 0, .int 0]) = B1 at uF d1 d2 bl bd ⊢
  have nld : ld ≠ ll := fun z => k2 z.symm
  clear uA uB uC uD uE ht1 ht2 ht3 hll ht11 ht21 ht22 ht31 ht32 ht33 ht34 hll1 hll2 hll3 hll4
  show WB _ _ _ [some v1, some v2, some (.ref ld), some (.ref ll), none, none, none] H1
  refine wb_cons ⟨_, ps_while PassesOwn.never pt_w pss_w, ?_⟩
  refine ⟨fun k σ' H' => ∃ (i : Nat) (lv : List V) (kvs : List (List L2.Key × V)) (a4 a5 a6 : Option V) (B' : Hp), σ' = [some v1, some v2, some (.ref ld), some (.ref ll), a4, a5, a6] ∧ k = R.length * S.length - i ∧ H' ll = some (.lst lv) ∧ H' ld = some (.dT kvs) ∧ Up B H B' H' ∧ B' ll = none ∧ B' ld = none ∧ Tps B' lv (((metN R S i).map (·.1)).drop i) ∧ Vls K B' kvs (metN R S i),
    ⟨R.length * S.length, 0, _, _, none, none, none, B1, rfl, rfl, e1, e2, uF, bl, bd, .cons ⟨t3, rfl, d1⟩ .nil, .cons ⟨rfl, d2⟩ .nil⟩, ?_⟩
  clear e1 e2 uF bl bd d1 d2
  rintro k σ' H' ⟨i, lv, kvs, a4, a5, a6, B', rfl, rfl, e1, e2, u0, bl, bd, dl, dk⟩
  have I := met_inv hR hS r0 s0 i
  have hlen := met_len hR hS r0 s0 i
  have pl : (((metN R S i).map (·.1)).drop i).length = (metN R S i).length - i := by rw [List.length_drop, List.length_map]
  obtain ⟨sh1, sh2⟩ := pairs_shaped (ps := ((metN R S i).map (·.1)).drop i) (by rw [pl]; omega)
  refine (et_cmp (op_neD hu) (rr_neD (e := .list []) sh1 rfl sh2 (by decide)) (ee_var (i := 3) rfl (.new_lst e1 (Tps.ds (Tps.le u0.s dl)))) (ee_lst ea_nil (Nat.zero_le _))) H' (Le.refl _) _ fun H2 l2 => ?_
  have e1 := l2.keep ll _ e1 (fun _ z => by cases z)
  have e2 := l2.keep ld _ e2 (fun _ z => by cases z)
  have u0 := u0.tab l2
  clear l2
  by_cases hlt : i < (metN R S i).length
  · have hy : (metN R S i)[i]? = some (metN R S i)[i] := List.getElem?_eq_getElem hlt
    obtain ⟨y1, y2⟩ := I.rg _ (List.getElem_mem hlt)
    have hdr : ((metN R S i).map (·.1)).drop i = (metN R S i)[i].1 :: ((metN R S i).map (·.1)).drop (i + 1) := by
      rw [List.drop_eq_getElem_cons (by rw [List.length_map]; exact hlt), List.getElem_map]
    generalize hyE : (metN R S i)[i] = y at hy y1 y2 hdr
    rw [hdr] at dl ⊢
    refine (if_pos rfl).mpr ?_
    obtain ⟨lv', tx, rfl, htx, dl'⟩ : ∃ lv' tx, lv = .ref tx :: lv' ∧ B' tx = some (.tup [.int (y.1.1 : Int), .int (y.1.2 : Int)]) ∧ Tps B' lv' (((metN R S i).map (·.1)).drop (i + 1)) := by
      cases dl with
      | cons r t =>
        obtain ⟨tx, rfl, e⟩ := r
        exact ⟨_, tx, rfl, e, t⟩
    have hl1 : atI (R.map ndD) (y.1.1 : Int) = some (ndD R[y.1.1]) := at_nd y1
    have hl2 : atI (S.map ndD) (y.1.2 : Int) = some (ndD S[y.1.2]) := at_nd y2
    refine ⟨fun σ2 H5 => ∃ (lv : List V) (kvs : List (List L2.Key × V)) (a4 a5 a6 : Option V) (B' : Hp), σ2 = [some v1, some v2, some (.ref ld), some (.ref ll), a4, a5, a6] ∧ H5 ll = some (.lst lv) ∧ H5 ld = some (.dT kvs) ∧ Up B H B' H5 ∧ B' ll = none ∧ B' ld = none ∧ Tps B' lv (((metN R S (i + 1)).map (·.1)).drop (i + 1)) ∧ Vls K B' kvs (metN R S (i + 1)),
      fun σ2 H5 ⟨lv, kvs, a4, a5, a6, B', z1, z⟩ => ⟨R.length * S.length - (i + 1), by omega, i + 1, lv, kvs, a4, a5, a6, B', z1, rfl, z⟩, ?_⟩
    refine wb_cons ⟨_, ps_set (i := 4) ndMet rfl (by first | exact Or.inl rfl | exact Or.inr rfl) (pe_bm PySem.F.plainAttrs_list PySem.F.slot_list_pop PySem.F.type_list_pop mt_popAt (pe_var (i := 3) rfl (by first | exact Or.inl rfl | exact Or.inr (Or.inl rfl) | exact Or.inr (Or.inr rfl))) (pa_cons pe_int pa_nil)) rfl (by first | exact Or.inl rfl | exact Or.inr rfl), ?_⟩
    refine ⟨_, rfl, .inl ⟨rfl, _, SqL.of e1⟩, ll, _, 0, 0, .ref tx, rfl, rfl, e1, by decide, by decide, (by rw [List.length_cons]; unfold seqIndex?; simp), rfl, ?_⟩
    have u0 := up_mut u0 hll5 bl (o := .lst ((.ref tx :: lv').eraseIdx 0))
    have e1 : (upd H2 ll (.lst ((.ref tx :: lv').eraseIdx 0))) ll = some (.lst lv') := upd_same
    have e2 : (upd H2 ll (.lst ((.ref tx :: lv').eraseIdx 0))) ld = some (.dT kvs) := by rw [upd_ne nld]; exact e2
    generalize upd H2 ll (.lst ((.ref tx :: lv').eraseIdx 0)) = H3 at u0 e1 e2 ⊢
    show WB _ _ _ [some v1, some v2, some (.ref ld), some (.ref ll), some (.ref tx), a5, a6] H3
    have xR : ∀ j, j < 2 → (pgo R S j y.1) = ((if j = 0 then R[y.1.1].2.1 else R[y.1.1].2.2), if j = 0 then S[y.1.2].2.1 else S[y.1.2].2.2) := fun j hj => pgo_eq y1 y2
    have lenJ : ∀ j, (([xM R S i y 0, xM R S i y 1].take j).foldl addM (metN R S i)).length ≤ 1002 := fun j => by
      have a1 : ∀ (L : List Mt) (x : Mt), (addM L x).length ≤ L.length + 1 := fun L x => by
        unfold addM
        split
        · omega
        · rw [List.length_append, List.length_singleton]; omega
      match j with
      | 0 => show (metN R S i).length ≤ 1002; omega
      | 1 => exact Nat.le_trans (a1 _ _) (by omega)
      | j + 2 =>
        have : ([xM R S i y 0, xM R S i y 1].take (j + 2)) = [xM R S i y 0, xM R S i y 1] := by simp
        rw [this]
        exact Nat.le_trans (a1 _ _) (by have := a1 (metN R S i) (xM R S i y 0); omega)
    have invJ : ∀ j, j < 2 → ∃ b, MInv R S b (([xM R S i y 0, xM R S i y 1].take j).foldl addM (metN R S i)) ∧ (metN R S i) <+: (([xM R S i y 0, xM R S i y 1].take j).foldl addM (metN R S i)) := fun j hj => by
      match j, hj with
      | 0, _ => exact ⟨_, I, List.prefix_refl _⟩
      | 1, _ => exact ⟨(i, 1), I.add (b := (i, 0)) hR hS hy (by show 0 < 2; decide) (.inr ⟨rfl, by show 0 < 1; decide⟩), addM_pre⟩
    refine wb_one (ws_for (B := B') (ds := [.int 0, .int 1]) (tjs := [5]) (pat := patN) u0.s (ei_lst (ee_lst (ea_cons ee_int (ea_cons ee_int ea_nil)) (by show 2 ≤ sizeLine; decide))) (eg_name ndMet) (fun d hd => ⟨[d], rfl⟩) PassesOwn.never rfl
      (fun j σ' B' H' => ∃ (lv : List V) (kvs : List (List L2.Key × V)) (a5 a6 : Option V), σ' = [some v1, some v2, some (.ref ld), some (.ref ll), some (.ref tx), a5, a6] ∧ H' ll = some (.lst lv) ∧ H' ld = some (.dT kvs) ∧ Up B H B' H' ∧ B' ll = none ∧ B' ld = none ∧ B' tx = some (.tup [.int (y.1.1 : Int), .int (y.1.2 : Int)]) ∧ Tps B' lv (((([xM R S i y 0, xM R S i y 1].take j).foldl addM (metN R S i)).map (·.1)).drop (i + 1)) ∧ Vls K B' kvs (([xM R S i y 0, xM R S i y 1].take j).foldl addM (metN R S i)))
      (fun B' H' u => ⟨lv', kvs, a5, a6, rfl, u.h.keep ll _ e1 (fun _ z => by cases z), u.h.keep ld _ e2 (fun _ z => by cases z), u0.trans u, up_none u bl e1 (fun _ z => by cases z), up_none u bd e2 (fun _ z => by cases z), u.b.keep tx _ htx (fun _ z => by cases z), Tps.le u.b dl', Vls.le u.b dk⟩) (fun j d es us σ' B4 H4 B'' H'' hj hd' lb hI u4 hpat dus N hN => ?_) fun σ' B4 H4 lb ls hI => ?_)
    · obtain ⟨lv, kvs, a5, a6, rfl, f1, f2, uj, b1, b2, b3, dl, dk⟩ := hI
      cases hpat
      obtain ⟨yv, rfl, hyv⟩ := ds1 (K := K) dus
      obtain ⟨rfl, hj2, hadd⟩ : d = .int (j : Int) ∧ j < 2 ∧ ([xM R S i y 0, xM R S i y 1].take (j + 1)).foldl addM (metN R S i) = addM (([xM R S i y 0, xM R S i y 1].take j).foldl addM (metN R S i)) (xM R S i y j) := by
        match j, hd' with
        | 0, hd' => cases hd'; exact ⟨rfl, by decide, rfl⟩
        | 1, hd' => cases hd'; exact ⟨rfl, by decide, rfl⟩
      cases hyv
      have c1 := up_none u4 b1 f1 (fun _ z => by cases z)
      have c2 := up_none u4 b2 f2 (fun _ z => by cases z)
      have c3 := u4.b.keep tx _ b3 (fun _ z => by cases z)
      have f1 := u4.h.keep ll _ f1 (fun _ z => by cases z)
      have f2 := u4.h.keep ld _ f2 (fun _ z => by cases z)
      have uj := uj.trans u4
      have dl := Tps.le u4.b dl
      have dk := Vls.le u4.b dk
      have lj := lenJ j
      have xj := xR j hj2
      obtain ⟨bJ, iJ, pJ⟩ := invJ j hj2
      generalize hoE : ([xM R S i y 0, xM R S i y 1].take j).foldl addM (metN R S i) = Lj at dl dk hadd lj iJ pJ
      have hyJ : y ∈ Lj := List.mem_of_getElem? (pre_get pJ hy)
      have hlJ : i + 1 ≤ Lj.length := Nat.le_trans hlt pJ.length_le
      have plen := place_len I i y hy
      show WB _ _ _ [some v1, some v2, some (.ref ld), some (.ref ll), some (.ref tx), some (.int (j : Int)), a6] H''
      have h1'' := Dt.le uj.b h1
      have h2'' := Dt.le uj.b h2
      have dtx : Dt K B'' (.ref tx) (pairD y.1) := pr_tup c3
      refine wb_cons ⟨_, ps_set (i := 6) ndMet rfl (by first | exact Or.inl rfl | exact Or.inr rfl) (pe_tup (pa_cons pe_w (pa_cons pe_w pa_nil))) rfl (by first | exact Or.inl rfl | exact Or.inr rfl), ?_⟩
      refine (ee_ix ix_tup (rr_ixT (at_pr hj2)) (ee_ix ix_tup (rr_ixT hl1) (ee_ix ix_tup (rr_ixT (d := .tuple (R.map ndD)) (atI_nat (j := 2) rfl)) (ee_var (i := 0) rfl h1'') ee_int) (ee_ix ix_tup (rr_ixT (d := .int (y.1.1 : Int)) at0) (ee_var (i := 4) rfl dtx) ee_int)) (ee_op op_add rr_add ee_int (ee_var (i := 5) rfl (.int _)))) H'' uj.s _ fun x1 B5 H5 u5 dx1 => ?_
      cases dx1
      refine (ee_ix ix_tup (rr_ixT (at_pr hj2)) (ee_ix ix_tup (rr_ixT hl2) (ee_ix ix_tup (rr_ixT (d := .tuple (S.map ndD)) (atI_nat (j := 2) rfl)) (ee_var (i := 1) rfl h2'') ee_int) (ee_ix ix_tup (rr_ixT (d := .int (y.1.2 : Int)) at1) (ee_var (i := 4) rfl dtx) ee_int)) (ee_op op_add rr_add ee_int (ee_var (i := 5) rfl (.int _)))) H5 (uj.s.trans u5.h) _ fun x2 B6 H6 u6 dx2 => ?_
      cases dx2
      have l56 := u5.h.trans u6.h
      have f1 := l56.keep ll _ f1 (fun _ z => by cases z)
      have f2 := l56.keep ld _ f2 (fun _ z => by cases z)
      have uj := uj.tab l56
      clear u5 u6 l56
      refine ⟨by show 2 ≤ sizeLine; decide, fun p hp => ?_⟩
      have nf : ∀ {b : Addr} {o : HO}, H6 b = some o → b ≠ p := fun e z => by rw [z, hp] at e; cases e
      have eg : ([.int ((if j = 0 then R[y.1.1].2.1 else R[y.1.1].2.2 : Nat) : Int), .int ((if j = 0 then S[y.1.2].2.1 else S[y.1.2].2.2 : Nat) : Int)] : List V) = [.int ((pgo R S j y.1).1 : Int), .int ((pgo R S j y.1).2 : Int)] := by rw [xj]
      rw [eg]
      have f1p : (upd H6 p (.tup [.int ((pgo R S j y.1).1 : Int), .int ((pgo R S j y.1).2 : Int)])) ll = some (.lst lv) := by rw [upd_ne (nf f1)]; exact f1
      have f2p : (upd H6 p (.tup [.int ((pgo R S j y.1).1 : Int), .int ((pgo R S j y.1).2 : Int)])) ld = some (.dT kvs) := by rw [upd_ne (nf f2)]; exact f2
      have up := uj.new (o := (.tup [.int ((pgo R S j y.1).1 : Int), .int ((pgo R S j y.1).2 : Int)])) hp nt
      have fp : (upd H6 p (.tup [.int ((pgo R S j y.1).1 : Int), .int ((pgo R S j y.1).2 : Int)])) p = some (.tup [.int ((pgo R S j y.1).1 : Int), .int ((pgo R S j y.1).2 : Int)]) := upd_same
      have bpp : B'' p = none := uj.s.there p hp
      have cp1 : (upd B'' p (.tup [.int ((pgo R S j y.1).1 : Int), .int ((pgo R S j y.1).2 : Int)])) ll = none := by rw [upd_ne (nf f1)]; exact c1
      have cp2 : (upd B'' p (.tup [.int ((pgo R S j y.1).1 : Int), .int ((pgo R S j y.1).2 : Int)])) ld = none := by rw [upd_ne (nf f2)]; exact c2
      have lBp : Le B'' (upd B'' p (.tup [.int ((pgo R S j y.1).1 : Int), .int ((pgo R S j y.1).2 : Int)])) := Le.new bpp
      have dpt : (upd B'' p (.tup [.int ((pgo R S j y.1).1 : Int), .int ((pgo R S j y.1).2 : Int)])) p = some (.tup [.int ((pgo R S j y.1).1 : Int), .int ((pgo R S j y.1).2 : Int)]) := upd_same
      generalize upd H6 p (.tup [.int ((pgo R S j y.1).1 : Int), .int ((pgo R S j y.1).2 : Int)]) = H7 at f1p f2p up fp ⊢
      generalize upd B'' p (.tup [.int ((pgo R S j y.1).1 : Int), .int ((pgo R S j y.1).2 : Int)]) = B7 at up cp1 cp2 lBp dpt ⊢
      show WB _ _ _ [some v1, some v2, some (.ref ld), some (.ref ll), some (.ref tx), some (.int (j : Int)), some (.ref p)] H7
      have c3p := lBp.keep tx _ c3 (fun _ z => by cases z)
      have f3p := up.s.keep tx _ c3p (fun _ z => by cases z)
      refine wb_one ⟨_, ps_if (pt_cmp (pc_dnotin hu1 (pe_var (i := 6) rfl (by first | exact Or.inl rfl | exact Or.inr (Or.inl rfl) | exact Or.inr (Or.inr rfl))) (pe_var (i := 2) rfl (by first | exact Or.inl rfl | exact Or.inr (Or.inl rfl) | exact Or.inr (Or.inr rfl))))) (pss_cons (ps_dput hu1 (pe_var (i := 2) rfl (by first | exact Or.inl rfl | exact Or.inr (Or.inl rfl) | exact Or.inr (Or.inr rfl))) (pe_var (i := 6) rfl (by first | exact Or.inl rfl | exact Or.inr (Or.inl rfl) | exact Or.inr (Or.inr rfl))) (pe_op op_catA (pe_dget hu1 (pe_var (i := 2) rfl (by first | exact Or.inl rfl | exact Or.inr (Or.inl rfl) | exact Or.inr (Or.inr rfl))) (pe_var (i := 4) rfl (by first | exact Or.inl rfl | exact Or.inr (Or.inl rfl) | exact Or.inr (Or.inr rfl))) (by intro _ _; rfl)) pe_w) rfl) (pss_one (ps_expr (pe_bm PySem.F.plainAttrs_list PySem.F.slot_list_append PySem.F.type_list_append mt_append (pe_var (i := 3) rfl (by first | exact Or.inl rfl | exact Or.inr (Or.inl rfl) | exact Or.inr (Or.inr rfl))) (pa_cons (pe_var (i := 6) rfl (by first | exact Or.inl rfl | exact Or.inr (Or.inl rfl) | exact Or.inr (Or.inr rfl))) pa_nil))))) pss_nil, ?_⟩
      refine ⟨_, rfl, _, rfl, ld, _, rfl, DGet.t (k := keyP (pgo R S j y.1)) f2p fp, _, rfl, ?_⟩
      rw [dk.some]
      by_cases hm : pgo R S j y.1 ∈ Lj.map (·.1)
      · rw [decide_eq_true hm]
        refine hN _ B7 H7 lBp up.s ⟨lv, kvs, _, _, rfl, ?_⟩
        rw [hadd, show addM Lj (xM R S i y j) = Lj from if_pos hm]
        exact ⟨f1p, f2p, up, cp1, cp2, c3p, Tps.le lBp dl, Vls.le lBp dk⟩
      · rw [decide_eq_false hm]
        have hx : addM Lj (xM R S i y j) = Lj ++ [xM R S i y j] := if_neg hm
        obtain ⟨vy, hvy, dvy⟩ := (Vls.le lBp dk).val iJ.nd hyJ
        have hget := DGet.t (k := keyP y.1) f2p f3p
        rw [hvy] at hget
        refine ⟨_, rfl, _, rfl, ld, vy, rfl, hget, ?_⟩
        refine (ee_tup (ea_cons (ee_var (i := 5) rfl (.int (j : Int))) ea_nil) (by show 1 ≤ sizeLine; decide)) H7 up.s _ fun y3 B8 H8 u8 d8 => ?_
        refine (rr_catT (H := B8) (xs := idD y.2.2) (ys := [.int (j : Int)]) (by rw [idD, List.length_map, List.length_singleton]; exact Nat.le_trans (show y.2.2.length + 1 ≤ 1002 by omega) (by decide))) B8 H8 (Le.refl _) u8.s _ _ (Dt.le u8.b dvy) d8 _ fun v9 B9 H9 u9 d9 => ?_
        have u89 := u8.trans u9
        have cq1 := up_none u89 cp1 f1p (fun _ z => by cases z)
        have cq2 := up_none u89 cp2 f2p (fun _ z => by cases z)
        have f1q := u89.h.keep ll _ f1p (fun _ z => by cases z)
        have f2q := u89.h.keep ld _ f2p (fun _ z => by cases z)
        have fq := u89.h.keep p _ fp (fun _ z => by cases z)
        have uq := up.trans u89
        have kl := Paired.length dk
        refine ⟨_, rfl, _, rfl, ld, _, rfl, DPut.t (k := keyP (pgo R S j y.1)) f2q fq (by rw [kl]; exact Nat.lt_of_le_of_lt lj (by decide)), ?_⟩
        have g1 : (upd H9 ld (.dT (putK kvs (keyP (pgo R S j y.1)) v9))) ll = some (.lst lv) := by rw [upd_ne (fun z => nld z.symm)]; exact f1q
        have lvl := Paired.length dl
        rw [List.length_drop, List.length_map] at lvl
        refine ⟨_, rfl, .inl ⟨rfl, _, SqL.of g1⟩, _, rfl, ll, lv, .ref p, rfl, rfl, g1, Nat.lt_of_le_of_lt (show lv.length ≤ 1002 by omega) (by decide), ?_⟩
        have ur := up_mut (up_mut uq hld cq2 (o := .dT (putK kvs (keyP (pgo R S j y.1)) v9))) hll5 cq1 (o := .lst (lv ++ [.ref p]))
        have lB9 := lBp.trans u89.b
        refine hN _ B9 _ lB9 ur.s ⟨lv ++ [.ref p], putK kvs (keyP (pgo R S j y.1)) v9, _, _, rfl, ?_⟩
        rw [hadd, hx]
        refine ⟨upd_same, ?_, ur, cq1, cq2, lB9.keep tx _ c3 (fun _ z => by cases z), ?_, ?_⟩
        · rw [upd_ne nld]; exact upd_same
        · rw [List.map_append, List.drop_append_of_le_length (by rw [List.length_map]; exact hlJ)]
          exact (Tps.le lB9 dl).snoc (p := pgo R S j y.1) (u89.b.keep p _ dpt fun _ z => by cases z)
        · refine (Vls.le lB9 dk).put (x := xM R S i y j) hm ?_
          have : idD (xM R S i y j).2.2 = idD y.2.2 ++ [.int (j : Int)] := by
            show idD (y.2.2 ++ [j]) = _
            unfold idD
            rw [List.map_append]
            rfl
          rw [this]
          exact d9
    · obtain ⟨lv, kvs, a5, a6, rfl, f1, f2, uj, b1, b2, b3, dl, dk⟩ := hI
      have ej : ([xM R S i y 0, xM R S i y 1].take ([PyData.int 0, .int 1] : List PyData).length).foldl addM (metN R S i) = metN R S (i + 1) := by
        show addM (addM (metN R S i) (xM R S i y 0)) (xM R S i y 1) = stepM R S (metN R S i) i
        rw [step_at hy]
        rfl
      rw [ej] at dl dk
      exact ⟨lv, kvs, _, _, _, B4, rfl, f1, f2, uj, b1, b2, dl, dk⟩
  · have h0 : ((metN R S i).map (·.1)).drop i = [] := List.drop_eq_nil_of_le (by rw [List.length_map]; omega)
    rw [h0]
    refine (if_neg (by decide)).mpr ?_
    have hfin : metR R S = metN R S i := by
      unfold metR
      by_cases hi : i ≤ R.length * S.length
      · obtain ⟨j, hj⟩ := Nat.exists_eq_add_of_le hi
        rw [hj]
        exact met_stop (by omega) j
      · obtain ⟨j, hj⟩ := Nat.exists_eq_add_of_le (Nat.le_of_not_le hi)
        rw [hj]
        exact (met_stop (met_len hR hS r0 s0 _) j).symm
    refine wb_one ⟨_, ps_ret (pe_var (i := 2) rfl (by first | exact Or.inl rfl | exact Or.inr (Or.inl rfl) | exact Or.inr (Or.inr rfl))), ?_⟩
    exact ⟨_, rfl, q0 ld kvs B' H2 (up0 u0) bd hld e2 (by rw [hfin]; exact dk)⟩
end
end K0


set_option Elab.async false
set_option linter.all false
set_option maxRecDepth 100000
set_option maxHeartbeats 2000000
/-! R9: min of a list whose first item is the least. -/
namespace Tk
open PySem PySem.Spec PyProof.Rows L2 GxR Gx
open PySem.W (AlikeAll dataLt readsAll_len iter_listW cmpIn_lt moved_old)
variable [LamTab]
theorem argBest_zero {bt : Nat → Nat → Bool} : ∀ k, (∀ j, 0 < j → j ≤ k → bt j 0 = false) → argBest bt k = 0
  | 0, _ => rfl
  | k + 1, h => by
    have ih := argBest_zero k fun j h1 h2 => h j h1 (by omega)
    show (if bt (k + 1) (argBest bt k) then k + 1 else argBest bt k) = 0
    rw [ih, h (k + 1) (by omega) (Nat.le_refl _)]
    rfl
theorem min_first {prog : Program} {w : World} {A : Around} {E : Value → Shared → Prop} {s : Shared} {p : Addr} {its : Array Value} {d0 : PyData} {ds : List PyData} {as : List Addr} {Q : Value → Shared → Prop} (calm : A.handled = none) (isl : s.heap.IsList p its) (rd : ReadsAll s.heap its.toList (d0 :: ds) as) (al : AlikeAll (d0 :: ds)) (room : A.units + 1 + PyData.depthAll (d0 :: ds) < cLine)
    (first : ∀ y ∈ ds, dataLt y d0 = false) (q : ∀ v h' tk, its[0]? = some v → (∀ b o, s.heap.get? b = some o → h'.get? b = some o) → Q v { s with heap := h', toks := tk }) : wpAny (model prog w) A (call (.builtin "min") [.ref p]) Q E s := by
  have size : its.size = ds.length + 1 := readsAll_len rd
  apply call_min_walkH
  apply iter_listW (A := A.in1) calm isl
  intro s2 e2 W began low wr keep
  refine ⟨_, _, _, _, _, _, _, s.heap, _, rfl, W, began, low, ?_, wr, keep, cmpIn_lt (A := A.in1) rd al room, ?_⟩
  · rw [size]
    exact Nat.succ_pos _
  intro v s3 at_ mv
  have z : ∀ j, 0 < j → j ≤ its.size - 1 → dataLt ((d0 :: ds).getD j .none) ((d0 :: ds).getD 0 .none) = false := by
    intro j h1 h2
    obtain ⟨i, rfl⟩ : ∃ i, j = i + 1 := ⟨j - 1, by omega⟩
    refine first _ ?_
    show ds.getD i .none ∈ ds
    rw [List.getD_eq_getElem?_getD, List.getElem?_eq_getElem (show i < ds.length by omega)]
    exact List.getElem_mem _
  rw [argBest_zero _ z] at at_
  obtain ⟨h3, tk3, e3, old⟩ := moved_old e2 rfl mv
  subst e3
  exact q v h3 tk3 at_ old
def rMinF (K : PySem.W.Frag) : List V → Hp → VK → Prop := fun vs H Q => ∃ (a : Addr) (x0 : V) (xs : List V) (d0 : PyData) (ds : List PyData), vs = [V.ref a] ∧ SqL K H a (x0 :: xs) ∧ DpAll K H (x0 :: xs) (d0 :: ds) ∧ AlikeAll (d0 :: ds) ∧ PyData.depthAll (d0 :: ds) ≤ 60 ∧ (∀ y ∈ ds, dataLt y d0 = false) ∧ Q x0 H
theorem c_minF {X : Cx} (hc : X.calm = true) (hu : X.A.units + 64 < cLine) : CallR X (.builtin "min") (rMinF X.K) := by
  intro pins s σ H vs us Q I r h
  obtain ⟨a, x0, xs, d0, ds, rfl, hs, hd, ha, hdp, hf, q⟩ := h
  obtain ⟨us', rv, isl, _⟩ := I.list hs
  obtain ⟨u, rfl, ru⟩ := vals1 r
  cases (show u = Value.ref a from ru)
  obtain ⟨as, reads⟩ := Dp.readsAll I _ _ _ hd rv
  refine min_first (I.ok.hd hc) isl.isList (by simpa using reads) ha (by omega) hf fun v h' tk hv hk => ?_
  cases rv with
  | cons r0 rr =>
    have e : v = _ := (Option.some.inj hv).symm
    subst e
    exact ⟨x0, H, I.kept (t' := tk) hk, r0, q⟩
end Tk


set_option Elab.async false
set_option linter.all false
set_option maxRecDepth 100000
set_option maxHeartbeats 2000000
/-! R10: the first place with unlike letters is the least of all. -/
namespace K0
open PySem PySem.Spec PyProof.Rows L2 GxR Tk
open PySem.W (AlikeAll dataLt dataLt_pair dataLt_int dataLt_tuple dataLt_ints rowLt alike alikeAll)
variable [LamTab]
theorem metR_pre {R S : List Nd} (h : twoP R S) (n : Nat) (hn : n ≤ R.length * S.length) : metN R S n <+: metR R S := by
  obtain ⟨k, e⟩ := Nat.exists_eq_add_of_le hn
  unfold metR
  rw [e]
  exact met_pre k
theorem metR_stop {R S : List Nd} (h : twoP R S) {n : Nat} (hl : (metN R S n).length ≤ n) : metR R S = metN R S n := by
  unfold metR
  by_cases hi : n ≤ R.length * S.length
  · obtain ⟨j, hj⟩ := Nat.exists_eq_add_of_le hi
    rw [hj]
    exact met_stop hl j
  · obtain ⟨j, hj⟩ := Nat.exists_eq_add_of_le (Nat.le_of_not_le hi)
    rw [hj]
    exact (met_stop (met_len h.1 h.2.1 h.2.2.1 h.2.2.2.1 _) j).symm
/-- what the walk tells, against all pairs -/
theorem wt_spec {R S : List Nd} (h : twoP R S) : ∀ (f i : Nat), i + f = R.length * S.length → (∀ j x, j < i → (metR R S)[j]? = some x → likeM R S x.1 = true) →
    ((wt R S f i).2 = none ∧ (wt R S f i).1 = metR R S ∧ ∀ x ∈ metR R S, likeM R S x.1 = true) ∨
    ∃ k y, (wt R S f i).2 = some k ∧ (wt R S f i).1 <+: metR R S ∧ (wt R S f i).1[k]? = some y ∧ likeM R S y.1 = false ∧ ∀ j x, j < k → (metR R S)[j]? = some x → likeM R S x.1 = true
  | 0, i, hf, hi => by
    have e : metN R S i = metR R S := by
      unfold metR
      rw [← hf]
      rfl
    refine .inl ⟨rfl, e, fun x hx => ?_⟩
    obtain ⟨j, hj, e2⟩ := List.mem_iff_getElem.mp hx
    have hlen := met_len h.1 h.2.1 h.2.2.1 h.2.2.2.1 (R.length * S.length)
    have hj' : j < (metN R S (R.length * S.length)).length := hj
    exact hi j x (by omega) (by rw [List.getElem?_eq_getElem hj, e2])
  | f + 1, i, hf, hi => by
    cases hy : (metN R S i)[i]? with
    | none =>
      have hl : (metN R S i).length ≤ i := by
        rcases Nat.lt_or_ge i (metN R S i).length with z | z
        · rw [List.getElem?_eq_getElem z] at hy; cases hy
        · exact z
      rw [wt_end hl]
      have e := metR_stop h hl
      refine .inl ⟨rfl, e.symm, fun x hx => ?_⟩
      obtain ⟨j, hj, e2⟩ := List.mem_iff_getElem.mp hx
      refine hi j x ?_ (by rw [List.getElem?_eq_getElem hj, e2])
      have : j < (metN R S i).length := by rw [← e]; exact hj
      omega
    | some y =>
      have hm : (metR R S)[i]? = some y := pre_get (metR_pre h i (by omega)) hy
      cases hl : likeM R S y.1 with
      | true =>
        rw [wt_like hy hl]
        refine wt_spec h f (i + 1) (by omega) fun j x hj hx => ?_
        by_cases z : j = i
        · subst z
          rw [hm] at hx
          cases Option.some.inj hx
          exact hl
        · exact hi j x (by omega) hx
      | false =>
        rw [wt_unlike hy hl]
        exact .inr ⟨i, y, rfl, metR_pre h i (by omega), hy, hl, hi⟩
def unM (R S : List Nd) : List Mt := (metR R S).filter fun x => !likeM R S x.1
def plcD (x : Mt) : PyData := .tuple [.int (x.2.2.length : Int), .tuple (idD x.2.2)]
theorem nat_lex : ∀ {a b : List Nat}, a < b → ¬ (b.map (fun (n : Nat) => (n : Int)) < a.map fun (n : Nat) => (n : Int))
  | _, [], h => by cases h
  | [], y :: b, _ => fun z => by cases z
  | x :: a, y :: b, h => fun z => by
    rw [List.map_cons, List.map_cons] at z
    rcases List.cons_lt_cons_iff.mp h with h1 | ⟨h1, h2⟩
    · rcases List.cons_lt_cons_iff.mp z with z1 | ⟨z1, _⟩ <;> omega
    · rcases List.cons_lt_cons_iff.mp z with z1 | ⟨_, z2⟩
      · omega
      · exact nat_lex h2 z2
theorem idD_int (a : List Nat) : idD a = (a.map fun (n : Nat) => (n : Int)).map PyData.int := by
  unfold idD
  rw [List.map_map]
  rfl
theorem ints_alike : ∀ a b : List Nat, alikeAll (idD a) (idD b) = true
  | [], _ => by simp [idD, alikeAll]
  | x :: a, [] => by simp [idD, alikeAll]
  | x :: a, y :: b => by
    have := ints_alike a b
    unfold idD at this ⊢
    simp only [List.map_cons, alikeAll, alike, Bool.true_and]
    exact this
theorem plc_lt {x y : Mt} (h : slx y.2.2 x.2.2) : dataLt (plcD x) (plcD y) = false := by
  unfold plcD
  rw [dataLt_pair (by simp [alike]) (by simp only [alike]; exact ints_alike _ _)]
  unfold slx at h
  rw [dataLt_int]
  simp only [PyData.eqv, beq_iff_eq]
  split
  · rename_i e
    by_cases hq : PyData.eqvAll (idD x.2.2) (idD y.2.2) = true
    · exact if_pos hq
    · refine (if_neg hq).trans ?_
      rcases h with z | ⟨_, z⟩
      · omega
      · have e1 : dataLt (.tuple (idD x.2.2)) (.tuple (idD y.2.2)) = rowLt (idD x.2.2) (idD y.2.2) := dataLt_tuple _ _
        rw [e1, idD_int, idD_int, dataLt_ints]
        exact decide_eq_false (nat_lex z)
  · rcases h with z | ⟨z, _⟩
    · exact decide_eq_false (by omega)
    · exact decide_eq_false (by omega)
theorem plc_alike (xs : List Mt) : AlikeAll (xs.map plcD) := ⟨fun x hx y hy => by
    obtain ⟨a, _, rfl⟩ := List.mem_map.mp hx
    obtain ⟨b, _, rfl⟩ := List.mem_map.mp hy
    simp only [plcD, alike, alikeAll, Bool.true_and, Bool.and_true]
    exact ints_alike _ _, fun x hx => by
    obtain ⟨a, _, rfl⟩ := List.mem_map.mp hx
    exact PyData.noConfusion⟩
theorem depth_idD (a : List Nat) : PyData.depthAll (idD a) ≤ 0 := depthAll_le fun x hx => by
  obtain ⟨n, _, rfl⟩ := List.mem_map.mp hx
  simp [PyData.depth]
theorem plc_depth (xs : List Mt) : PyData.depthAll (xs.map plcD) ≤ 60 := depthAll_le fun x hx => by
  obtain ⟨a, _, rfl⟩ := List.mem_map.mp hx
  have := depth_idD a.2.2
  simp only [plcD, PyData.depth, PyData.depthAll]
  omega
/-- the two words of parting agree -/
theorem part_first {R S : List Nd} (h : twoP R S) : (unM R S = [] ∧ partV R S = .none ∧ (wtR R S).2 = none) ∨ ∃ y ys, unM R S = y :: ys ∧ partV R S = .tuple (idD y.2.2) ∧ (wtR R S).2 ≠ none ∧ ∀ z ∈ ys, slx y.2.2 z.2.2 := by
  have I := met_inv h.1 h.2.1 h.2.2.1 h.2.2.2.1 (R.length * S.length)
  rcases wt_spec h (R.length * S.length) 0 (Nat.zero_add _) fun j x hj => absurd hj (Nat.not_lt_zero _) with ⟨a1, a2, a3⟩ | ⟨k, y, a1, a2, a3, a4, a5⟩
  · refine .inl ⟨?_, ?_, a1⟩
    · unfold unM
      exact List.filter_eq_nil_iff.mpr fun x hx => by rw [a3 x hx]; decide
    · unfold partV
      rw [show (wtR R S).2 = none from a1]
  · have hk : (metR R S)[k]? = some y := pre_get a2 a3
    have hkl := (List.getElem?_eq_some_iff.mp hk).1
    have hke := (List.getElem?_eq_some_iff.mp hk).2
    have split : metR R S = (metR R S).take k ++ y :: (metR R S).drop (k + 1) := by
      rw [← hke, ← List.drop_eq_getElem_cons hkl, List.take_append_drop]
    have f1 : ((metR R S).take k).filter (fun x => !likeM R S x.1) = [] := List.filter_eq_nil_iff.mpr fun x hx => by
      obtain ⟨j, hj, e⟩ := List.mem_iff_getElem.mp hx
      rw [List.getElem_take] at e
      rw [List.length_take] at hj
      rw [a5 j x (by omega) (by rw [List.getElem?_eq_getElem (by omega), e])]
      decide
    have e : unM R S = y :: ((metR R S).drop (k + 1)).filter (fun x => !likeM R S x.1) := by
      unfold unM
      rw [split, List.filter_append, f1, List.nil_append, List.filter_cons_of_pos (by rw [a4]; rfl), ← split]
    refine .inr ⟨y, _, e, ?_, by rw [show (wtR R S).2 = some k from a1]; simp, fun z hz => ?_⟩
    · have e3 : placeM (wtR R S).1 k = y.2.2 := by
        unfold placeM
        rw [show (wtR R S).1[k]? = some y from a3]
      unfold partV
      rw [show (wtR R S).2 = some k from a1]
      show PyData.tuple (idD (placeM (wtR R S).1 k)) = _
      rw [e3]
    · obtain ⟨j, hj, e2⟩ := List.mem_iff_getElem.mp (List.mem_filter.mp hz).1
      rw [List.getElem_drop] at e2
      rw [List.length_drop] at hj
      exact met_slx I (k + 1 + j) k y z (by omega) hk (by
        show (metR R S)[k + 1 + j]? = some z
        rw [List.getElem?_eq_getElem (by omega), e2])
end K0


set_option Elab.async false
set_option linter.all false
set_option maxRecDepth 100000
set_option maxHeartbeats 4000000
/-! R11: _law_parting. -/
namespace K0
open PySem PySem.Spec PyProof.Rows L2 GxR Tk
open PySem.W (AlikeAll dataLt)
variable [LamTab]
abbrev sLpt : Stmt := t__law_parting
def NLp : List Str := ["one", "other", "met", "places", "pair"]
theorem scLpt : FnScope NLp ["one", "other"] (defScope sLpt) := ⟨rfl, rfl, rfl, by decide +kernel, rfl, by decide +kernel, by decide +kernel⟩
theorem ndLp : List.Nodup NLp := by decide +kernel
def spTwN (K : PySem.W.Frag) (T : List Addr) (vF : List Nd → List Nd → PyData) : Sp := fun vs H Q _ => vs.length = 2 ∧ Tbs T H ∧ ∃ B a sc R a' sc' S, Le B H ∧ Ds K B vs [.tuple [a, sc, .tuple (R.map ndD)], .tuple [a', sc', .tuple (S.map ndD)]] ∧ twoP R S ∧
  ∀ v B' H', Up B H B' H' → Dt K B' v (vF R S) → Q v H'
theorem idD_ok {a : List Nat} (h : a.length ≤ 1002) : okD (.tuple (idD a)) = true ∧ noDict (.tuple (idD a)) = true := by
  have e1 : okDs (idD a) = true := okDs_of fun x hx => by
    obtain ⟨n, _, rfl⟩ := List.mem_map.mp hx
    rfl
  have e2 : noDicts (idD a) = true := noDicts_of fun x hx => by
    obtain ⟨n, _, rfl⟩ := List.mem_map.mp hx
    rfl
  refine ⟨?_, e2⟩
  show (decide ((idD a).length ≤ 100000) && okDs (idD a)) = true
  rw [e1, decide_eq_true (by unfold idD; rw [List.length_map]; omega)]
  rfl
theorem plcs_shaped {xs : List Mt} (h : xs.length ≤ 1002) (hl : ∀ x ∈ xs, x.2.2.length ≤ 1002) : noDict (.list (xs.map plcD)) = true ∧ SeqAt.shaped (.list (xs.map plcD)) = true := by
  have each : ∀ x ∈ xs, okD (plcD x) = true ∧ noDict (plcD x) = true := fun x hx => by
    obtain ⟨a, b⟩ := idD_ok (hl x hx)
    constructor
    · show (decide (2 ≤ 100000) && (okD (.int (x.2.2.length : Int)) && (okD (.tuple (idD x.2.2)) && true))) = true
      rw [a]
      rfl
    · show (true && (noDict (.tuple (idD x.2.2)) && true)) = true
      rw [b]
      rfl
  have n : noDicts (xs.map plcD) = true := noDicts_of fun x hx => by
    obtain ⟨p, hp, rfl⟩ := List.mem_map.mp hx
    exact (each p hp).2
  have k : okD (.list (xs.map plcD)) = true := by
    show (decide ((xs.map plcD).length ≤ 100000) && okDs (xs.map plcD)) = true
    rw [decide_eq_true (by rw [List.length_map]; omega), okDs_of fun x hx => by
      obtain ⟨p, hp, rfl⟩ := List.mem_map.mp hx
      exact (each p hp).1]
    rfl
  have dd := plc_depth xs
  have de : (PyData.list (xs.map plcD)).depth ≤ 61 := by
    simp only [PyData.depth]
    omega
  refine ⟨n, ?_⟩
  unfold SeqAt.shaped
  rw [Bool.and_eq_true]
  exact ⟨okD_lay k n, decide_eq_true (by omega)⟩
theorem boot_min2 : bootBuiltins "min" = some (.builtin "min") := by decide +kernel
theorem ee_minF {X : Cx} {e : Expr} {σ : L2.St} {B : Hp} {d0 : PyData} {ds : List PyData} {p pos : Pos} (hc : X.calm = true) (hu : X.A.units + 64 < cLine) (hm : X.mg "min" = none) (ha : EE X e σ B (.list (d0 :: ds))) (hnd : noDicts (d0 :: ds) = true) (al : AlikeAll (d0 :: ds)) (dp : PyData.depthAll (d0 :: ds) ≤ 60) (hf : ∀ y ∈ ds, dataLt y d0 = false)
    (hg : Gl X "min" := by rfl) (he : starEach [e] X.env = (false, eval e X.env) :: starEach [] X.env := by rfl) : EE X (.Call (.Name "min" p) [e] [] pos) σ B d0 :=
  ee_callB (c_minF hc hu) hg hm boot_min2 (fun B1 H1 l l1 vs hv Q q => by
    obtain ⟨v, rfl, hx⟩ := ds1 hv
    cases hx with
    | lst s t h0 =>
      cases h0 with
      | cons hx0 hr => exact ⟨_, _, _, d0, ds, rfl, sqL_le l1 s, Ds.toDp (Ds.le l1 (.cons hx0 hr)) hnd, al, dp, hf, q _ B1 H1 (Up.refl l1) hx0⟩) (ea_cons ha ea_nil he) (by decide) (by decide) he rfl
/-- d[t], a dict of pairs -/
theorem ee_dgetT {X : Cx} {i j : Nat} {x y : Str} {ld t : Addr} {σ : L2.St} {B : Hp} {d : PyData} {v : V} {p p2 pos : Pos} (hu : X.A.units + 1 < cLine) (hσ : σ[i]? = some (some (.ref ld))) (hσ2 : σ[j]? = some (some (.ref t))) (g : ∀ H1, Le B H1 → DGet H1 ld (.ref t) (some v)) (hd : Dt X.K B v d)
    (hN : X.N[i]? = some x := by rfl) (hN2 : X.N[j]? = some y := by rfl) (hv : Vis X.env.scope x := by first | exact Or.inl rfl | exact Or.inr (Or.inl rfl) | exact Or.inr (Or.inr rfl)) (hv2 : Vis X.env.scope y := by first | exact Or.inl rfl | exact Or.inr (Or.inl rfl) | exact Or.inr (Or.inr rfl))
    (hdb : (x == ("__debug__" : Str)) = false := by decide) (hcd : (x == ("__classdict__" : Str)) = false := by decide) (hdb2 : (y == ("__debug__" : Str)) = false := by decide) (hcd2 : (y == ("__classdict__" : Str)) = false := by decide) : EE X (.Subscript (.Name x p) (.Name y p2) pos) σ B d := fun H1 l Q q =>
  ⟨_, pe_dget hu (pe_var hN hv hdb hcd) (pe_var hN2 hv2 hdb2 hcd2) (by intro _ _; rfl), _, hσ, _, hσ2, ld, v, rfl, g H1 l, q v B H1 (Up.refl l) hd⟩
theorem vls_at {K : PySem.W.Frag} {B : Hp} {kvs : List (List L2.Key × V)} {L : List Mt} (h : Vls K B kvs L) : ∀ (i : Nat) (k : List L2.Key) (v : V), kvs[i]? = some (k, v) → ∃ x, L[i]? = some x ∧ k = keyP x.1 ∧ Dt K B v (.tuple (idD x.2.2)) := by
  unfold Vls at h
  induction h with
  | nil => intro i k v e; cases e
  | @cons a b as bs r _ ih =>
    intro i k v e
    cases i with
    | zero =>
      obtain ⟨r1, r2⟩ := r
      cases Option.some.inj e
      exact ⟨b, rfl, r1, r2⟩
    | succ i => exact ih i k v e
end K0


set_option Elab.async false
set_option linter.all false
set_option maxRecDepth 100000
set_option maxHeartbeats 4000000
/-! R12: _law_parting, its run. -/
namespace K0
open PySem PySem.Spec PyProof.Rows L2 GxR Tk
open PySem.W (AlikeAll dataLt)
variable [LamTab]
section
variable {P : Program} {w : World} {K : PySem.W.Frag} {mg : Str → Option Value} {base : Heap} {f : Addr} {fd : FuncData} {T : List Addr}
structure MetAt (P : Program) (w : World) (K : PySem.W.Frag) (mg : Str → Option Value) (base : Heap) (T : List Addr) : Prop where
  ex : ∃ (f : Addr) (fd : FuncData), FnOk P w K mg base CX0 1 f fd ["one", "other"] (spMet K T) ∧ mg "_law_met" = some (.ref f) ∧ PySem.W.keepIn K (.ref f) = true ∧ Binds K fd ["one", "other"] []
theorem ok_lpt (BL : Blt mg) (hmn : mg "min" = none) (GM : MetAt P w K mg base T) (F : L2.Fun K "_law_parting" "_law_parting" sLpt f fd) : FnOk P w K mg base CX0 2 f fd ["one", "other"] (spTwN K T partV) := by
  obtain ⟨f2, fd2, G2, m2, k2, b2⟩ := GM.ex
  refine fn_any F scLpt (fun vs H Q E h => h.1) fun cdv A outer s H vs Q E hr hcd h => ?_
  obtain ⟨hl, t0, B0, a0, sc0, R, a0', sc0', S, l0, hd0, tw, q0⟩ := h
  obtain ⟨B, lB0, l, t, up0⟩ := with_tables t0 l0
  have hd := Ds.le lB0 hd0
  obtain ⟨v1, v2, rfl, h1, h2⟩ := ds2 hd
  have hu := hu64 hr
  have hu1 : (A.deeper (envOfC "_law_parting" (defScope sLpt) s.heap.objs.size f cdv)).units + 1 < cLine := by omega
  refine wb_cons ⟨_, ps_par (i := 2) (j := 3) rfl ndLp rfl rfl (by decide) rfl rfl (pa_cons (pe_call (CX := CX0) (E := L2.E0) G2 (hr.mono (by decide)) rfl m2 k2 b2 .nil pass0 (pa_cons (pe_var (i := 0) rfl (by first | exact Or.inl rfl | exact Or.inr (Or.inl rfl) | exact Or.inr (Or.inr rfl))) (pa_cons (pe_var (i := 1) rfl (by first | exact Or.inl rfl | exact Or.inr (Or.inl rfl) | exact Or.inr (Or.inr rfl))) pa_nil)) (by decide) rfl rfl) (pa_cons (pe_lst pa_nil) pa_nil)) rfl, ?_⟩
  refine ⟨_, rfl, _, rfl, ?_⟩
  refine ⟨rfl, t.le l, B, a0, sc0, R, a0', sc0', S, l, hd, tw, fun ld kvs B1 H1 u1 bd hld e1 dk => ?_⟩
  refine ⟨Nat.zero_le _, fun lq hlq => ⟨_, _, rfl, ?_⟩⟩
  have b1q : B1 lq = none := u1.s.there lq hlq
  have hq0 : H lq = none := u1.h.there lq hlq
  have nql : lq ≠ ld := fun z => by rw [z, e1] at hlq; cases hlq
  have u2 := up_mut u1 hq0 b1q (o := .lst [])
  have e2 : (upd H1 lq (.lst [])) ld = some (.dT kvs) := by rw [upd_ne fun z => nql z.symm]; exact e1
  have e3 : (upd H1 lq (.lst [])) lq = some (.lst []) := upd_same
  generalize upd H1 lq (.lst []) = H2 at u2 e2 e3 ⊢
  show WB _ _ _ [some v1, some v2, some (.ref ld), some (.ref lq), none] H2
  have I := met_inv tw.1 tw.2.1 tw.2.2.1 tw.2.2.2.1 (R.length * S.length)
  have hlen := met_len tw.1 tw.2.1 tw.2.2.1 tw.2.2.2.1 (R.length * S.length)
  have h1000 := tw.2.2.2.2.1
  have hlM : (metR R S).length ≤ 1000 := Nat.le_trans hlen h1000
  have hpM : ∀ x ∈ metR R S, x.2.2.length ≤ 1002 := fun x hx => by
    obtain ⟨j, hj, e⟩ := List.mem_iff_getElem.mp hx
    have := place_len I j x (by
      show (metR R S)[j]? = some x
      rw [List.getElem?_eq_getElem hj, e])
    omega
  have kl := Paired.length dk
  refine wb_cons ⟨_, ps_lock (ps_for PassesOwn.never rfl (pi_keys (pe_var (i := 2) rfl (by first | exact Or.inl rfl | exact Or.inr (Or.inl rfl) | exact Or.inr (Or.inr rfl)))) (pg_name (i := 4) ndLp rfl (by first | exact Or.inl rfl | exact Or.inr rfl) (by first | exact Or.inl rfl | exact Or.inr rfl)) pss_w), ?_⟩
  refine ⟨ld, _, e2, trivial, fun od => ?_⟩
  have u3 := up_mut u2 hld bd (o := .frz od (.dT kvs))
  have e2f : (upd H2 ld (.frz od (.dT kvs))) ld = some (.frz od (.dT kvs)) := upd_same
  have e3f : (upd H2 ld (.frz od (.dT kvs))) lq = some (.lst []) := by rw [upd_ne nql]; exact e3
  generalize upd H2 ld (.frz od (.dT kvs)) = H3 at u3 e2f e3f ⊢
  refine ⟨_, rfl, ld, od, rfl, .inr ⟨kvs, e2f, ?_⟩⟩
  refine for_it (walk_keysT (d := ld) (o := od) (kvs := kvs)) (fun i σ' H' => ∃ (qv : List V) (a4 : Option V) (Bq : Hp), σ' = [some v1, some v2, some (.ref ld), some (.ref lq), a4] ∧ H' ld = some (.frz od (.dT kvs)) ∧ H' lq = some (.lst qv) ∧ Up B H Bq H' ∧ Bq ld = none ∧ Bq lq = none ∧ Le B1 Bq ∧ Ds K Bq qv ((((metR R S).take i).filter fun x => !likeM R S x.1).map plcD))
    ⟨[], none, B1, rfl, e2f, e3f, u3, bd, b1q, Le.refl _, .nil⟩ (fun i σ' H' hi hI => ?_) (fun i x σ' H' H'' hi hI hx => ?_) fun σ' H' hI => ?_
  · obtain ⟨qv, a4, Bq, rfl, g1, _⟩ := hI
    exact g1
  · obtain ⟨qv, a4, Bq, rfl, g1, g2, ub, bd', bq', lB, dq⟩ := hI
    obtain ⟨rfl, k, vk, tq, hkv, rfl, htq⟩ := hx
    obtain ⟨y, hy, rfl, dv⟩ := vls_at dk i k vk hkv
    have yM : y ∈ metR R S := List.mem_of_getElem? hy
    obtain ⟨y1, y2⟩ := I.rg y yM
    show WB _ _ _ [some v1, some v2, some (.ref ld), some (.ref lq), some (.ref tq)] H''
    have htq : H'' tq = some (.tup [.int (y.1.1 : Int), .int (y.1.2 : Int)]) := htq
    have h1q := Dt.le (ub.b.trans ub.s) h1
    have h2q := Dt.le (ub.b.trans ub.s) h2
    have dtx : Dt K H'' (.ref tq) (pairD y.1) := pr_tup htq
    have hl1 : atI (R.map ndD) (y.1.1 : Int) = some (ndD R[y.1.1]) := at_nd y1
    have hl2 : atI (S.map ndD) (y.1.2 : Int) = some (ndD S[y.1.2]) := at_nd y2
    obtain ⟨kr1, kr2⟩ := tw.2.2.2.2.2.1 _ (List.getElem_mem y1)
    obtain ⟨ks1, ks2⟩ := tw.2.2.2.2.2.2 _ (List.getElem_mem y2)
    have hlk := like_eq (R := R) (S := S) y1 y2
    obtain ⟨vy, hvy, dvy⟩ := dk.val I.nd yM
    have tk : (metR R S).take (i + 1) = (metR R S).take i ++ [y] := by
      rw [List.take_add_one, hy]
      rfl
    refine wb_one (ws_if (B := H'') (k := !likeM R S y.1) (Le.refl _) ((et_cmp (op_neD hu) (rr_neD kr1 ks1 kr2 ks2)
      (ee_ix ix_tup (rr_ixT (d := R[y.1.1].1) at0) (ee_ix ix_tup (rr_ixT hl1) (ee_ix ix_tup (rr_ixT (d := .tuple (R.map ndD)) (atI_nat (j := 2) rfl)) (ee_var (i := 0) rfl h1q) ee_int) (ee_ix ix_tup (rr_ixT (d := .int (y.1.1 : Int)) at0) (ee_var (i := 4) rfl dtx) ee_int)) ee_int)
      (ee_ix ix_tup (rr_ixT (d := S[y.1.2].1) at0) (ee_ix ix_tup (rr_ixT hl2) (ee_ix ix_tup (rr_ixT (d := .tuple (S.map ndD)) (atI_nat (j := 2) rfl)) (ee_var (i := 1) rfl h2q) ee_int) (ee_ix ix_tup (rr_ixT (d := .int (y.1.2 : Int)) at1) (ee_var (i := 4) rfl dtx) ee_int)) ee_int)).cast (by rw [hlk])) (fun e H4 l4 => ?_) fun e H4 l4 => wb_nil ?_)
    · have g1 := l4.keep ld _ g1 (fun _ z => by cases z)
      have g2 := l4.keep lq _ g2 (fun _ z => by cases z)
      have htq4 := l4.keep tq _ htq (fun _ z => by cases z)
      have ub := ub.tab l4
      have gD : ∀ H1, Le H4 H1 → DGet H1 ld (.ref tq) (some vy) := fun H1 l1 => .inr ⟨kvs, keyP y.1, tq, .inr ⟨od, l1.keep ld _ g1 fun _ z => by cases z⟩, rfl, l1.keep tq _ htq4 (fun _ z => by cases z), hvy.symm⟩
      refine wb_one ⟨_, ps_expr (pe_bm PySem.F.plainAttrs_list PySem.F.slot_list_append PySem.F.type_list_append mt_append (pe_var (i := 3) rfl (by first | exact Or.inl rfl | exact Or.inr (Or.inl rfl) | exact Or.inr (Or.inr rfl))) (pa_cons (pe_tup (pa_cons pe_w (pa_cons (pe_dget hu1 (pe_var (i := 2) rfl (by first | exact Or.inl rfl | exact Or.inr (Or.inl rfl) | exact Or.inr (Or.inr rfl))) (pe_var (i := 4) rfl (by first | exact Or.inl rfl | exact Or.inr (Or.inl rfl) | exact Or.inr (Or.inr rfl))) (by intro _ _; rfl)) pa_nil))) pa_nil)), ?_⟩
      refine ⟨_, rfl, .inl ⟨rfl, _, SqL.of g2⟩, ?_⟩
      refine (ee_len BL (ee_dgetT (i := 2) (j := 4) hu1 rfl rfl gD (Dt.le (lB.trans ub.s) dvy)) rfl fun x z => by cases z) H4 (Le.refl _) _ fun x5 B5 H5 u5 d5 => ?_
      have eL : (idD y.2.2).length = y.2.2.length := List.length_map _
      rw [eL] at d5
      cases d5
      refine ⟨_, rfl, _, rfl, ld, vy, rfl, gD H5 u5.h, by show 2 ≤ sizeLine; decide, fun p hp => ?_⟩
      have g1 := u5.h.keep ld _ g1 (fun _ z => by cases z)
      have g2 := u5.h.keep lq _ g2 (fun _ z => by cases z)
      have ub := ub.tab u5.h
      have nf : ∀ {b : Addr} {o : HO}, H5 b = some o → b ≠ p := fun e z => by rw [z, hp] at e; cases e
      have g2p : (upd H5 p (.tup [.int (y.2.2.length : Int), vy])) lq = some (.lst qv) := by rw [upd_ne (nf g2)]; exact g2
      have g1p : (upd H5 p (.tup [.int (y.2.2.length : Int), vy])) ld = some (.frz od (.dT kvs)) := by rw [upd_ne (nf g1)]; exact g1
      have ubn := ub.new (o := .tup [.int (y.2.2.length : Int), vy]) hp (fun _ z => by cases z)
      have bpp : Bq p = none := ub.s.there p hp
      have lBp : Le Bq (upd Bq p (.tup [.int (y.2.2.length : Int), vy])) := Le.new bpp
      have qvl := dq.length
      rw [List.length_map] at qvl
      have qv2 : qv.length ≤ 1000 := by
        have e1 := List.length_filter_le (fun x => !likeM R S x.1) ((metR R S).take i)
        rw [List.length_take] at e1
        omega
      refine ⟨lq, qv, .ref p, rfl, rfl, g2p, Nat.lt_of_le_of_lt qv2 (by decide), ?_⟩
      have cq : (upd Bq p (.tup [.int (y.2.2.length : Int), vy])) lq = none := by rw [upd_ne (nf g2)]; exact bq'
      have cd : (upd Bq p (.tup [.int (y.2.2.length : Int), vy])) ld = none := by rw [upd_ne (nf g1)]; exact bd'
      have ur := up_mut ubn hq0 cq (o := .lst (qv ++ [.ref p]))
      refine ⟨qv ++ [.ref p], _, _, rfl, by rw [upd_ne fun z => nql z.symm]; exact g1p, upd_same, ur, cd, cq, lB.trans lBp, ?_⟩
      have ef : [y].filter (fun x => !likeM R S x.1) = [y] := List.filter_cons_of_pos (p := fun x : Mt => !likeM R S x.1) e
      rw [tk, List.filter_append, ef, List.map_append]
      exact (Ds.le lBp dq).snoc (.new_tup upd_same (.cons (.int _) (.cons (Dt.le (lB.trans lBp) dvy) .nil)))
    · refine ⟨qv, _, Bq, rfl, l4.keep ld _ g1 (fun _ z => by cases z), l4.keep lq _ g2 (fun _ z => by cases z), ub.tab l4, bd', bq', lB, ?_⟩
      have ef : [y].filter (fun x => !likeM R S x.1) = [] := List.filter_cons_of_neg (p := fun x : Mt => !likeM R S x.1) (by rw [e]; decide)
      rw [tk, List.filter_append, ef, List.append_nil]
      exact dq
  · obtain ⟨qv, a4, Bq, rfl, g1, g2, ub, bd', bq', lB, dq⟩ := hI
    refine ⟨g1, ?_⟩
    have u9 := up_mut ub hld bd' (o := .dT kvs)
    have g3 : (upd H' ld (.dT kvs)) lq = some (.lst qv) := by rw [upd_ne nql]; exact g2
    generalize upd H' ld (.dT kvs) = H9 at u9 g3 ⊢
    rw [kl, List.take_length] at dq
    have dq : Ds K Bq qv ((unM R S).map plcD) := dq
    have ua := up_add u9 hq0 bq' g3 (fun _ z => by cases z)
    have uS : (unM R S).length ≤ 1002 := Nat.le_trans (List.length_filter_le _ _) (by omega)
    obtain ⟨s1, s2⟩ := plcs_shaped uS (fun x hx => hpM x (List.mem_filter.mp hx).1)
    have dql : Dt K (upd Bq lq (.lst qv)) (.ref lq) (.list ((unM R S).map plcD)) := .new_lst upd_same (Ds.le (Le.new bq') dq)
    show WB _ _ _ [some v1, some v2, some (.ref ld), some (.ref lq), a4] H9
    refine wb_one (ws_ret (B := upd Bq lq (.lst qv)) (d := partV R S) ua.s (ee_if (p := PyData.eqv (.list ((unM R S).map plcD)) (.list [])) (et_cmp (op_eqD hu) (rr_eqD (e := .list []) s1 rfl s2 (by decide)) (ee_var (i := 3) rfl dql) (ee_lst ea_nil (Nat.zero_le _))) (fun z => ee_non.cast ?_) fun z => ?_) fun v9 B9 H9' u9' d9 => q0 v9 B9 H9' (up0 (ua.trans u9')) d9)
    · rcases part_first tw with ⟨_, e, _⟩ | ⟨y, ys, e, _⟩
      · exact e.symm
      · rw [e] at z; cases z
    · rcases part_first tw with ⟨e, _⟩ | ⟨y, ys, e, ep, _, hy⟩
      · rw [e] at z; cases z
      · rw [ep]
        rw [e, List.map_cons] at dql
        refine ee_ix ix_tup (rr_ixT (ds := [.int (y.2.2.length : Int), .tuple (idD y.2.2)]) at1) (ee_minF rfl hu hmn (ee_var (i := 3) rfl dql) ?_ ?_ ?_ fun d hd => ?_) ee_int
        · rw [e] at s1
          exact s1
        · have := plc_alike (y :: ys)
          exact this
        · exact plc_depth (y :: ys)
        · obtain ⟨z, hz, rfl⟩ := List.mem_map.mp hd
          exact plc_lt (hy z hz)
end
end K0


set_option Elab.async false
set_option linter.all false
set_option maxRecDepth 100000
set_option maxHeartbeats 4000000
/-! V2: _law_least: what it asks. -/
namespace Tk
open PySem PySem.Spec PyProof.Rows L2 GxR Gx
variable [LamTab]
section
variable {K : PySem.W.Frag} {H : Hp} {d : PyData} {ds : List PyData}
theorem rr_inL (n1 : noDict d = true) (n2 : noDicts ds = true) (s1 : SeqAt.shaped d = true) (s2 : SeqAt.shaped (.list ds) = true) : RR K (rInD K) H d (.list ds) (.bool (ds.any fun z => PyData.eqv z d)) := fun B H1 l l1 x y hx hy Q q =>
  ⟨d, ds, (Dt.le l1 hx).toDp n1, (Dt.le l1 hy).toDp n2, s1, s2, q _ B H1 (Up.refl l1) (.bl _)⟩
theorem rr_notInL (n1 : noDict d = true) (n2 : noDicts ds = true) (s1 : SeqAt.shaped d = true) (s2 : SeqAt.shaped (.list ds) = true) : RR K (rNotInD K) H d (.list ds) (.bool (!ds.any fun z => PyData.eqv z d)) := fun B H1 l l1 x y hx hy Q q =>
  ⟨d, ds, (Dt.le l1 hx).toDp n1, (Dt.le l1 hy).toDp n2, s1, s2, q _ B H1 (Up.refl l1) (.bl _)⟩
/-- rows beside their numbers, as a dict -/
def kvR : Nat → List V → List (Key × V)
  | _, [] => []
  | i, v :: vs => (Sum.inl (i : Int), v) :: kvR (i + 1) vs
theorem kvR_len : ∀ (i : Nat) (vs : List V), (kvR i vs).length = vs.length
  | _, [] => rfl
  | i, v :: vs => by
    show (kvR (i + 1) vs).length + 1 = vs.length + 1
    rw [kvR_len]
theorem kvR_app : ∀ (i : Nat) (us vs : List V), kvR i (us ++ vs) = kvR i us ++ kvR (i + us.length) vs
  | i, [], vs => rfl
  | i, u :: us, vs => by
    show (Sum.inl (i : Int), u) :: kvR (i + 1) (us ++ vs) = (Sum.inl (i : Int), u) :: (kvR (i + 1) us ++ kvR (i + (us.length + 1)) vs)
    rw [kvR_app (i + 1) us vs, show i + 1 + us.length = i + (us.length + 1) by omega]
theorem kvR_key : ∀ (i : Nat) (vs : List V) (kv : Key × V), kv ∈ kvR i vs → ∃ j, j < vs.length ∧ kv.1 = Sum.inl ((i + j : Nat) : Int)
  | _, [], _, h => nomatch h
  | i, v :: vs, kv, h => by
    rcases List.mem_cons.mp h with z | z
    · exact ⟨0, Nat.succ_pos _, by rw [z]; rfl⟩
    · obtain ⟨j, a, b⟩ := kvR_key (i + 1) vs kv z
      exact ⟨j + 1, Nat.succ_lt_succ a, by rw [b, show i + 1 + j = i + (j + 1) by omega]⟩
theorem kvR_put {us : List V} {v : V} : putK (kvR 0 us) (Sum.inl (us.length : Int)) v = kvR 0 (us ++ [v]) := by
  rw [kvR_app, Nat.zero_add]
  unfold putK
  rw [if_neg]
  · rfl
  intro e
  obtain ⟨kv, h1, h2⟩ := List.any_eq_true.mp e
  have h2 := of_decide_eq_true h2
  obtain ⟨j, a, b⟩ := kvR_key 0 us kv h1
  rw [h2] at b
  have := Sum.inl.inj b
  omega
theorem kvR_merge : ∀ (vs us : List V), mergeK (kvR 0 us) (kvR us.length vs) = kvR 0 (us ++ vs)
  | [], us => by
    show kvR 0 us = _
    rw [List.append_nil]
  | v :: vs, us => by
    show mergeK (putK (kvR 0 us) (Sum.inl (us.length : Int)) v) (kvR (us.length + 1) vs) = _
    rw [kvR_put, show us.length + 1 = (us ++ [v]).length by simp, kvR_merge vs (us ++ [v]), List.append_assoc]
    rfl
theorem kvR_val : ∀ (i : Nat) (vs : List V) (j : Nat), valV (kvR i vs) (Sum.inl ((i + j : Nat) : Int)) = vs[j]?
  | _, [], j => by simp [kvR, valV]
  | i, v :: vs, 0 => by
    show Option.map _ (List.find? _ ((Sum.inl (i : Int), v) :: kvR (i + 1) vs)) = _
    rw [List.find?_cons_of_pos (by simp)]
    rfl
  | i, v :: vs, j + 1 => by
    have ih := kvR_val (i + 1) vs j
    rw [show i + 1 + j = i + (j + 1) by omega] at ih
    unfold valV at ih ⊢
    show Option.map _ (List.find? _ ((Sum.inl (i : Int), v) :: kvR (i + 1) vs)) = _
    rw [List.find?_cons_of_neg (by
      simp only [decide_eq_true_eq]
      intro z
      have := Sum.inl.inj z
      omega), ih, List.getElem?_cons_succ]
/-- pairs (number, row), as dict takes them -/
theorem pairs_dict {B : Hp} : ∀ (T : List PyData) (i : Nat) (xs : List V), Ds K B xs (nums i T) → ∃ (ps : List Addr) (vs : List V), xs = ps.map V.ref ∧ Paired (fun p (kv : Key × V) => SqT K B p [kV kv.1, kv.2]) ps (kvR i vs) ∧ Ds K B vs T
  | [], i, xs, h => by
    have h : Ds K B xs [] := h
    cases h
    exact ⟨[], [], rfl, .nil, .nil⟩
  | d :: T, i, xs, h => by
    have h : Ds K B xs (.tuple [.int (Int.ofNat i), d] :: nums (i + 1) T) := h
    cases h with
    | cons a r =>
      obtain ⟨ps, vs, rfl, h2, h3⟩ := pairs_dict T (i + 1) _ r
      cases a with
      | tup s t q =>
        cases q with
        | cons q1 q =>
          cases q with
          | cons q2 q =>
            cases q
            cases q1
            exact ⟨_ :: ps, _ :: vs, rfl, .cons s h2, .cons q2 h3⟩
theorem sqT_leP {B B' : Hp} {ps : List Addr} {kvs : List (Key × V)} (l : Le B B') (h : Paired (fun p (kv : Key × V) => SqT K B p [kV kv.1, kv.2]) ps kvs) : Paired (fun p (kv : Key × V) => SqT K B' p [kV kv.1, kv.2]) ps kvs := Paired.mapP h fun p kv q => sqT_le l q
end
end Tk
namespace K0
open PySem PySem.Spec PyProof.Rows L2 GxR Tk
variable [LamTab]
abbrev sLe : Stmt := t__law_least
def NLe : List Str := ["wood", "rows", "many", "apart", "one", "other", "known", "goals", "chief", "told", "goal"]
theorem scLe : FnScope NLe ["wood"] (defScope sLe) := ⟨rfl, rfl, rfl, by decide +kernel, rfl, by decide +kernel, by decide +kernel⟩
theorem ndLe : List.Nodup NLe := by decide +kernel
theorem lt_eqv {R : List Nd} (ok : ltOk R) {x y : Nat} (hx : x < R.length) (hy : y < R.length) : PyData.eqv R[x].1 R[y].1 = true ↔ lt1 R x = lt1 R y := by
  have ex := lt1_at (List.getElem?_eq_getElem hx)
  have ey := lt1_at (List.getElem?_eq_getElem hy)
  obtain ⟨l, e1⟩ := lt_of ok hx
  obtain ⟨m, e2⟩ := lt_of ok hy
  rw [← ex, ← ey, e1, e2]
  show PyData.eqvAll (l.map PyData.str) (m.map PyData.str) = true ↔ _
  rw [eqv_strs, decide_eq_true_iff]
  exact ⟨fun z => by rw [z], fun z => by
    have z : l.map PyData.str = m.map PyData.str := by injection z
    exact (List.map_inj_right (fun a b e => by injection e)).mp z⟩
/-- apart.append((one, other)) -/
theorem ws_app {X : Cx} {D : L2.Ends} {σ : L2.St} {i j k m : Nat} {x y z : Str} {la : Addr} {avs : List V} {ds : List PyData} {B H B' H' : Hp} {a b : Nat} {p1 p2 p3 p4 p5 p6 pos : Pos} (h3 : σ[i]? = some (some (.ref la))) (h4 : σ[j]? = some (some (.int (a : Int)))) (h5 : σ[k]? = some (some (.int (b : Int)))) (u : Up B H B' H') (e : H' la = some (.lst avs)) (hb : B' la = none) (hh : H la = none) (d : Ds X.K B' avs ds) (hz : avs.length < sizeLine)
    (q : ∀ B2 H2 avs2, Le B' B2 → Up B H B2 H2 → H2 la = some (.lst avs2) → B2 la = none → Ds X.K B2 avs2 (ds ++ [pairD (a, b)]) → D.nx σ H2)
    (hN3 : X.N[i]? = some x := by rfl) (hv3 : Vis X.env.scope x := by first | exact Or.inl rfl | exact Or.inr (Or.inl rfl) | exact Or.inr (Or.inr rfl)) (hN4 : X.N[j]? = some y := by rfl) (hv4 : Vis X.env.scope y := by first | exact Or.inl rfl | exact Or.inr (Or.inl rfl) | exact Or.inr (Or.inr rfl)) (hN5 : X.N[k]? = some z := by rfl) (hv5 : Vis X.env.scope z := by first | exact Or.inl rfl | exact Or.inr (Or.inl rfl) | exact Or.inr (Or.inr rfl))
    (c1 : (x == ("__debug__" : Str)) = false := by decide) (c2 : (x == ("__classdict__" : Str)) = false := by decide) (c3 : (y == ("__debug__" : Str)) = false := by decide) (c4 : (y == ("__classdict__" : Str)) = false := by decide) (c5 : (z == ("__debug__" : Str)) = false := by decide) (c6 : (z == ("__classdict__" : Str)) = false := by decide)
    (hbase : attributeBase (.Name x p1) "append" X.env (eval (.Name x p1) X.env) = eval (.Name x p1) X.env := by rfl)
    (hfew : ((backTo p6 (starEach [.Tuple [.Name y p3, .Name z p4] m p5] X.env)).all (fun x => !x.1) && (backToKw p6 (keywordEach [] X.env)).all (fun x => x.1.isSome) && decide (([.Tuple [.Name y p3, .Name z p4] m p5] : List Expr).length + ([] : List Keyword).length + (if ([] : List Keyword).isEmpty then 0 else 1) < 30)) = true := by rfl)
    (hline : (p2.endLine == p6.line) = true := by rfl) (hs : starEach [.Tuple [.Name y p3, .Name z p4] m p5] X.env = (false, eval (.Tuple [.Name y p3, .Name z p4] m p5) X.env) :: starEach [] X.env := by rfl)
    (he1 : starEach [.Name y p3, .Name z p4] X.env = (false, eval (.Name y p3) X.env) :: starEach [.Name z p4] X.env := by rfl) (he2 : starEach [.Name z p4] X.env = (false, eval (.Name z p4) X.env) :: starEach [] X.env := by rfl) :
    WS X (.Expr (.Call (.Attribute (.Name x p1) "append" p2) [.Tuple [.Name y p3, .Name z p4] m p5] [] p6) pos) D σ H' := by
  refine ⟨_, ps_expr (pe_bm PySem.F.plainAttrs_list PySem.F.slot_list_append PySem.F.type_list_append mt_append (pe_var hN3 hv3 c1 c2) (pa_cons (pe_tup (pa_cons (pe_var hN4 hv4 c3 c4) (pa_cons (pe_var hN5 hv5 c5 c6) pa_nil he2) he1)) pa_nil hs) hbase hfew hline hs), ?_⟩
  refine ⟨_, h3, .inl ⟨rfl, _, SqL.of e⟩, _, h4, _, h5, by show 2 ≤ sizeLine; decide, fun p hp => ?_⟩
  have nf : la ≠ p := fun z => by rw [z, hp] at e; cases e
  have g : (upd H' p (.tup [.int (a : Int), .int (b : Int)])) la = some (.lst avs) := by rw [upd_ne nf]; exact e
  refine ⟨la, avs, .ref p, rfl, rfl, g, hz, ?_⟩
  have hp2 : B' p = none := u.s.there p hp
  have u2 := u.new (o := .tup [.int (a : Int), .int (b : Int)]) hp (fun _ z => by cases z)
  have hb2 : (upd B' p (.tup [.int (a : Int), .int (b : Int)])) la = none := by rw [upd_ne nf]; exact hb
  have u3 := up_mut u2 hh hb2 (o := .lst (avs ++ [.ref p]))
  exact q _ _ _ (Le.new hp2) u3 upd_same hb2 ((Ds.le (Le.new hp2) d).snoc (pr_tup (p := (a, b)) upd_same))
end K0


set_option Elab.async false
set_option linter.all false
set_option maxRecDepth 100000
set_option maxHeartbeats 4000000
/-! V3: _law_least. -/
namespace K0
open PySem PySem.Spec PyProof.Rows L2 GxR Tk
variable [LamTab]
def leP (ds : List PyData) : Prop := ∃ a sc R, ds = [.tuple [a, sc, .tuple (R.map ndD)]] ∧ rowsOk R ∧ ltOk R ∧ okL R ∧ 0 < R.length ∧ R.length ≤ 30
def scOne : Scope := { kind := .function, names := [(".0", .local), ("one", .cell), ("min", .globalImplicit), ("range", .globalImplicit), ("apart", .free), ("many", .free)], isGenerator := false, isCoroutine := false }
def scTwo : Scope := { kind := .function, names := [(".0", .local), ("other", .local), ("apart", .free), ("one", .free)], isGenerator := false, isCoroutine := false }
theorem upto_at {n i : Nat} {d : PyData} (hi : i < n) (h : (upto n)[i]? = some d) : d = .int (i : Int) := by
  unfold upto at h
  rw [List.getElem?_map, List.getElem?_range hi] at h
  exact (Option.some.inj h).symm
theorem upto_len {n : Nat} : (upto n).length = n := by unfold upto; rw [List.length_map, List.length_range]
theorem upto_mem {n : Nat} {d : PyData} (h : d ∈ upto n) : ∃ x, x < n ∧ d = .int (x : Int) := by
  obtain ⟨x, hx, rfl⟩ := List.mem_map.mp h
  exact ⟨x, List.mem_range.mp hx, rfl⟩
theorem ints_mem {xs : List Nat} {d : PyData} (h : d ∈ idD xs) : ∃ x, x ∈ xs ∧ d = .int (x : Int) := by
  obtain ⟨x, hx, rfl⟩ := List.mem_map.mp h
  exact ⟨x, hx, rfl⟩
section
variable {P : Program} {w : World} {K : PySem.W.Frag} {mg : Str → Option Value} {base : Heap} {f : Addr} {fd : FuncData} {T : List Addr}
theorem ee_numD {X : Cx} {a b : Expr} {σ : L2.St} {B : Hp} {R : List Nd} {lr : Addr} {st : Nat} {sc : PyData} {kvs : List (Key × V)} {i j : Nat} {y : Str} {p p2 pos : Pos} (F : Kn P w K mg base 1 "_law_numbered" ["scope", "first", "rows"] (spND K T)) (hr : Room j X.A) (hk : 1 ≤ j) (t : Tbs T B) (hσ : σ[i]? = some (some (.ref lr))) (hB : B lr = some (.dK kvs))
    (hrow : ∀ k, (h : k < R.length) → ∃ v, valV kvs (Sum.inl (k : Int)) = some v ∧ Dt K B v (ndD R[k])) (hR : rowsOk R) (hs : st < R.length) (hn : R.length ≤ 1000) (ha : EE X a σ B sc) (hb : EE X b σ B (.int (st : Int)))
    (eP : X.prog = P := by rfl) (ew : X.w = w := by rfl) (eK : X.K = K := by rfl) (em : X.mg = mg := by rfl) (eb : X.base = base := by rfl) (hg : Gl X "_law_numbered" := by rfl) (hN : X.N[i]? = some y := by rfl) (hv : Vis X.env.scope y := by first | exact Or.inl rfl | exact Or.inr (Or.inl rfl) | exact Or.inr (Or.inr rfl)) (hdb : (y == ("__debug__" : Str)) = false := by decide) (hcd : (y == ("__classdict__" : Str)) = false := by decide)
    (he : starEach [a, b, .Name y p2] X.env = (false, eval a X.env) :: starEach [b, .Name y p2] X.env := by rfl) (he2 : starEach [b, .Name y p2] X.env = (false, eval b X.env) :: starEach [.Name y p2] X.env := by rfl) (he3 : starEach [.Name y p2] X.env = (false, eval (.Name y p2) X.env) :: starEach [] X.env := by rfl) (hpl : (backTo pos (starEach [b, .Name y p2] X.env)).any (·.1) = false := by rfl) :
    EE X (.Call (.Name "_law_numbered" p) [a, b, .Name y p2] [] pos) σ B (.tuple [.str "wood", sc, .tuple (walkL R st)]) := fun H1 l Q q => by
  subst eP ew eK em eb
  obtain ⟨fa, fd, m1, m2, G, bi⟩ := F.ex
  refine ⟨_, pe_call (E := L2.E0) G (hr.mono hk) hg m1 m2 bi .nil pass0 (pa_cons pe_w (pa_cons pe_w (pa_cons (pe_var hN hv hdb hcd) pa_nil he3) he2) he) (by decide) he hpl, ?_⟩
  refine ha H1 l _ fun va B2 H2 u2 da => hb.mono u2.b H2 u2.s _ fun v B3 H3 u3 dv => ?_
  cases dv
  have u := u2.trans u3
  exact ⟨_, hσ, (⟨rfl, (t.le l).le u.h, B3, R, st, sc, va, lr, kvs, rfl, u.s, Dt.le u3.b da, u.b.keep lr _ hB (fun _ z => by cases z), fun k h => by
    obtain ⟨v, e1, e2⟩ := hrow k h
    exact ⟨v, e1, Dt.le u.b e2⟩, hR, hs, hn, fun v B4 H4 u4 d4 => q v B4 H4 (u.trans u4) d4⟩ : spND X.K T [va, .int (st : Int), .ref lr] H3 Q _)⟩
theorem ok_le (BL : Blt mg) (hmn : mg "min" = none) (Fn : Kn P w K mg base 1 "_law_numbered" ["scope", "first", "rows"] (spND K T)) (F : L2.Fun K "_law_least" "_law_least" sLe f fd) : FnOk P w K mg base CX0 2 f fd ["wood"] (spF K T 1 leP lstF) := by
  refine fn_pure F scLe rfl fun cdv A outer s H vs B ds Q E hr hcd t l hd hl hp q => ?_
  obtain ⟨a, sc, R, rfl, hR, hO, oL, h0, hn⟩ := hp
  obtain ⟨v1, rfl, h1⟩ := ds1 hd
  have hu := hu64 hr
  have hu' := hu65 hr
  have nn : R.length * R.length ≤ 900 := Nat.le_trans (Nat.mul_le_mul hn hn) (by decide)
  refine wb_cons (ws_tgt (B := B) (d := .tuple [.tuple (R.map ndD), .int (R.length : Int)]) (es := [.tuple (R.map ndD), .int (R.length : Int)]) (tjs := [1, 2]) (pat := patT 2) l (ee_tup (ea_cons (ee_ix ix_tup (rr_ixT (d := .tuple (R.map ndD)) (atI_nat (j := 2) rfl)) (ee_var (i := 0) rfl h1) ee_int) (ea_cons ((ee_len BL (ee_ix ix_tup (rr_ixT (d := .tuple (R.map ndD)) (atI_nat (j := 2) rfl)) (ee_var (i := 0) rfl h1) ee_int) rfl fun x z => by cases z).cast (by rw [List.length_map])) ea_nil)) (by show 2 ≤ sizeLine; decide)) (eg_tup rfl (st_cons (st_cons st_nil ndLe) ndLe)) rfl fun vs B1 H1 u1 dvs => ?_)
  obtain ⟨vr, vn, rfl, dR, dn⟩ := ds2 dvs
  cases dn
  show WB _ _ _ [some v1, some vr, some (.int (R.length : Int)), none, none, none, none, none, none, none, none] H1
  refine wb_cons ⟨_, ps_set (i := 3) ndLe rfl (by first | exact Or.inl rfl | exact Or.inr rfl) (pe_lst pa_nil) rfl (by first | exact Or.inl rfl | exact Or.inr rfl), ?_⟩
  refine ⟨by decide, fun la hla => ?_⟩
  have e0 : (upd H1 la (.lst [])) la = some (.lst []) := upd_same
  have laH : H la = none := u1.h.there la hla
  have laB : B1 la = none := u1.s.there la hla
  have u2 := up_mut u1 laH laB (o := .lst [])
  show WB _ _ _ [some v1, some vr, some (.int (R.length : Int)), some (.ref la), none, none, none, none, none, none, none] (upd H1 la (.lst []))
  generalize upd H1 la (.lst []) = H2 at u2 e0 ⊢
  -- the pairs of unlike letters
  refine wb_cons (ws_for (B := B1) (ds := upto R.length) (tjs := [4]) (pat := patN) u2.s (ei_range (n := (R.length : Int)) BL.range (ee_var (i := 2) rfl (.int _)) (by omega) (by omega)) (eg_name ndLe) (fun d hd => ⟨[d], rfl⟩) PassesOwn.never rfl
    (fun i σ' B' H' => ∃ a4 a5 avs AP, σ' = [some v1, some vr, some (.int (R.length : Int)), some (.ref la), a4, a5, none, none, none, none, none] ∧ Le B1 B' ∧ B' la = none ∧ H' la = some (.lst avs) ∧ Ds K B' avs ((AP : List Pr).map pairD) ∧ AI R AP ∧ done0 R AP i 0 ∧ ahead AP i 0 ∧ Up B H B' H')
    (fun B' H' u => ⟨none, none, [], [], rfl, u.b, up_none u laB e0 (fun _ z => by cases z), u.h.keep la _ e0 (fun _ z => by cases z), .nil, AI.nil, (fun x y _ _ z => by omega), (fun p hp => nomatch hp), u2.trans u⟩) (fun i d es us σ' B3 H3 B4 H4 hi hd' lb hI u4 hpat dus N hN => ?_) fun σ' B3 H3 lb ls hI => ?_)
  · obtain ⟨a4, a5, avs, AP, rfl, lB, b1, e1, dA, I, d0, ah, u0⟩ := hI
    rw [upto_len] at hi
    cases hpat
    obtain ⟨y, rfl, hy⟩ := ds1 (K := K) dus
    cases upto_at hi hd'
    cases hy
    have b2 := up_none u4 b1 e1 (fun _ z => by cases z)
    have e1 := u4.h.keep la _ e1 (fun _ z => by cases z)
    have dA := Ds.le u4.b dA
    have u0 := u0.trans u4
    have lB := lB.trans u4.b
    show WB _ _ _ [some v1, some vr, some (.int (R.length : Int)), some (.ref la), some (.int (i : Int)), a5, none, none, none, none, none] H4
    refine wb_one (ws_for (B := B4) (ds := upto R.length) (tjs := [5]) (pat := patN) u0.s (ei_range (n := (R.length : Int)) BL.range (ee_var (i := 2) rfl (.int _)) (by omega) (by omega)) (eg_name ndLe) (fun d hd => ⟨[d], rfl⟩) PassesOwn.never rfl
      (fun j σ' B' H' => ∃ a5 avs AP, σ' = [some v1, some vr, some (.int (R.length : Int)), some (.ref la), some (.int (i : Int)), a5, none, none, none, none, none] ∧ Le B4 B' ∧ B' la = none ∧ H' la = some (.lst avs) ∧ Ds K B' avs ((AP : List Pr).map pairD) ∧ AI R AP ∧ done0 R AP i j ∧ ahead AP i j ∧ Up B H B' H')
      (fun B' H' u => ⟨a5, avs, AP, rfl, u.b, up_none u b2 e1 (fun _ z => by cases z), u.h.keep la _ e1 (fun _ z => by cases z), Ds.le u.b dA, I, d0, ah, u0.trans u⟩) (fun j d es us σ' B5 H5 B6 H6 hj hd' lb5 hI u6 hpat dus M hM => ?_) fun σ' B5 H5 lb5 ls5 hI => ?_)
    · obtain ⟨a5, avs, AP, rfl, lB5, b3, e3, dA, I, d0, ah, u0⟩ := hI
      rw [upto_len] at hj
      cases hpat
      obtain ⟨y, rfl, hy⟩ := ds1 (K := K) dus
      cases upto_at hj hd'
      cases hy
      have b4 := up_none u6 b3 e3 (fun _ z => by cases z)
      have e4 := u6.h.keep la _ e3 (fun _ z => by cases z)
      have dA := Ds.le u6.b dA
      have u0 := u0.trans u6
      have dR6 := Dt.le (((lB.trans lB5).trans u6.b)) dR
      have hz := I.len
      have hal := dA.length
      rw [List.length_map] at hal
      show WB _ _ _ [some v1, some vr, some (.int (R.length : Int)), some (.ref la), some (.int (i : Int)), some (.int (j : Int)), none, none, none, none, none] H6
      have oi := oL _ (List.getElem_mem hi)
      have oj := oL _ (List.getElem_mem hj)
      refine wb_one (ws_if (B := B6) (k := !PyData.eqv R[i].1 R[j].1) u0.s (et_cmp (op_neD hu) (rr_neD oi.1 oj.1 oi.2 oj.2) (ee_ix ix_tup (rr_ixT (d := R[i].1) at0) (ee_ix ix_tup (rr_ixT (at_nd hi)) (ee_var (i := 1) rfl dR6) (ee_var (i := 4) rfl (.int _))) ee_int) (ee_ix ix_tup (rr_ixT (d := R[j].1) at0) (ee_ix ix_tup (rr_ixT (at_nd hj)) (ee_var (i := 1) rfl dR6) (ee_var (i := 5) rfl (.int _))) ee_int)) (fun e H7 l7 => ?_) fun e H7 l7 => wb_nil ?_)
      · have hne : lt1 R i ≠ lt1 R j := fun z => by
          have := (lt_eqv hO hi hj).mpr z
          rw [bno e] at this
          cases this
        have hnot : (i, j) ∉ AP := fun z => by
          have := ah _ z
          simp at this
        refine wb_one (ws_app (i := 3) (j := 4) (k := 5) rfl rfl rfl (u0.tab l7) (l7.keep la _ e4 (fun _ z => by cases z)) b4 laH dA (Nat.lt_of_le_of_lt (show avs.length ≤ 1000 by omega) (by decide)) fun B8 H8 av8 lB8 u8 e8 b8 d8 => hM _ B8 H8 lB8 u8.s ⟨some (.int (j : Int)), av8, AP ++ [(i, j)], rfl, (lB5.trans u6.b).trans lB8, b8, e8, by rw [List.map_append]; exact d8, I.add hi hj (fun b => hne b.lt) hnot, fun x y hx hy z hl => ?_, fun p hp => ?_, u8⟩)
        · by_cases zz : x = i ∧ y = j
          · rw [zz.1, zz.2]; exact List.mem_append_right _ (List.mem_singleton.mpr rfl)
          · exact List.mem_append_left _ (d0 x y hx hy (by omega) hl)
        · rcases List.mem_append.mp hp with z | z
          · have := ah p z
            omega
          · rw [List.mem_singleton.mp z]
            exact .inr ⟨rfl, Nat.lt_succ_self _⟩
      · have heq : lt1 R i = lt1 R j := (lt_eqv hO hi hj).mp (bys e)
        refine hM _ B6 H7 (Le.refl _) (u0.s.trans l7) ⟨some (.int (j : Int)), avs, AP, rfl, lB5.trans u6.b, b4, l7.keep la _ e4 (fun _ z => by cases z), dA, I, fun x y hx hy z hl => ?_, fun p hp => ?_, u0.tab l7⟩
        · by_cases zz : x = i ∧ y = j
          · rw [zz.1, zz.2] at hl
            exact absurd heq hl
          · exact d0 x y hx hy (by omega) hl
        · have := ah p hp
          omega
    · obtain ⟨a5, avs, AP, rfl, lB5, b3, e3, dA, I, d0, ah, u0⟩ := hI
      rw [upto_len] at d0 ah
      exact hN _ B5 H5 lb5 ls5 ⟨some (.int (i : Int)), a5, avs, AP, rfl, lB.trans lB5, b3, e3, dA, I, fun x y hx hy z hl => d0 x y hx hy (by omega) hl, fun p hp => by have := ah p hp; omega, u0⟩
  obtain ⟨a4, a5, avs, AP, rfl, lB, b1, e1, dA, I, d0, _, u0⟩ := hI
  rw [upto_len] at d0
  refine wb_cons (ws_set (i := 6) (B := B3) (d := .int (-1)) u0.s (ee_neg (i := 1) ee_int) (fun v B4 H4 u4 dv => ?_) ndLe)
  cases dv
  have b1 := up_none u4 b1 e1 (fun _ z => by cases z)
  have e1 := u4.h.keep la _ e1 (fun _ z => by cases z)
  have dA := Ds.le u4.b dA
  have u0 := u0.trans u4
  have lB := lB.trans u4.b
  refine wb_cons ⟨_, ps_while PassesOwn.never pt_w pss_w, ?_⟩
  refine ⟨fun k σ' H' => ∃ (kn : Nat) (a4 a5 a7 : Option V) (avs : List V) (AP A0 : List Pr) (B' : Hp), σ' = [some v1, some vr, some (.int (R.length : Int)), some (.ref la), a4, a5, some (.int ((kn : Int) - 1)), a7, none, none, none] ∧ k = R.length * R.length + 1 - kn ∧ Le B1 B' ∧ B' la = none ∧ H' la = some (.lst avs) ∧ Ds K B' avs (AP.map pairD) ∧ AI R AP ∧ done0 R AP R.length 0 ∧ A0 <+: AP ∧ (kn = 0 ∨ (A0.length + 1 = kn ∧ done1 R A0 AP R.length 0)) ∧ Up B H B' H',
    ⟨_, 0, a4, a5, none, avs, AP, [], B4, rfl, rfl, lB, b1, e1, dA, I, d0, List.nil_prefix, .inl rfl, u0⟩, ?_⟩
  clear e1 dA I d0 u0 b1 u2 e0
  rintro k σ' H' ⟨kn, a4, a5, a7, avs, AP, A0, B', rfl, rfl, lB, b1, e1, dA, I, d0, pre, dn, u0⟩
  have hz := I.len
  have hal := dA.length
  rw [List.length_map] at hal
  refine (et_cmp op_gt rr_gt (ee_len BL (ee_var (i := 3) rfl (.new_lst e1 (Ds.le u0.s dA))) rfl fun x z => by cases z) (ee_var (i := 6) rfl (.int _))) H' (Le.refl _) _ fun H3 l3 => ?_
  have e1 := l3.keep la _ e1 (fun _ z => by cases z)
  have u0 := u0.tab l3
  clear l3
  rw [List.length_map]
  by_cases hgt : kn ≤ AP.length
  · rw [decide_eq_true (show (AP.length : Int) > (kn : Int) - 1 by omega)]
    refine (if_pos rfl).mpr ?_
    refine ⟨fun σ2 H5 => ∃ (a4 a5 a7 : Option V) (avs : List V) (AP2 : List Pr) (B' : Hp), σ2 = [some v1, some vr, some (.int (R.length : Int)), some (.ref la), a4, a5, some (.int (AP.length : Int)), a7, none, none, none] ∧ Le B1 B' ∧ B' la = none ∧ H5 la = some (.lst avs) ∧ Ds K B' avs (AP2.map pairD) ∧ AI R AP2 ∧ done0 R AP2 R.length 0 ∧ AP <+: AP2 ∧ done1 R AP AP2 R.length 0 ∧ Up B H B' H5,
      fun σ2 H5 ⟨a4, a5, a7, avs, AP2, B', z1, z2, z3, z4, z5, z6, z7, z8, z9, z10⟩ => ⟨R.length * R.length + 1 - (AP.length + 1), by omega, AP.length + 1, a4, a5, a7, avs, AP2, AP, B', by rw [show (((AP.length + 1 : Nat) : Int) - 1) = (AP.length : Int) by omega]; exact z1, rfl, z2, z3, z4, z5, z6, z7, z8, .inr ⟨rfl, z9⟩, z10⟩, ?_⟩
    refine wb_cons (ws_set (i := 6) (B := H3) (Le.refl _) (ee_len BL (ee_var (i := 3) rfl (.new_lst e1 (Ds.le u0.s dA))) rfl fun x z => by cases z) (fun v B4 H4 u4 dv => ?_) ndLe)
    rw [List.length_map] at dv
    cases dv
    have e1 := u4.h.keep la _ e1 (fun _ z => by cases z)
    have u0 := u0.tab u4.h
    clear u4
    show WB _ _ _ [some v1, some vr, some (.int (R.length : Int)), some (.ref la), a4, a5, some (.int (AP.length : Int)), a7, none, none, none] H4
    refine wb_one (ws_for (B := B') (ds := upto R.length) (tjs := [4]) (pat := patN) u0.s (ei_range (n := (R.length : Int)) BL.range (ee_var (i := 2) rfl (.int _)) (by omega) (by omega)) (eg_name ndLe) (fun d hd => ⟨[d], rfl⟩) PassesOwn.never rfl
      (fun i σ' B2 H' => ∃ a4 a5 a7 avs AP2, σ' = [some v1, some vr, some (.int (R.length : Int)), some (.ref la), a4, a5, some (.int (AP.length : Int)), a7, none, none, none] ∧ Le B' B2 ∧ B2 la = none ∧ H' la = some (.lst avs) ∧ Ds K B2 avs ((AP2 : List Pr).map pairD) ∧ AI R AP2 ∧ done0 R AP2 R.length 0 ∧ AP <+: AP2 ∧ done1 R AP AP2 i 0 ∧ Up B H B2 H')
      (fun B2 H' u => ⟨a4, a5, a7, avs, AP, rfl, u.b, up_none u b1 e1 (fun _ z => by cases z), u.h.keep la _ e1 (fun _ z => by cases z), Ds.le u.b dA, I, d0, List.prefix_refl _, (fun x y _ _ z => by omega), u0.trans u⟩) (fun i d es us σ' B5 H5 B6 H6 hi hd' lb hI u6 hpat dus N hN => ?_) fun σ' B5 H5 lb ls hI => ?_)
    · obtain ⟨a4, a5, a7, avs, AP2, rfl, lB5, b5, e5, dA, I, d0, pr2, d2, u0⟩ := hI
      rw [upto_len] at hi
      cases hpat
      obtain ⟨y, rfl, hy⟩ := ds1 (K := K) dus
      cases upto_at hi hd'
      cases hy
      have b6 := up_none u6 b5 e5 (fun _ z => by cases z)
      have e6 := u6.h.keep la _ e5 (fun _ z => by cases z)
      have dA := Ds.le u6.b dA
      have u0 := u0.trans u6
      have lB6 := lB5.trans u6.b
      show WB _ _ _ [some v1, some vr, some (.int (R.length : Int)), some (.ref la), some (.int (i : Int)), a5, some (.int (AP.length : Int)), a7, none, none, none] H6
      refine wb_one (ws_for (B := B6) (ds := upto R.length) (tjs := [5]) (pat := patN) u0.s (ei_range (n := (R.length : Int)) BL.range (ee_var (i := 2) rfl (.int _)) (by omega) (by omega)) (eg_name ndLe) (fun d hd => ⟨[d], rfl⟩) PassesOwn.never rfl
        (fun j σ' B2 H' => ∃ a5 a7 avs AP2, σ' = [some v1, some vr, some (.int (R.length : Int)), some (.ref la), some (.int (i : Int)), a5, some (.int (AP.length : Int)), a7, none, none, none] ∧ Le B6 B2 ∧ B2 la = none ∧ H' la = some (.lst avs) ∧ Ds K B2 avs ((AP2 : List Pr).map pairD) ∧ AI R AP2 ∧ done0 R AP2 R.length 0 ∧ AP <+: AP2 ∧ done1 R AP AP2 i j ∧ Up B H B2 H')
        (fun B2 H' u => ⟨a5, a7, avs, AP2, rfl, u.b, up_none u b6 e6 (fun _ z => by cases z), u.h.keep la _ e6 (fun _ z => by cases z), Ds.le u.b dA, I, d0, pr2, d2, u0.trans u⟩) (fun j d es us σ' B7 H7 B8 H8 hj hd' lb7 hI u8 hpat dus M hM => ?_) fun σ' B7 H7 lb7 ls7 hI => ?_)
      · obtain ⟨a5, a7, avs, AP2, rfl, lB7, b7, e7, dA, I, d0, pr2, d2, u0⟩ := hI
        rw [upto_len] at hj
        cases hpat
        obtain ⟨y, rfl, hy⟩ := ds1 (K := K) dus
        cases upto_at hj hd'
        cases hy
        have b8 := up_none u8 b7 e7 (fun _ z => by cases z)
        have e8 := u8.h.keep la _ e7 (fun _ z => by cases z)
        have dA := Ds.le u8.b dA
        have u0 := u0.trans u8
        have lB8 := lB7.trans u8.b
        have dR8 := Dt.le ((lB.trans lB6).trans lB8) dR
        have hz := I.len
        have hal := dA.length
        rw [List.length_map] at hal
        have ei := List.getElem?_eq_getElem hi
        have ej := List.getElem?_eq_getElem hj
        have gi0 : R[i].2.1 = gow R i 0 := by rw [gow_at ei, if_pos rfl]
        have gi1 : R[i].2.2 = gow R i 1 := by rw [gow_at ei, if_neg (by decide)]
        have gj0 : R[j].2.1 = gow R j 0 := by rw [gow_at ej, if_pos rfl]
        have gj1 : R[j].2.2 = gow R j 1 := by rw [gow_at ej, if_neg (by decide)]
        have row : ∀ {x w : Nat} (hx : x < R.length), ((w = 1 ∧ True) ∨ w = 2) → True := fun _ _ => trivial
        show WB _ _ _ [some v1, some vr, some (.int (R.length : Int)), some (.ref la), some (.int (i : Int)), some (.int (j : Int)), some (.int (AP.length : Int)), a7, none, none, none] H8
        refine wb_cons (ws_set (i := 7) (B := B8) (d := .list ([(gow R i 0, gow R j 0), (gow R i 1, gow R j 1)].map pairD)) u0.s ((ee_lst (ea_cons (ee_tup (ea_cons (ee_ix ix_tup (rr_ixT (d := .int (R[i].2.1 : Int)) (atI_nat (j := 1) rfl)) (ee_ix ix_tup (rr_ixT (at_nd hi)) (ee_var (i := 1) rfl dR8) (ee_var (i := 4) rfl (.int _))) ee_int) (ea_cons (ee_ix ix_tup (rr_ixT (d := .int (R[j].2.1 : Int)) (atI_nat (j := 1) rfl)) (ee_ix ix_tup (rr_ixT (at_nd hj)) (ee_var (i := 1) rfl dR8) (ee_var (i := 5) rfl (.int _))) ee_int) ea_nil)) (by show 2 ≤ sizeLine; decide))
          (ea_cons (ee_tup (ea_cons (ee_ix ix_tup (rr_ixT (d := .int (R[i].2.2 : Int)) (atI_nat (j := 2) rfl)) (ee_ix ix_tup (rr_ixT (at_nd hi)) (ee_var (i := 1) rfl dR8) (ee_var (i := 4) rfl (.int _))) ee_int) (ea_cons (ee_ix ix_tup (rr_ixT (d := .int (R[j].2.2 : Int)) (atI_nat (j := 2) rfl)) (ee_ix ix_tup (rr_ixT (at_nd hj)) (ee_var (i := 1) rfl dR8) (ee_var (i := 5) rfl (.int _))) ee_int) ea_nil)) (by show 2 ≤ sizeLine; decide)) ea_nil)) (by show 2 ≤ sizeLine; decide)).cast (by rw [gi0, gi1, gj0, gj1]; rfl)) (fun vg B9 H9 u9 dg => ?_) ndLe)
        have b9 := up_none u9 b8 e8 (fun _ z => by cases z)
        have e9 := u9.h.keep la _ e8 (fun _ z => by cases z)
        have dA := Ds.le u9.b dA
        have u0 := u0.trans u9
        have lB9 := lB8.trans u9.b
        show WB _ _ _ [some v1, some vr, some (.int (R.length : Int)), some (.ref la), some (.int (i : Int)), some (.int (j : Int)), some (.int (AP.length : Int)), some vg, none, none, none] H9
        have sh := pairs_shaped (ps := AP2) (by omega)
        have dAH : Dt K H9 (.ref la) (.list (AP2.map pairD)) := .new_lst e9 (Ds.le u0.s dA)
        have pk : ∀ p : Pr, noDict (pairD p) = true ∧ SeqAt.shaped (pairD p) = true := fun p => ⟨(pairD_ok p).2.1, rfl⟩
        refine wb_one (ws_if (B := H9) (k := decide ((i, j) ∉ AP2) && decide (hitP R AP2 (i, j))) (Le.refl _) (et_w (ew_and ((et_cmp (op_notInD hu') (rr_notInL (pk (i, j)).1 sh.1 (pk (i, j)).2 sh.2) (ee_tup (ea_cons (ee_var (i := 4) rfl (.int _)) (ea_cons (ee_var (i := 5) rfl (.int _)) ea_nil)) (by show 2 ≤ sizeLine; decide)) (ee_var (i := 3) rfl dAH)).cast (by rw [any_pair, decide_not])) fun _ => ew_one1 ?_)) (fun e H10 l10 => ?_) fun e H10 l10 => wb_nil ?_)
        · have g2 : ([(gow R i 0, gow R j 0), (gow R i 1, gow R j 1)].filter fun p => decide (p ∈ AP2)).length ≤ 100000 := Nat.le_trans (List.length_filter_le _ _) (by show 2 ≤ 100000; decide)
          have sg := pairs_shaped g2
          have ed : (([(gow R i 0, gow R j 0), (gow R i 1, gow R j 1)].map pairD).filter fun d => (AP2.map pairD).any fun z => PyData.eqv z d).map id = ([(gow R i 0, gow R j 0), (gow R i 1, gow R j 1)].filter fun p => decide (p ∈ AP2)).map pairD := by
            rw [List.map_id, List.filter_map]
            congr 1
            refine List.filter_congr fun p _ => ?_
            exact any_pair
          refine ((et_cmp (op_neD hu) (rr_neD (e := .list []) sg.1 rfl sg.2 rfl) ((ee_lc (own := [("goal", 10)]) (tjs := [10]) (pat := patN) (fun d => (AP2.map pairD).any fun z => PyData.eqv z d) id rfl ndLe (ei_lst (ee_var (i := 7) rfl (Dt.le u0.s dg))) (blkOk_by (show blkC NLe (defScope sLe) _ [("goal", 10)] = true by decide +kernel))
            (fun s H C cl fp => eg_name ndLe) (fun d hd => ⟨[d], rfl, rfl⟩) (fun vs hv => ?_) (fun B' d es vs lb hd he hv s H C cl fp => ?_) (fun B' d es vs lb hd hb he hv s H C cl fp => ?_) (by show 2 < sizeLine; decide)).cast (congrArg PyData.list ed)) (ee_lst ea_nil (by decide)))).cast ?_
          · match vs, hv with
            | [a], _ => rfl
          · cases he
            obtain ⟨y, rfl, hy⟩ := ds1 (K := K) hv
            obtain ⟨p, _, rfl⟩ := List.mem_map.mp hd
            exact ets_one (et_cmp (op_inD hu') (rr_inL (pk p).1 sh.1 (pk p).2 sh.2) (ee_var (i := 10) rfl hy) (ee_var (i := 3) rfl (Dt.le lb dAH)))
          · cases he
            obtain ⟨y, rfl, hy⟩ := ds1 (K := K) hv
            exact ee_var (i := 10) rfl hy
          · have hh : ∀ L : List Pr, (!PyData.eqv (.list (L.map pairD)) (.list [])) = decide (L ≠ []) := fun L => by cases L <;> rfl
            rw [hh]
            refine decide_eq_decide.mpr ?_
            unfold hitP
            by_cases z1 : (gow R i 0, gow R j 0) ∈ AP2
            · simp [z1]
            · by_cases z2 : (gow R i 1, gow R j 1) ∈ AP2
              · simp [z1, z2]
              · simp [z1, z2]
        · rw [Bool.and_eq_true] at e
          have hnot := of_decide_eq_true e.1
          have hhit := of_decide_eq_true e.2
          refine wb_one (ws_app (i := 3) (j := 4) (k := 5) rfl rfl rfl (u0.tab l10) (l10.keep la _ e9 (fun _ z => by cases z)) b9 laH dA (Nat.lt_of_le_of_lt (show avs.length ≤ 1000 by omega) (by decide)) fun BA HA avA lBA uA eA bA dAA => hM _ BA HA (u9.b.trans lBA) uA.s ⟨some (.int (j : Int)), some vg, avA, AP2 ++ [(i, j)], rfl, (lB9.trans lBA), bA, eA, by rw [List.map_append]; exact dAA, I.add hi hj (I.hit hhit) hnot, fun x y hx hy z hl => List.mem_append_left _ (d0 x y hx hy z hl), pr2.trans (List.prefix_append _ _), fun x y hx hy z hl => ?_, uA⟩)
          by_cases zz : x = i ∧ y = j
          · rw [zz.1, zz.2]; exact List.mem_append_right _ (List.mem_singleton.mpr rfl)
          · exact List.mem_append_left _ (d2 x y hx hy (by omega) hl)
        · refine hM _ B9 H10 u9.b (u0.s.trans l10) ⟨some (.int (j : Int)), some vg, avs, AP2, rfl, lB9, b9, l10.keep la _ e9 (fun _ z => by cases z), dA, I, d0, pr2, fun x y hx hy z hl => ?_, u0.tab l10⟩
          by_cases zz : x = i ∧ y = j
          · rw [zz.1, zz.2] at hl ⊢
            have hl2 : hitP R AP2 (i, j) := hl.elim (fun z => .inl (pr2.subset z)) fun z => .inr (pr2.subset z)
            rw [decide_eq_true hl2, Bool.and_true] at e
            exact Decidable.not_not.mp (of_decide_eq_false e)
          · exact d2 x y hx hy (by omega) hl
      · obtain ⟨a5, a7, avs, AP2, rfl, lB7, b7, e7, dA, I, d0, pr2, d2, u0⟩ := hI
        rw [upto_len] at d2
        exact hN _ B7 H7 lb7 ls7 ⟨some (.int (i : Int)), a5, a7, avs, AP2, rfl, lB6.trans lB7, b7, e7, dA, I, d0, pr2, fun x y hx hy z hl => d2 x y hx hy (by omega) hl, u0⟩
    · obtain ⟨a4, a5, a7, avs, AP2, rfl, lB5, b5, e5, dA, I, d0, pr2, d2, u0⟩ := hI
      rw [upto_len] at d2
      exact ⟨a4, a5, a7, avs, AP2, B5, rfl, lB.trans lB5, b5, e5, dA, I, d0, pr2, d2, u0⟩
  · rw [decide_eq_false (show ¬ (AP.length : Int) > (kn : Int) - 1 by omega)]
    refine (if_neg (by decide)).mpr ?_
    obtain ⟨ek, d1⟩ : A0.length + 1 = kn ∧ done1 R A0 AP R.length 0 := dn.resolve_left fun z => by omega
    have eA : A0 = AP := pre.eq_of_length (by have := pre.length_le; omega)
    subst eA
    have ap : ∀ x y, x < R.length → y < R.length → ((x, y) ∉ A0 ↔ Bs R x R y) := fun x y hx hy => apart_iff I hR (fun x y hx hy => d0 x y hx hy (.inl hx)) (fun x y hx hy => d1 x y hx hy (.inl hx)) hx hy
    have u8 := up_add u0 laH b1 e1 (fun _ z => by cases z)
    have lB8 : Le B' (upd B' la (.lst avs)) := Le.new b1
    have dA8 : Dt K (upd B' la (.lst avs)) (.ref la) (.list (A0.map pairD)) := .new_lst upd_same (Ds.le lB8 dA)
    have dR8 := Dt.le (lB.trans lB8) dR
    have h18 := Dt.le ((u1.b.trans lB).trans lB8) h1
    have t8 := t.le ((u1.b.trans lB).trans lB8)
    generalize upd B' la (.lst avs) = B8 at u8 lB8 dA8 dR8 h18 t8
    clear e1 dA u0
    have sh := pairs_shaped (ps := A0) (by omega)
    have pk : ∀ p : Pr, noDict (pairD p) = true ∧ SeqAt.shaped (pairD p) = true := fun p => ⟨(pairD_ok p).2.1, rfl⟩
    have ck : ((upto R.length).filter fun _ => true).map (fun d => PyData.int ((chief R (natD d) : Nat) : Int)) = idD ((List.range R.length).map (chief R)) := by
      rw [List.filter_eq_self.mpr fun _ _ => rfl]
      unfold upto idD
      rw [List.map_map, List.map_map]
      rfl
    refine wb_cons (ws_set (i := 8) (B := B8) (d := .list (idD ((List.range R.length).map (chief R)))) u8.s ((ee_lc (own := [("one", 4)]) (tjs := [4]) (pat := patN) (fun _ => true) (fun d => .int ((chief R (natD d) : Nat) : Int)) rfl ndLe (ei_range (n := (R.length : Int)) BL.range (ee_var (i := 2) rfl (.int _)) (by omega) (by omega)) (blkOk_by (show blkC NLe (defScope sLe) _ [("one", 4)] = true by decide +kernel))
      (fun s H C cl fp => eg_name ndLe) (fun d hd => ⟨[d], rfl, rfl⟩) (fun vs hv => ?_) (fun B' d es vs lb hd he hv s H C cl fp => ets_nil) (fun B9 d es vs lb hd hb he hv s H C cl fp => ?_) (by show (upto R.length).length < sizeLine; rw [upto_len]; exact Nat.lt_of_le_of_lt hn (by decide))).cast (congrArg PyData.list ck)) (fun vc B9 H9 u9 dc => ?_) ndLe)
    · match vs, hv with
      | [a], _ => rfl
    · cases he
      obtain ⟨y, rfl, hy⟩ := ds1 (K := K) hv
      obtain ⟨x, hx, rfl⟩ := upto_mem hd
      cases hy
      obtain ⟨rest, er, hrest⟩ := chief_head ap hx
      have inner : ((upto R.length).filter fun d => decide ((x, natD d) ∉ A0)).map id = .int ((chief R x : Nat) : Int) :: idD rest := by
        rw [List.map_id]
        have : (upto R.length).filter (fun d => decide ((x, natD d) ∉ A0)) = ((List.range R.length).filter fun y => decide ((x, y) ∉ A0)).map fun (i : Nat) => PyData.int (Int.ofNat i) := by
          unfold upto
          rw [List.filter_map]
          rfl
        rw [this, er]
        rfl
      refine ee_minF (ds := idD rest) rfl hu hmn (EE.cast (ee_lc (own := [("other", 5)]) (tjs := [5]) (pat := patN) (fun d => decide ((x, natD d) ∉ A0)) id rfl ndLe (ei_range (n := (R.length : Int)) BL.range (ee_var (i := 2) rfl (.int _)) (by omega) (by omega)) (blkOk_by (show blkC NLe scOne scTwo [("other", 5)] = true by decide +kernel))
        (fun s H C cl fp => eg_name ndLe) (fun d hd => ⟨[d], rfl, rfl⟩) (fun vs hv => ?_) (fun B' d es vs lb2 hd he hv s H C cl fp => ?_) (fun B' d es vs lb2 hd hb he hv s H C cl fp => ?_) (by show (upto R.length).length < sizeLine; rw [upto_len]; exact Nat.lt_of_le_of_lt hn (by decide))) (congrArg PyData.list inner)) ?_ ?_ ?_ ?_
      · match vs, hv with
        | [a], _ => rfl
      · cases he
        obtain ⟨y, rfl, hy⟩ := ds1 (K := K) hv
        obtain ⟨z, hz, rfl⟩ := upto_mem hd
        cases hy
        exact ets_one (ET.cast (et_cmp (op_notInD hu') (rr_notInL (pk (x, z)).1 sh.1 (pk (x, z)).2 sh.2) (ee_tup (ea_cons (ee_var (i := 4) rfl (.int _)) (ea_cons (ee_var (i := 5) rfl (.int _)) ea_nil)) (by show 2 ≤ sizeLine; decide)) (ee_var (i := 3) rfl (Dt.le (lb.trans lb2) dA8))) (by rw [any_pair, decide_not]; rfl))
      · cases he
        obtain ⟨y, rfl, hy⟩ := ds1 (K := K) hv
        exact ee_var (i := 5) rfl hy
      · exact noDicts_of fun d hd => by
          rcases List.mem_cons.mp hd with z | z
          · rw [z]; rfl
          · obtain ⟨y, _, rfl⟩ := ints_mem z; rfl
      · have all : ∀ d ∈ (PyData.int ((chief R x : Nat) : Int) :: idD rest), ∃ i : Int, d = .int i := fun d hd => by
          rcases List.mem_cons.mp hd with z | z
          · exact ⟨_, z⟩
          · obtain ⟨y, _, rfl⟩ := ints_mem z; exact ⟨_, rfl⟩
        exact ⟨fun a ha b hb => by
          obtain ⟨i, rfl⟩ := all a ha
          obtain ⟨j, rfl⟩ := all b hb
          rfl, fun a ha => by
          obtain ⟨i, rfl⟩ := all a ha
          exact PyData.noConfusion⟩
      · exact Nat.le_trans (depthAll_le (n := 0) fun d hd => by
          rcases List.mem_cons.mp hd with z | z
          · rw [z]; simp [PyData.depth]
          · obtain ⟨y, _, rfl⟩ := ints_mem z; simp [PyData.depth]) (by decide)
      · intro d hd
        obtain ⟨y, hy, rfl⟩ := ints_mem hd
        rw [PySem.W.dataLt_int]
        have := hrest y hy
        show decide ((y : Int) < ((chief R x : Nat) : Int)) = false
        exact decide_eq_false (by omega)
    show WB _ _ _ [some v1, some vr, some (.int (R.length : Int)), some (.ref la), a4, a5, some (.int ((kn : Int) - 1)), a7, some vc, none, none] H9
    have u9' := u8.trans u9
    have dR9 := Dt.le u9.b dR8
    have tk : ((upto R.length).filter fun _ => true).map (fun d => PyData.tuple [d, ndD ((TB R).getD (natD d) (.none, 0, 0))]) = nums 0 ((TB R).map ndD) := by
      rw [List.filter_eq_self.mpr fun _ _ => rfl]
      refine List.ext_getElem? fun x => ?_
      rw [List.getElem?_map, nums_get, List.getElem?_map]
      by_cases hx : x < R.length
      · have e1 : (upto R.length)[x]? = some (.int (Int.ofNat x)) := by
          unfold upto
          rw [List.getElem?_map, List.getElem?_range hx]
          rfl
        have e2 := TB_at (R := R) hx
        have e3 : (TB R).getD x (.none, 0, 0) = (lt1 R x, chief R (gow R x 0), chief R (gow R x 1)) := by rw [List.getD_eq_getElem?_getD, e2]; rfl
        rw [e1, e2, Nat.zero_add]
        show some (PyData.tuple [.int (Int.ofNat x), ndD ((TB R).getD x (.none, 0, 0))]) = _
        rw [e3]
        rfl
      · rw [List.getElem?_eq_none (by rw [upto_len]; omega), List.getElem?_eq_none (by rw [TB_len]; omega)]
        rfl
    have cAt : ∀ {x : Nat}, x < R.length → ((List.range R.length).map (chief R))[x]? = some (chief R x) := fun h => by
      rw [List.getElem?_map, List.getElem?_range h]
      rfl
    refine wb_cons ⟨_, ps_set (i := 9) ndLe rfl (by first | exact Or.inl rfl | exact Or.inr rfl) (pe_callTy (call_dictP rfl) rfl BL.dict boot_dict' (pa_cons pe_w pa_nil) (by decide) (by decide) rfl rfl) rfl (by first | exact Or.inl rfl | exact Or.inr rfl), ?_⟩
    refine ((ee_lc (own := [("one", 4)]) (tjs := [4]) (pat := patN) (fun _ => true) (fun d => PyData.tuple [d, ndD ((TB R).getD (natD d) (.none, 0, 0))]) rfl ndLe (ei_range (n := (R.length : Int)) BL.range (ee_var (i := 2) rfl (.int _)) (by omega) (by omega)) (blkOk_by (show blkC NLe (defScope sLe) _ [("one", 4)] = true by decide +kernel))
      (fun s H C cl fp => eg_name ndLe) (fun d hd => ⟨[d], rfl, rfl⟩) (fun vs hv => ?_) (fun B' d es vs lb hd he hv s H C cl fp => ets_nil) (fun BA d es vs lb hd hb he hv s H C cl fp => ?_) (by show (upto R.length).length < sizeLine; rw [upto_len]; exact Nat.lt_of_le_of_lt hn (by decide))).cast (congrArg PyData.list tk)) H9 u9'.s _ fun vL BA HA uA dL => ?_
    · match vs, hv with
      | [a], _ => rfl
    · cases he
      obtain ⟨y, rfl, hy⟩ := ds1 (K := K) hv
      obtain ⟨x, hx, rfl⟩ := upto_mem hd
      cases hy
      have e2 := TB_at (R := R) hx
      have e3 : (TB R).getD x (.none, 0, 0) = (lt1 R x, chief R (gow R x 0), chief R (gow R x 1)) := by rw [List.getD_eq_getElem?_getD, e2]; rfl
      have ex := List.getElem?_eq_getElem hx
      have g0 : R[x].2.1 = gow R x 0 := by rw [gow_at ex, if_pos rfl]
      have g1 : R[x].2.2 = gow R x 1 := by rw [gow_at ex, if_neg (by decide)]
      have gl : R[x].1 = lt1 R x := (lt1_at ex).symm
      show EE _ _ _ BA (.tuple [.int (x : Int), ndD ((TB R).getD x (.none, 0, 0))])
      rw [e3]
      have dRA := Dt.le lb dR9
      have dcA := Dt.le lb dc
      refine ee_tup (ea_cons (ee_var (i := 4) rfl (.int _)) (ea_cons (ee_tup (ea_cons (EE.cast (ee_ix ix_tup (rr_ixT (d := R[x].1) at0) (ee_ix ix_tup (rr_ixT (at_nd hx)) (ee_var (i := 1) rfl dRA) (ee_var (i := 4) rfl (.int _))) ee_int) gl)
        (ea_cons (ee_ix ix_list (rr_ixL (at_id (cAt (gow_lt hR hx)))) (ee_var (i := 8) rfl dcA) (EE.cast (ee_ix ix_tup (rr_ixT (d := .int (R[x].2.1 : Int)) (atI_nat (j := 1) rfl)) (ee_ix ix_tup (rr_ixT (at_nd hx)) (ee_var (i := 1) rfl dRA) (ee_var (i := 4) rfl (.int _))) ee_int) (by rw [g0])))
        (ea_cons (ee_ix ix_list (rr_ixL (at_id (cAt (gow_lt hR hx)))) (ee_var (i := 8) rfl dcA) (EE.cast (ee_ix ix_tup (rr_ixT (d := .int (R[x].2.2 : Int)) (atI_nat (j := 2) rfl)) (ee_ix ix_tup (rr_ixT (at_nd hx)) (ee_var (i := 1) rfl dRA) (ee_var (i := 4) rfl (.int _))) ee_int) (by rw [g1]))) ea_nil))) (by show 3 ≤ sizeLine; decide)) ea_nil)) (by show 2 ≤ sizeLine; decide)
    obtain ⟨aL, xs, rfl, sL, dx⟩ : ∃ aL xs, vL = V.ref aL ∧ SqL K BA aL xs ∧ Ds K BA xs (nums 0 ((TB R).map ndD)) := by
      cases dL with
      | lst s t h => exact ⟨_, _, rfl, s, h⟩
    obtain ⟨ps, vs, rfl, pp, dvs2⟩ := pairs_dict _ 0 xs dx
    refine ⟨aL, ps, kvR 0 vs, rfl, sqL_le uA.s sL, sqT_leP uA.s pp, fun lt hlt => ?_⟩
    have em : mergeK [] (kvR 0 vs) = kvR 0 vs := kvR_merge vs []
    rw [em]
    have uB := (u9'.trans uA).new (o := .dK (kvR 0 vs)) hlt (fun _ z => by cases z)
    have lBA : Le BA (upd BA lt (.dK (kvR 0 vs))) := Le.new (uA.s.there lt hlt)
    have hTl : (TB R).length = R.length := TB_len
    show WB _ _ _ [some v1, some vr, some (.int (R.length : Int)), some (.ref la), a4, a5, some (.int ((kn : Int) - 1)), a7, some vc, some (.ref lt), none] (upd HA lt (.dK (kvR 0 vs)))
    refine wb_one (ws_ret (B := upd BA lt (.dK (kvR 0 vs))) (d := .tuple [.str "wood", sc, .tuple (walkL (TB R) (chief R 0))]) uB.s (ee_numD (i := 9) Fn hr (by decide) (t8.le ((u9.b.trans uA.b).trans lBA)) rfl upd_same (fun k h => ?_) (TB_ok hR) (by rw [hTl]; exact chief_lt h0) (by omega)
      (ee_ix ix_tup (rr_ixT (d := sc) (atI_nat (j := 1) rfl)) (ee_var (i := 0) rfl (Dt.le ((u9.b.trans uA.b).trans lBA) h18)) ee_int)
      (ee_ix ix_list (rr_ixL (at_id (cAt h0))) (ee_var (i := 8) rfl (Dt.le (uA.b.trans lBA) dc)) ee_int)) fun v B' H' u dv => q v B' H' (uB.trans u) ?_)
    · have h' : k < R.length := by omega
      obtain ⟨v, e1, e2⟩ := dvs2.get (i := k) (d := ndD (TB R)[k]) (by rw [List.getElem?_map, List.getElem?_eq_getElem h]; rfl)
      refine ⟨v, ?_, Dt.le lBA e2⟩
      have := kvR_val 0 vs k
      rw [Nat.zero_add] at this
      rw [this, e1]
    · show Dt K B' v (.tuple [.str "wood", sc, .tuple (canL ((R.map ndD).map ndOf) 0)])
      rw [ndOf_map]
      exact dv
end
end K0


set_option Elab.async false
set_option linter.all false
set_option maxRecDepth 100000
set_option maxHeartbeats 4000000
/-! V4: _law_twin. -/
namespace Tk
open PySem PySem.Spec PyProof.Rows L2 GxR Gx
variable [LamTab]
theorem UpX.mut {D : List Addr} {B H B2 H2 : Hp} {p : Addr} {o : HO} (u : UpX D B H B2 H2) (h : H p = none) (b : B2 p = none) : UpX D B H B2 (upd H2 p o) := ⟨u.h.mut h, u.b, u.s.mut b, u.n⟩
theorem upx_none {D : List Addr} {B H B2 H2 : Hp} {a : Addr} {o : HO} (u : UpX D B H B2 H2) (hB : B a = none) (hH : H a = some o) (ho : ∀ ps, o ≠ .tbl ps) : B2 a = none := by
  cases q : B2 a with
  | none => rfl
  | some x =>
    rcases u.n a (by rw [q]; simp) with y | y | ⟨⟨ps, y⟩, _⟩
    · exact absurd hB y
    · rw [hH] at y; cases y
    · rw [hH] at y; exact absurd (Option.some.inj y) (ho ps)
section
variable {X : Cx} {D : List Addr} {J : Nat → Hp → Prop} {σ : L2.St} {B : Hp}
/-- l.index((a, b)), b drawn -/
theorem ej_index {o a b : Expr} {ps : List K0.Pr} {x n k : Nat} {p1 p2 p3 : Pos} (C : Cells D J) (hu : X.A.units + 65 < cLine) (hl : ps.length ≤ 1000) (ho : EE X o σ B (.list (ps.map K0.pairD))) (ha : EE X a σ B (.int (x : Int))) (hb : ∀ B', Le B B' → EJ X D J b σ B' n (fun r => ∃ c : Nat, r = .int (c : Int) ∧ (x, c) ∈ ps))
    (hbase : attributeBase o "index" X.env (eval o X.env) = eval o X.env := by rfl) (hfew : ((backTo p3 (starEach [.Tuple [a, b] k p2] X.env)).all (fun x => !x.1) && (backToKw p3 (keywordEach [] X.env)).all (fun x => x.1.isSome) && decide (([.Tuple [a, b] k p2] : List Expr).length + ([] : List Keyword).length + (if ([] : List Keyword).isEmpty then 0 else 1) < 30)) = true := by rfl)
    (hline : (p1.endLine == p3.line) = true := by rfl) (hs : starEach [.Tuple [a, b] k p2] X.env = (false, eval (.Tuple [a, b] k p2) X.env) :: starEach [] X.env := by rfl) (he1 : starEach [a, b] X.env = (false, eval a X.env) :: starEach [b] X.env := by rfl) (he2 : starEach [b] X.env = (false, eval b X.env) :: starEach [] X.env := by rfl) :
    EJ X D J (.Call (.Attribute o "index" p1) [.Tuple [a, b] k p2] [] p3) σ B n (fun r => ∃ j c : Nat, r = .int (j : Int) ∧ ps[j]? = some (x, c)) := fun m H1 l ap j Q q => by
  refine ⟨_, pe_bm PySem.F.plainAttrs_list PySem.F.slot_list_index PySem.F.type_list_index (mt_indexD hu) pe_w (pa_cons (pe_tup (pa_cons pe_w (pa_cons pe_w pa_nil he2) he1)) pa_nil hs) hbase hfew hline hs, ?_⟩
  refine ho H1 l _ fun vo B2 H2 u2 dO => ?_
  have j2 := C.le _ _ _ j u2.h
  cases hdo : dO with
  | lst s t h0 =>
    rename_i ao xs
    refine ⟨.inl ⟨rfl, _, sqL_le u2.s s⟩, ?_⟩
    refine ha.mono u2.b H2 u2.s _ fun va B3 H3 u3 da => ?_
    cases da
    have j3 := C.le _ _ _ j2 u3.h
    have ux : UpX D B H1 B3 H3 := .of (u2.trans u3)
    refine hb B3 (u2.b.trans u3.b) m H3 u3.s (ux.apt C j ap) j3 _ fun vb d B4 H4 u4 j4 db re => ?_
    obtain ⟨c, rfl, hc⟩ := re
    cases db
    refine ⟨by show 2 ≤ sizeLine; decide, fun p hp => ?_⟩
    have ux2 := ux.trans C j3 u4
    have u5 := ux2.new (o := .tup [.int (x : Int), .int (c : Int)]) hp (fun _ z => by cases z)
    have l5 : Le B4 (upd B4 p (.tup [.int (x : Int), .int (c : Int)])) := Le.new (u4.s.there p hp)
    have dk : Dt X.K (upd B4 p (.tup [.int (x : Int), .int (c : Int)])) (.ref p) (K0.pairD (x, c)) := K0.pr_tup (p := (x, c)) upd_same
    have sh := K0.pairs_shaped (ps := ps) (by omega)
    obtain ⟨jx, hj1, hj2, hj3⟩ : ∃ jx, jx < ps.length ∧ ps[jx]? = some (x, c) ∧ ∀ m, m < jx → ps[m]? ≠ some (x, c) := by
      have h1 := List.idxOf_lt_length_of_mem hc
      refine ⟨ps.idxOf (x, c), h1, by rw [List.getElem?_eq_getElem h1, List.getElem_idxOf], fun m hm e => ?_⟩
      have hl := (List.getElem?_eq_some_iff.mp e)
      obtain ⟨hl1, hl2⟩ := hl
      have := List.not_of_lt_findIdx (p := (· == (x, c))) (xs := ps) (i := m) hm
      rw [hl2] at this
      simp at this
    refine ⟨ao, .ref p, K0.pairD (x, c), ps.map K0.pairD, jx, K0.pairD (x, c), rfl, rfl, (Dt.le ((u3.b.trans u4.b).trans (l5.trans u5.s)) dO).toDp sh.1, (Dt.le u5.s dk).toDp (K0.pairD_ok (x, c)).2.1, sh.2, rfl, by rw [List.getElem?_map, hj2]; rfl, by rw [K0.eqv_pair]; simp, fun m z hm hz => ?_, q _ _ _ _ u5 (C.le _ _ _ j4 (Le.new hp)) (.int _) ⟨jx, c, rfl, hj2⟩⟩
    rw [List.getElem?_map] at hz
    cases hpm : ps[m]? with
    | none => rw [hpm] at hz; cases hz
    | some pr =>
      rw [hpm] at hz
      cases Option.some.inj hz
      rw [K0.eqv_pair]
      exact decide_eq_false fun z => hj3 m hm (by rw [hpm, z])
end
end Tk


set_option Elab.async false
set_option linter.all false
set_option maxRecDepth 100000
set_option maxHeartbeats 4000000
/-! V5: _law_twin. -/
namespace K0
open PySem PySem.Spec PyProof.Rows L2 GxR Tk
variable [LamTab]
abbrev sTw : Stmt := t__law_twin
def NTw : List Str := ["draw", "wood", "many", "k", "copies", "keys", "copy", "rows", "letter", "left", "right", "key"]
theorem scTw : FnScope NTw ["draw", "wood"] (defScope sTw) := ⟨rfl, rfl, rfl, by decide +kernel, rfl, by decide +kernel, by decide +kernel⟩
theorem ndTw : List.Nodup NTw := by decide +kernel
/-- rows that copy rows -/
structure Twn (R S : List Nd) (f : Nat → Nat) : Prop where
  z : f 0 = 0
  at_ : ∀ i, i < S.length → f i < R.length ∧ ∃ j1 j2, S[i]? = some (lt1 R (f i), j1, j2) ∧ j1 < S.length ∧ j2 < S.length ∧ f j1 = gow R (f i) 0 ∧ f j2 = gow R (f i) 1
theorem Twn.ok {R S : List Nd} {f : Nat → Nat} (h : Twn R S f) : rowsOk S := fun r hr => by
  obtain ⟨i, hi, e⟩ := List.mem_iff_getElem.mp hr
  obtain ⟨_, j1, j2, e2, a, b, _⟩ := h.at_ i hi
  rw [List.getElem?_eq_getElem hi, e] at e2
  rw [Option.some.inj e2]
  exact ⟨a, b⟩
theorem Twn.lt {R S : List Nd} {f : Nat → Nat} (h : Twn R S f) (ok : ltOk R) : ltOk S := fun r hr => by
  obtain ⟨i, hi, e⟩ := List.mem_iff_getElem.mp hr
  obtain ⟨hf, j1, j2, e2, _⟩ := h.at_ i hi
  rw [List.getElem?_eq_getElem hi, e] at e2
  rw [Option.some.inj e2]
  exact lt_of ok hf
theorem Twn.bs {R S : List Nd} {f : Nat → Nat} (h : Twn R S f) {i : Nat} (hi : i < S.length) : Bs S i R (f i) := fun ws => by
  induction ws generalizing i with
  | nil =>
    obtain ⟨_, j1, j2, e2, _⟩ := h.at_ i hi
    show lt1 S i = lt1 R (f i)
    rw [lt1_at e2]
  | cons w ws ih =>
    obtain ⟨_, j1, j2, e2, a, b, g0, g1⟩ := h.at_ i hi
    show bh S (gow S i w) ws = bh R (gow R (f i) w) ws
    rw [gow_at e2]
    by_cases z : w = 0
    · subst z
      rw [if_pos rfl, ← g0]
      exact ih a
    · rw [if_neg z, gow_one z, ← g1]
      exact ih b
def twP (ds : List PyData) : Prop := ∃ a sc R, ds = [.tuple [a, sc, .tuple (R.map ndD)]] ∧ rowsOk R ∧ 0 < R.length ∧ R.length ≤ 6
def twR (ds : List PyData) (r : PyData) : Prop := ∃ a sc R S f, ds = [.tuple [a, sc, .tuple (R.map ndD)]] ∧ r = .tuple [.str "wood", sc, .tuple (S.map ndD)] ∧ 0 < S.length ∧ S.length ≤ 13 ∧ Twn R S f
/-- the keys of the first i nodes -/
def KK (C : List Nat) : Nat → List Pr
  | 0 => []
  | i + 1 => KK C i ++ (List.range (gL C i)).map fun y => (i, y)
theorem KK_mem {C : List Nat} {p : Pr} : ∀ {i : Nat}, p ∈ KK C i ↔ p.1 < i ∧ p.2 < gL C p.1
  | 0 => by simp [KK]
  | i + 1 => by
    show p ∈ KK C i ++ _ ↔ _
    rw [List.mem_append, KK_mem, List.mem_map]
    constructor
    · rintro (⟨a, b⟩ | ⟨y, hy, rfl⟩)
      · exact ⟨by omega, b⟩
      · exact ⟨Nat.lt_succ_self _, List.mem_range.mp hy⟩
    · rintro ⟨a, b⟩
      by_cases z : p.1 = i
      · refine .inr ⟨p.2, List.mem_range.mpr (by rw [← z]; exact b), by rw [← z]⟩
      · exact .inl ⟨by omega, b⟩
theorem KK_len {C : List Nat} (h : ∀ x, gL C x ≤ 2) : ∀ i : Nat, (KK C i).length ≤ 2 * i
  | 0 => by simp [KK]
  | i + 1 => by
    show (KK C i ++ _).length ≤ _
    rw [List.length_append, List.length_map, List.length_range]
    have := KK_len h i
    have := h i
    omega
def nz (p : Pr) : Bool := decide (p ≠ (0, 0))
def prOf : PyData → Pr
  | .tuple [.int a, .int b] => (a.toNat, b.toNat)
  | _ => (0, 0)
theorem prOf_pair (p : Pr) : prOf (pairD p) = p := rfl
theorem perm_pairs {ys : List PyData} {l : List Pr} (h : ys.Perm (l.map pairD)) : ∃ ps : List Pr, ys = ps.map pairD ∧ ps.Perm l := by
  refine ⟨ys.map prOf, ?_, ?_⟩
  · rw [List.map_map]
    refine (List.map_id ys).symm.trans (List.map_congr_left fun y hy => ?_)
    obtain ⟨p, _, rfl⟩ := List.mem_map.mp (h.mem_iff.mp hy)
    rfl
  · have := h.map prOf
    rw [List.map_map] at this
    exact this.trans (by rw [show (prOf ∘ pairD) = id from funext prOf_pair, List.map_id])
theorem idD_of {rs : List PyData} (h : ∀ r ∈ rs, r = .int 1 ∨ r = .int 2) : rs = idD (rs.map natD) := by
  unfold idD
  rw [List.map_map]
  refine (List.map_id rs).symm.trans (List.map_congr_left fun r hr => ?_)
  rcases h r hr with rfl | rfl <;> rfl
section
variable {P : Program} {w : World} {K : PySem.W.Frag} {mg : Str → Option Value} {base : Heap} {f : Addr} {fd : FuncData} {T : List Addr} {d lw lc : Addr}
theorem ok_tw (BL : Blt mg) (hTD : ∀ a ∈ [d, lw, lc], a ∉ T) (Ft : KnTake P w K mg base T d lw lc) (Fs : KnShuf P w K mg base T d lw lc) (F : L2.Fun K "_law_twin" "_law_twin" sTw f fd) :
    FnOk P w K mg base CX0 4 f fd ["draw", "wood"] (spJ K T [d, lw, lc] (DJ d lw lc) (.ref d) 1 130 twP twR) := by
  refine fn_draw hTD F scTw rfl fun cdv A outer s H vs B ds m Q E hr hcd t l ap j hd hl hp q => ?_
  obtain ⟨a, sc, R, rfl, hR, h0, hn⟩ := hp
  obtain ⟨v1, rfl, h1⟩ := ds1 (K := K) hd
  have hu := hu64 hr
  have hu' := hu65 hr
  refine wb_cons (ws_set (i := 2) (d := .int (R.length : Int)) l ((ee_len BL (ee_ix ix_tup (rr_ixT (d := .tuple (R.map ndD)) (atI_nat (j := 2) rfl)) (ee_var (i := 1) rfl h1) ee_int) rfl fun x z => by cases z).cast (by rw [List.length_map])) (fun v B1 H1 u1 dv => ?_) ndTw)
  cases dv
  have ux1 : UpX [d, lw, lc] B H B1 H1 := .of u1
  have j1 := cells_DJ.le _ _ _ j u1.h
  have ap1 := ux1.apt cells_DJ j ap
  have t1 := t.le u1.b
  show WB _ _ _ [some (.ref d), some v1, some (.int (R.length : Int)), none, none, none, none, none, none, none, none, none] H1
  refine wb_cons (ws_setLcJ (own := [("k", 3)]) (tjs := [3]) (pat := patN) (i := 4) (n1 := 0) (n2 := 1) (k := 6) (m := m + 124) (RI := (· = upto R.length)) (RE := fun _ r => r = .int 1 ∨ r = .int 2) u1.s ap1 (cells_DJ.less _ _ _ j1 (by omega)) cells_DJ off_DJ rfl ndTw (eij_pure cells_DJ (ei_range (n := (R.length : Int)) BL.range (ee_var (i := 2) rfl (.int _)) (by omega) (by omega))) (fun ds e => by rw [e, upto_len]; exact hn) (by decide)
    (blkOk_by (show blkC NTw (defScope sTw) _ [("k", 3)] = true by decide +kernel)) (fun s H C cl fp => eg_name ndTw) (fun ds _ d hd => ⟨[d], rfl, rfl⟩) (fun vs hv => ?_)
    (fun B' ds e es vs lb ri hd he hv s H C cl fp => ?_) (fun lC acc B2 H2 ds rs hA u2 j2 e1 e2 dv ri rr => ?_) (sw_true rfl rfl rfl (by decide +kernel)))
  · match vs, hv with
    | [a], _ => rfl
  · cases he
    obtain ⟨y, rfl, hy⟩ := ds1 (K := K) hv
    refine (ej_op (n1 := 0) (n2 := 1) (Ra := (· = .int 1)) (Rb := fun r => ∃ i : Int, r = .int i ∧ 0 ≤ i ∧ i < 2) (R3 := fun r => r = .int 1 ∨ r = .int 2) cells_DJ op_add (rj_of fun d1 d2 e1 e2 => ?_) (ej_pure cells_DJ ee_int rfl) (ej_take Ft hr (by decide) (t1.le lb) (i := 0) rfl ee_int (by decide) (by decide))).weak cells_DJ (fun _ h => h) (by omega)
    subst e1
    obtain ⟨i, rfl, i0, i1⟩ := e2
    refine ⟨.int (1 + i), rr_add, ?_⟩
    have : i = 0 ∨ i = 1 := by omega
    rcases this with rfl | rfl
    · exact .inl rfl
    · exact .inr rfl
  subst ri
  have hrs : ∀ r ∈ rs, r = .int 1 ∨ r = .int 2 := fun r hr => by
    obtain ⟨_, _, h⟩ := rr.mem hr
    exact h
  have eC := idD_of hrs
  have lC0 : (rs.map natD).length = R.length := by rw [List.length_map, ← rr.length, upto_len]
  have hC : ∀ x, x < R.length → 1 ≤ gL (rs.map natD) x ∧ gL (rs.map natD) x ≤ 2 := fun x hx => by
    have e := gL_at (L := rs.map natD) (x := x) (by rw [lC0]; exact hx)
    have hm := List.mem_of_getElem? e
    obtain ⟨r, hr, er⟩ := List.mem_map.mp hm
    rcases hrs r hr with rfl | rfl
    · rw [← er]; exact ⟨Nat.le_refl _, by decide⟩
    · rw [← er]; exact ⟨by decide, Nat.le_refl _⟩
  have hC2 : ∀ x, gL (rs.map natD) x ≤ 2 := fun x => by
    by_cases hx : x < R.length
    · exact (hC x hx).2
    · unfold gL
      rw [List.getD_eq_getElem?_getD, List.getElem?_eq_none (by omega)]
      decide
  rw [eC] at dv
  generalize rs.map natD = C at dv lC0 hC hC2
  have ux2 := ux1.trans cells_DJ j1 u2
  have dC : Dt K B2 (.ref lC) (.list (idD C)) := .new_lst e1 dv
  show WB _ _ _ [some (.ref d), some v1, some (.int (R.length : Int)), none, some (.ref lC), none, none, none, none, none, none, none] H2
  refine wb_cons (ws_set (i := 5) (d := .list []) u2.s (ee_lst ea_nil (by decide)) (fun v2 B3 H3 u3 d3 => ?_) ndTw)
  have dC := Dt.le u3.b dC
  have ux3 := ux2.trans cells_DJ j2 (.of u3)
  have j3 := cells_DJ.le _ _ _ j2 u3.h
  refine wb_cons (ws_for (B := B3) (ds := upto R.length) (tjs := [3]) (pat := patN) u3.s (ei_range (n := (R.length : Int)) BL.range (ee_var (i := 2) rfl (.int _)) (by omega) (by omega)) (eg_name ndTw) (fun d hd => ⟨[d], rfl⟩) PassesOwn.never rfl
    (fun i σ' B' H' => ∃ a3 vk, σ' = [some (.ref d), some v1, some (.int (R.length : Int)), a3, some (.ref lC), some vk, none, none, none, none, none, none] ∧ Dt K B' vk (.list ((KK C i).map pairD)) ∧ Up B3 H3 B' H')
    (fun B' H' u => ⟨none, v2, rfl, Dt.le u.b d3, u⟩) (fun i d es us σ' B4 H4 B5 H5 hi hd' lb hI u5 hpat dus N hN => ?_) fun σ' B4 H4 lb ls hI => ?_)
  · obtain ⟨a3, vk, rfl, dk, u4⟩ := hI
    rw [upto_len] at hi
    cases hpat
    obtain ⟨y, rfl, hy⟩ := ds1 (K := K) dus
    cases upto_at hi hd'
    cases hy
    have dk := Dt.le u5.b dk
    have u4 := u4.trans u5
    have dC5 := Dt.le u4.b dC
    have hc2 := hC2 i
    have hkl := KK_len hC2 i
    have e9 : (upto (gL C i)).map (fun r => pairD (i, natD r)) = ((List.range (gL C i)).map fun y => (i, y)).map pairD := by
      unfold upto
      rw [List.map_map, List.map_map]
      rfl
    refine wb_one (ws_set (i := 5) (d := .list ((KK C (i + 1)).map pairD)) u4.s (EE.cast (ee_op op_catL (rr_catL (ys := ((upto (gL C i)).filter fun _ => true).map fun r => pairD (i, natD r)) ?_) (ee_var (i := 5) rfl dk) (ee_lc (own := [("copy", 6)]) (tjs := [6]) (pat := patN) (fun _ => true) (fun r => pairD (i, natD r)) rfl ndTw
        (ei_range (n := ((gL C i : Nat) : Int)) BL.range (ee_ix ix_list (rr_ixL (at_id (gL_at (by rw [lC0]; exact hi)))) (ee_var (i := 4) rfl dC5) (ee_var (i := 3) rfl (.int _))) (by omega) (by omega)) (blkOk_by (show blkC NTw (defScope sTw) _ [("copy", 6)] = true by decide +kernel))
        (fun s H C cl fp => eg_name ndTw) (fun d hd => ⟨[d], rfl, rfl⟩) (fun vs hv => ?_) (fun B' d es vs lb hd he hv s H C cl fp => ets_nil) (fun B' d es vs lb hd hb he hv s H C cl fp => ?_) ?_)) ?_) (fun v6 B6 H6 u6 d6 => hN _ B6 H6 u6.b u6.s ⟨some (.int (i : Int)), v6, rfl, d6, u4.trans u6⟩) ndTw)
    · rw [List.length_map, List.length_map]
      have := List.length_filter_le (fun _ => true) (upto (gL C i))
      rw [upto_len] at this
      exact Nat.le_trans (show _ ≤ 100 by omega) (by decide)
    · match vs, hv with
      | [a], _ => rfl
    · cases he
      obtain ⟨y, rfl, hy⟩ := ds1 (K := K) hv
      obtain ⟨x, hx, rfl⟩ := upto_mem hd
      cases hy
      exact ee_tup (ea_cons (ee_var (i := 3) rfl (.int _)) (ea_cons (ee_var (i := 6) rfl (.int _)) ea_nil)) (by show 2 ≤ sizeLine; decide)
    · show (upto (gL C i)).length < sizeLine
      rw [upto_len]
      exact Nat.lt_of_le_of_lt hc2 (by decide)
    · rw [List.filter_eq_self.mpr fun _ _ => rfl, e9, ← List.map_append]
      rfl
  obtain ⟨a3, vk, rfl, dk, u4⟩ := hI
  rw [upto_len] at dk
  have ux4 := ux3.trans cells_DJ j3 (.of u4)
  have j4 := cells_DJ.le _ _ _ j3 u4.h
  have ap4 := ux4.apt cells_DJ j ap
  have t4 := t.le ux4.b
  have hkl := KK_len hC2 R.length
  have easy : ∀ x ∈ ((KK C R.length).filter nz).map pairD, easyD x := fun x hx => by
    obtain ⟨p, _, rfl⟩ := List.mem_map.mp hx
    exact ⟨(pairD_ok p).2.1, (pairD_ok p).2.2, (pairD_ok p).1⟩
  have hfl : ((KK C R.length).filter nz).length ≤ 12 := Nat.le_trans (List.length_filter_le _ _) (by omega)
  have ef : (((KK C R.length).map pairD).filter fun d => !PyData.eqv d (pairD (0, 0))).map id = ((KK C R.length).filter nz).map pairD := by
    rw [List.map_id, List.filter_map]
    congr 1
    refine List.filter_congr fun p _ => ?_
    show (!PyData.eqv (pairD p) (pairD (0, 0))) = decide (p ≠ (0, 0))
    rw [eqv_pair, decide_not]
  refine wb_cons (ws_setJ (i := 5) (m := m + 34) (n := 90) (R := fun r => ∃ ps : List Pr, r = .list (((0, 0) :: ps).map pairD) ∧ ps.Perm ((KK C R.length).filter nz)) u4.s ap4 (cells_DJ.less _ _ _ j4 (by omega))
    ((ej_op (n1 := 0) (n2 := 90) (Ra := (· = .list [pairD (0, 0)])) (Rb := fun r => ∃ ps : List Pr, r = .list (ps.map pairD) ∧ ps.Perm ((KK C R.length).filter nz)) (R3 := fun r => ∃ ps : List Pr, r = .list (((0, 0) :: ps).map pairD) ∧ ps.Perm ((KK C R.length).filter nz)) cells_DJ op_catL (rj_of fun d1 d2 e1 e2 => ?_)
      (ej_pure cells_DJ (ee_lst (ea_cons (ee_tup (ea_cons ee_int (ea_cons ee_int ea_nil)) (by show 2 ≤ sizeLine; decide)) ea_nil) (by show 1 ≤ sizeLine; decide)) rfl)
      ((ej_call1 (d1 := .list (((KK C R.length).filter nz).map pairD)) (i := 0) cells_DJ Fs hr (Nat.le_refl _) t4 rfl (EE.cast (ee_lc (own := [("key", 11)]) (tjs := [11]) (pat := patN) (fun d => !PyData.eqv d (pairD (0, 0))) id rfl ndTw (ei_lst (ee_var (i := 5) rfl dk)) (blkOk_by (show blkC NTw (defScope sTw) _ [("key", 11)] = true by decide +kernel))
        (fun s H C cl fp => eg_name ndTw) (fun d hd => ⟨[d], rfl, rfl⟩) (fun vs hv => ?_) (fun B' d es vs lb hd he hv s H C cl fp => ?_) (fun B' d es vs lb hd hb he hv s H C cl fp => ?_) ?_) (congrArg PyData.list ef)) ⟨_, rfl, by rw [List.length_map]; omega, easy⟩).weak (n1 := 90) cells_DJ (fun e h => ?_) (Nat.le_refl _))).weak cells_DJ (fun _ h => h) (by omega)) (fun v e B5 H5 u5 j5 dv re => ?_) ndTw)
  · subst e1
    obtain ⟨ps, rfl, pm⟩ := e2
    have := pm.length_eq
    exact ⟨.list ([pairD (0, 0)] ++ ps.map pairD), rr_catL (by rw [List.length_map]; exact Nat.le_trans (show 1 + ps.length ≤ 100 by omega) (by decide)), ps, rfl, pm⟩
  · match vs, hv with
    | [a], _ => rfl
  · cases he
    obtain ⟨y, rfl, hy⟩ := ds1 (K := K) hv
    obtain ⟨p, _, rfl⟩ := List.mem_map.mp hd
    exact ets_one (et_cmp (op_neD hu) (rr_neD (pairD_ok p).2.1 (pairD_ok (0, 0)).2.1 rfl rfl) (ee_var (i := 11) rfl hy) (ee_tup (ea_cons ee_int (ea_cons ee_int ea_nil)) (by show 2 ≤ sizeLine; decide)))
  · cases he
    obtain ⟨y, rfl, hy⟩ := ds1 (K := K) hv
    exact ee_var (i := 11) rfl hy
  · rw [List.length_map]
    exact Nat.lt_of_le_of_lt (show _ ≤ 100 by omega) (by decide)
  · obtain ⟨xs, ys, e2, rfl, pm⟩ := h
    cases e2
    obtain ⟨ps, rfl, pm2⟩ := perm_pairs pm
    exact ⟨ps, rfl, pm2⟩
  obtain ⟨ps, rfl, pm⟩ := re
  have lps := pm.length_eq
  have hKm : ∀ p : Pr, p ∈ ((0, 0) :: ps) ↔ p.1 < R.length ∧ p.2 < gL C p.1 := fun p => by
    rw [List.mem_cons, pm.mem_iff, List.mem_filter, KK_mem]
    constructor
    · rintro (rfl | ⟨h, _⟩)
      · exact ⟨h0, (hC 0 h0).1⟩
      · exact h
    · intro h
      by_cases z : p = (0, 0)
      · exact .inl z
      · exact .inr ⟨h, decide_eq_true z⟩
  have lK : ((0, 0) :: ps : List Pr).length ≤ 13 := by rw [List.length_cons]; omega
  have hK0 : ((0, 0) :: ps : List Pr)[0]? = some (0, 0) := rfl
  generalize ((0, 0) :: ps : List Pr) = KS at dv hKm lK hK0
  have ux5 := ux4.trans cells_DJ j4 u5
  have dC5 := Dt.le (u4.b.trans u5.b) dC
  have j5' : DJ d lw lc (m + 26) H5 := cells_DJ.less _ _ _ j5 (by omega)
  have ap5 := ux5.apt cells_DJ j ap
  show WB _ _ _ [some (.ref d), some v1, some (.int (R.length : Int)), a3, some (.ref lC), some v, none, none, none, none, none, none] H5
  refine wb_cons ⟨_, ps_set (i := 7) ndTw rfl (by first | exact Or.inl rfl | exact Or.inr rfl) (pe_lst pa_nil) rfl (by first | exact Or.inl rfl | exact Or.inr rfl), ?_⟩
  refine ⟨by decide, fun lr hlr => ?_⟩
  have e0 : (upd H5 lr (.lst [])) lr = some (.lst []) := upd_same
  have lrB : B5 lr = none := u5.s.there lr hlr
  have lrH : H lr = none := ux5.h.there lr hlr
  have lrD : lr ∉ [d, lw, lc] := fun z => by
    obtain ⟨o, e, _⟩ := (cells_DJ (d := d) (lw := lw) (lc := lc)).at_ _ H5 j5' lr z
    rw [hlr] at e
    cases e
  have ux6 := ux5.mut (o := .lst []) lrH lrB
  have j6 := cells_DJ.le _ _ _ j5' (Le.new (o := .lst []) hlr)
  show WB _ _ _ [some (.ref d), some v1, some (.int (R.length : Int)), a3, some (.ref lC), some v, none, some (.ref lr), none, none, none, none] (upd H5 lr (.lst []))
  generalize upd H5 lr (.lst []) = H6 at e0 ux6 j6 ⊢
  have lKS : ((KS.map pairD).length) = KS.length := List.length_map _
  refine wb_cons (ws_for (B := B5) (ds := KS.map pairD) (tjs := [3, 6]) (pat := patT 2) ux6.s (ei_lst (ee_var (i := 5) rfl dv)) (eg_tup rfl (st_cons (st_cons st_nil ndTw) ndTw)) (fun d hd => by obtain ⟨p, _, rfl⟩ := List.mem_map.mp hd; exact ⟨_, rfl⟩) PassesOwn.never rfl
    (fun i σ' B' H' => ∃ a3 a6 a8 a9 a10 avs S, σ' = [some (.ref d), some v1, some (.int (R.length : Int)), a3, some (.ref lC), some v, a6, some (.ref lr), a8, a9, a10, none] ∧ Le B5 B' ∧ B' lr = none ∧ H' lr = some (.lst avs) ∧ Ds K B' avs ((S : List Nd).map ndD) ∧ S.length = i ∧ (∀ x kc, x < i → KS[x]? = some kc → ∃ j1 j2 c1 c2, S[x]? = some (lt1 R kc.1, j1, j2) ∧ KS[j1]? = some (gow R kc.1 0, c1) ∧ KS[j2]? = some (gow R kc.1 1, c2)) ∧ UpX [d, lw, lc] B H B' H' ∧ DJ d lw lc (m + 2 * (13 - i)) H')
    (fun B' H' u => ⟨a3, none, none, none, none, [], [], rfl, u.b, up_none u lrB e0 (fun _ z => by cases z), u.h.keep lr _ e0 (fun _ z => by cases z), .nil, rfl, (fun x kc hx => absurd hx (Nat.not_lt_zero _)), ux6.trans cells_DJ j6 (.of u), cells_DJ.le _ _ _ j6 u.h⟩) (fun i e es us σ' B7 H7 B8 H8 hi hd' lb hI u8 hpat dus N hN => ?_) fun σ' B7 H7 lb ls hI => ?_)
  · obtain ⟨a3, a6, a8, a9, a10, avs, S, rfl, lB, b7, e7, dS, lS, fS, ux7, j7⟩ := hI
    rw [lKS] at hi
    have ek := List.getElem?_eq_getElem hi
    rw [List.getElem?_map, ek] at hd'
    cases Option.some.inj hd'
    obtain ⟨k1, k2⟩ := (hKm KS[i]).mp (List.getElem_mem hi)
    generalize KS[i] = kc at ek hpat k1 k2
    cases hpat
    obtain ⟨y1, y2, rfl, dy1, dy2⟩ := ds2 (K := K) dus
    cases dy1
    cases dy2
    have b8 := up_none u8 b7 e7 (fun _ z => by cases z)
    have e8 := u8.h.keep lr _ e7 (fun _ z => by cases z)
    have dS := Ds.le u8.b dS
    have ux8 := ux7.trans cells_DJ j7 (.of u8)
    have j8 := cells_DJ.le _ _ _ j7 u8.h
    have lB8 := lB.trans u8.b
    have eR := List.getElem?_eq_getElem k1
    have g0 : R[kc.1].2.1 = gow R kc.1 0 := by rw [gow_at eR, if_pos rfl]
    have g1 : R[kc.1].2.2 = gow R kc.1 1 := by rw [gow_at eR, if_neg (by decide)]
    have gl : R[kc.1].1 = lt1 R kc.1 := (lt1_at eR).symm
    have w0 := gow_lt (w := 0) hR k1
    have w1 := gow_lt (w := 1) hR k1
    show WB _ _ _ [some (.ref d), some v1, some (.int (R.length : Int)), some (.int (kc.1 : Int)), some (.ref lC), some v, some (.int (kc.2 : Int)), some (.ref lr), a8, a9, a10, none] H8
    refine wb_cons (ws_tgt (B := B8) (d := ndD R[kc.1]) (es := [lt1 R kc.1, .int ((gow R kc.1 0 : Nat) : Int), .int ((gow R kc.1 1 : Nat) : Int)]) (tjs := [8, 9, 10]) (pat := patT 3) ux8.s (ee_ix ix_tup (rr_ixT (at_nd k1)) (ee_ix ix_tup (rr_ixT (d := .tuple (R.map ndD)) (atI_nat (j := 2) rfl)) (ee_var (i := 1) rfl (Dt.le ux8.b h1)) ee_int) (ee_var (i := 3) rfl (.int _))) (eg_tup rfl (st_cons (st_cons (st_cons st_nil ndTw) ndTw) ndTw)) (by rw [← g0, ← g1, ← gl]; rfl) fun vs B9 H9 u9 dvs => ?_)
    obtain ⟨z1, z2, z3, rfl, dz1, dz2, dz3⟩ := ds3 dvs
    cases dz2
    cases dz3
    have b9 := up_none u9 b8 e8 (fun _ z => by cases z)
    have e9 := u9.h.keep lr _ e8 (fun _ z => by cases z)
    have dS := Ds.le u9.b dS
    have ux9 := ux8.trans cells_DJ j8 (.of u9)
    have j9 := cells_DJ.le _ _ _ j8 u9.h
    have lB9 := lB8.trans u9.b
    have ap9 := ux9.apt cells_DJ j ap
    have dv9 := Dt.le lB9 dv
    have dC9 := Dt.le lB9 dC5
    have t9 := t.le ux9.b
    have hC0 := hC _ w0
    have hC1 := hC _ w1
    show WB _ _ _ [some (.ref d), some v1, some (.int (R.length : Int)), some (.int (kc.1 : Int)), some (.ref lC), some v, some (.int (kc.2 : Int)), some (.ref lr), some z1, some (.int ((gow R kc.1 0 : Nat) : Int)), some (.int ((gow R kc.1 1 : Nat) : Int)), none] H9
    have j9' : DJ d lw lc ((m + 2 * (13 - (i + 1)) + 1) + 1) H9 := cells_DJ.less _ _ _ j9 (by omega)
    refine wb_one ⟨_, ps_expr (pe_bm PySem.F.plainAttrs_list PySem.F.slot_list_append PySem.F.type_list_append mt_append (pe_var (i := 7) rfl (by first | exact Or.inl rfl | exact Or.inr (Or.inl rfl) | exact Or.inr (Or.inr rfl))) (pa_cons (pe_tup (pa_cons (pe_var (i := 8) rfl (by first | exact Or.inl rfl | exact Or.inr (Or.inl rfl) | exact Or.inr (Or.inr rfl))) (pa_cons pe_w (pa_cons pe_w pa_nil)))) pa_nil)), ?_⟩
    refine ⟨_, rfl, .inl ⟨rfl, _, SqL.of e9⟩, _, rfl, ?_⟩
    refine (ej_index (ps := KS) (x := gow R kc.1 0) cells_DJ hu' (by omega) (ee_var (i := 5) rfl dv9) (ee_var (i := 9) rfl (.int _)) (fun B' l' => (ej_take Ft hr (by decide) (t9.le l') (i := 0) rfl (ee_ix ix_list (rr_ixL (at_id (gL_at (by rw [lC0]; exact w0)))) (ee_var (i := 4) rfl (Dt.le l' dC9)) (ee_var (i := 9) rfl (.int _))) (by omega) (by omega)).weak cells_DJ (fun r hr' => by
      obtain ⟨c, rfl, c0, c1⟩ := hr'
      exact ⟨c.toNat, by rw [Int.toNat_of_nonneg c0], (hKm _).mpr ⟨w0, by show c.toNat < gL C (gow R kc.1 0); omega⟩⟩) (Nat.le_refl _))) _ H9 ux9.s ap9 j9' _ fun x1 r1 BA HA uA jA dx1 q1 => ?_
    obtain ⟨i1, c1, rfl, hk1⟩ := q1
    cases dx1
    have bA := upx_none uA b9 e9 (fun _ z => by cases z)
    have eA := uA.h.keep lr _ lrD e9 (fun _ z => by cases z)
    have uxA := ux9.trans cells_DJ j9 uA
    have apA := uxA.apt cells_DJ j ap
    refine (ej_index (ps := KS) (x := gow R kc.1 1) cells_DJ hu' (by omega) (ee_var (i := 5) rfl (Dt.le uA.b dv9)) (ee_var (i := 10) rfl (.int _)) (fun B' l' => (ej_take Ft hr (by decide) ((t9.le uA.b).le l') (i := 0) rfl (ee_ix ix_list (rr_ixL (at_id (gL_at (by rw [lC0]; exact w1)))) (ee_var (i := 4) rfl (Dt.le (uA.b.trans l') dC9)) (ee_var (i := 10) rfl (.int _))) (by omega) (by omega)).weak cells_DJ (fun r hr' => by
      obtain ⟨c, rfl, c0, c1⟩ := hr'
      exact ⟨c.toNat, by rw [Int.toNat_of_nonneg c0], (hKm _).mpr ⟨w1, by show c.toNat < gL C (gow R kc.1 1); omega⟩⟩) (Nat.le_refl _))) _ HA uA.s apA jA _ fun x2 r2 BC HC uC jC dx2 q2 => ?_
    obtain ⟨i2, c2, rfl, hk2⟩ := q2
    cases dx2
    have bC := upx_none uC bA eA (fun _ z => by cases z)
    have eC2 := uC.h.keep lr _ lrD eA (fun _ z => by cases z)
    have uxC := uxA.trans cells_DJ jA uC
    refine ⟨by show 3 ≤ sizeLine; decide, fun p hp => ?_⟩
    have nf : lr ≠ p := fun z => by rw [z, hp] at eC2; cases eC2
    have gC : (upd HC p (.tup [z1, .int (i1 : Int), .int (i2 : Int)])) lr = some (.lst avs) := by rw [upd_ne nf]; exact eC2
    have hal := dS.length
    rw [List.length_map] at hal
    refine ⟨lr, avs, .ref p, rfl, rfl, gC, Nat.lt_of_le_of_lt (show avs.length ≤ 1000 by omega) (by decide), ?_⟩
    have uxD := uxC.new (o := .tup [z1, .int (i1 : Int), .int (i2 : Int)]) hp (fun _ z => by cases z)
    have bD : (upd BC p (.tup [z1, .int (i1 : Int), .int (i2 : Int)])) lr = none := by rw [upd_ne nf]; exact bC
    have uxE := uxD.mut (o := .lst (avs ++ [.ref p])) lrH bD
    have lCD : Le BC (upd BC p (.tup [z1, .int (i1 : Int), .int (i2 : Int)])) := Le.new (uC.s.there p hp)
    have jE := off_DJ _ _ lr (.lst (avs ++ [.ref p])) (cells_DJ.le _ _ _ jC (Le.new (o := .tup [z1, .int (i1 : Int), .int (i2 : Int)]) hp)) lrD
    have lAll := (uA.b.trans uC.b).trans lCD
    refine hN _ _ _ ((u9.b.trans lAll)) uxE.s ⟨some (.int (kc.1 : Int)), some (.int (kc.2 : Int)), some z1, some (.int ((gow R kc.1 0 : Nat) : Int)), some (.int ((gow R kc.1 1 : Nat) : Int)), avs ++ [.ref p], S ++ [(lt1 R kc.1, i1, i2)], rfl, lB9.trans lAll, bD, upd_same, ?_, by rw [List.length_append, List.length_singleton, lS], fun x kc' hx hkc => ?_, uxE, jE⟩
    · rw [List.map_append]
      exact (Ds.le lAll dS).snoc (.new_tup upd_same (.cons (Dt.le lAll dz1) (.cons (.int _) (.cons (.int _) .nil))))
    · by_cases z : x = i
      · subst z
        rw [ek] at hkc
        cases Option.some.inj hkc
        refine ⟨i1, i2, c1, c2, ?_, hk1, hk2⟩
        rw [List.getElem?_append_right (by omega), lS, Nat.sub_self]
        rfl
      · obtain ⟨j1, j2, c1, c2, s1, s2, s3⟩ := fS x kc' (by omega) hkc
        refine ⟨j1, j2, c1, c2, ?_, s2, s3⟩
        rw [List.getElem?_append_left (by omega)]
        exact s1
  · obtain ⟨a3, a6, a8, a9, a10, avs, S, rfl, lB, b7, e7, dS, lS, fS, ux7, j7⟩ := hI
    rw [lKS] at lS fS j7
    have ux8 : UpX [d, lw, lc] B H (upd B7 lr (.lst avs)) H7 := ⟨ux7.h, ux7.b.trans (Le.new b7), ux7.s.add e7 (fun _ z => by cases z), fun x hx => by
      by_cases z : x = lr
      · rw [z]; exact .inr (.inl lrH)
      · rw [upd_ne z] at hx; exact ux7.n x hx⟩
    have l8 : Le B7 (upd B7 lr (.lst avs)) := Le.new b7
    refine wb_one (ws_ret (B := upd B7 lr (.lst avs)) (d := .tuple [.str "wood", sc, .tuple (S.map ndD)]) ux8.s (ee_tup (ea_cons ee_str (ea_cons (ee_ix ix_tup (rr_ixT (d := sc) (atI_nat (j := 1) rfl)) (ee_var (i := 1) rfl (Dt.le ux8.b h1)) ee_int) (ea_cons (ee_tuple BL (ee_var (i := 7) rfl (.new_lst upd_same (Ds.le l8 dS)))) ea_nil))) (by show 3 ≤ sizeLine; decide)) fun v B3 H3 u3 d3 => ?_)
    have p0 : 0 < KS.length := (List.getElem?_eq_some_iff.mp hK0).1
    have fst : ∀ {i : Nat} {a c : Nat}, KS[i]? = some (a, c) → (KS.getD i (0, 0)).1 = a := fun h => by rw [List.getD_eq_getElem?_getD, h]; rfl
    refine q v _ B3 H3 (ux8.trans cells_DJ j7 (.of u3)) (cells_DJ.le _ _ _ (cells_DJ.less _ _ _ j7 (by omega)) u3.h) d3 ⟨a, sc, R, S, fun i => (KS.getD i (0, 0)).1, rfl, rfl, by omega, by omega, fst hK0, fun i hi => ?_⟩
    have hi2 : i < KS.length := by omega
    have ek := List.getElem?_eq_getElem hi2
    obtain ⟨j1, j2, c1, c2, s1, s2, s3⟩ := fS i _ hi2 ek
    have ef : (KS.getD i (0, 0)).1 = KS[i].1 := by rw [List.getD_eq_getElem?_getD, ek]; rfl
    have q1 := (List.getElem?_eq_some_iff.mp s2).1
    have q2 := (List.getElem?_eq_some_iff.mp s3).1
    show (KS.getD i (0, 0)).1 < R.length ∧ _
    rw [ef]
    exact ⟨((hKm _).mp (List.getElem_mem hi2)).1, j1, j2, s1, by omega, by omega, fst s2, fst s3⟩
end
end K0


set_option Elab.async false
set_option linter.all false
set_option maxRecDepth 100000
set_option maxHeartbeats 4000000
/-! Q6: _law_place. -/
namespace Tk
open PySem PySem.Spec PyProof.Rows L2 GxR Gx
variable [LamTab]
/-- range of what is drawn -/
theorem eij_range {X : Cx} {tg a : Expr} {σ : L2.St} {B : Hp} {D : List Addr} {J : Nat → Hp → Prop} {n : Nat} {b : Int} {p pos : Pos} (BL : X.mg "range" = none) (h : EJ X D J a σ B n (fun d => ∃ i : Int, d = .int i ∧ 0 ≤ i ∧ i < b)) (hb : b < 2 ^ 62) (hg : Gl X "range" := by rfl) (hs : starEach [a] X.env = [(false, eval a X.env)] := by rfl)
    (hs2 : starEach [a] X.env = (false, eval a X.env) :: starEach [] X.env := by rfl) : EIJ X D J tg (.Call (.Name "range" p) [a] [] pos) σ B n (fun ds => ∃ i : Int, ds = upto i.toNat ∧ 0 ≤ i ∧ i < b) := fun m H1 l ap j R q => ⟨_, pi_range1 hg BL (pa_cons pe_w pa_nil hs2) hs, h m H1 l ap j _ fun v d B2 H2 u jj dv r => by
  obtain ⟨k, rfl, k0, k1⟩ := r
  cases dv
  refine ⟨k, rfl, by omega, by omega, q _ B2 H2 (upto k.toNat) u jj (fun B' H' l1 l2 => ⟨fun i hi => ?_, ?_, fun i y H'' hi hy => ?_⟩) ⟨k, rfl, k0, k1⟩⟩
  · unfold upto at hi
    rw [List.length_map, List.length_range] at hi
    exact hi
  · unfold upto
    rw [List.length_map, List.length_range]
    exact Nat.le_refl _
  · obtain ⟨e1, h2⟩ := hy
    subst e1 h2
    refine ⟨B', _, Up.refl l2, ?_, .int _⟩
    unfold upto at hi ⊢
    rw [List.length_map, List.length_range] at hi
    rw [List.getElem?_map, List.getElem?_range hi, Int.zero_add]
    rfl⟩
end Tk
namespace K0
open PySem PySem.Spec PyProof.Rows L2 GxR Tk
variable [LamTab]
section
variable {P : Program} {w : World} {K : PySem.W.Frag} {mg : Str → Option Value} {base : Heap} {f : Addr} {fd : FuncData} {T : List Addr} {d lw lc : Addr}
theorem ok_lpl (BL : Blt mg) (hTD : ∀ a ∈ [d, lw, lc], a ∉ T) (Ft : KnTake P w K mg base T d lw lc) (F : L2.Fun K "_law_place" "_law_place" sLPl f fd) :
    FnOk P w K mg base CX0 3 f fd ["draw", "most"] (spJ K T [d, lw, lc] (DJ d lw lc) (.ref d) 1 42 plP plR) := by
  refine fn_draw hTD F scLPl rfl fun cdv A outer s H vs B ds m Q E hr hcd t l ap j hd hl hp q => ?_
  cases hp
  obtain ⟨v1, rfl, h1⟩ := ds1 (K := K) hd
  cases h1
  refine wb_one (ws_retJ (m := m) (n := 42) (R := plR [.int 9]) l ap j ?_ fun v e B3 H3 u3 j3 dv r => q v e B3 H3 u3 j3 dv r)
  refine (ej_t1 (R := fun d => ∃ ps, d = .list ps ∧ ps.length ≤ 40 ∧ ∀ p ∈ ps, p = .int 0 ∨ p = .int 1) cells_DJ c_tup BL.tuple boot_tuple' (rcj_of fun d ⟨ps, h1, h2⟩ => ⟨.tuple ps, by subst h1; exact rc_tup, ps, rfl, h2⟩) ?_)
  refine (ej_lc (own := [("k", 2)]) (tjs := [2]) (pat := patN) (n1 := 1) (n2 := 1) (k := 40) (RI := fun ds => ∃ i : Int, ds = upto i.toNat ∧ 0 ≤ i ∧ i < 10) (RE := fun _ r => r = .int 0 ∨ r = .int 1) cells_DJ off_DJ rfl ndLPl
    (eij_range BL.range (ej_take Ft hr (by decide) t (i := 0) rfl (ee_op op_add rr_add (ee_var (i := 1) rfl (.int 9)) ee_int) (by decide) (by decide)) (by decide)) (fun ds ⟨i, e, i0, i1⟩ => ?_) (by decide)
    (blkOk_by (show blkC ["draw", "most", "k"] (defScope sLPl) _ [("k", 2)] = true by decide +kernel)) (fun s H C cl fp => eg_name ndLPl) (fun ds _ d hd => ⟨[d], rfl, rfl⟩) (fun vs hv => ?_) (fun B' ds e es vs lb ri hd he hv s H C cl fp => ?_)).weak cells_DJ (fun e h => ?_) (by omega)
  · subst e
    unfold upto
    rw [List.length_map, List.length_range]
    omega
  · match vs, hv with
    | [a], _ => rfl
  · cases he
    obtain ⟨v, rfl, hx⟩ := ds1 (K := K) hv
    refine (ej_take Ft hr (by decide) (t.le lb) (i := 0) rfl ee_int (by decide) (by decide)).weak cells_DJ (fun e h => ?_) (Nat.le_refl _)
    obtain ⟨i, rfl, i0, i1⟩ := h
    have : i = 0 ∨ i = 1 := by omega
    rcases this with rfl | rfl
    · exact .inl rfl
    · exact .inr rfl
  · obtain ⟨ds, rs, rfl, ⟨i, e, i0, i1⟩, hb⟩ := h
    refine ⟨rs, rfl, ?_, fun p hp => ?_⟩
    · rw [← hb.length, e]
      unfold upto
      rw [List.length_map, List.length_range]
      omega
    · obtain ⟨a, _, h⟩ := hb.mem hp
      exact h
end
end K0


set_option Elab.async false
set_option linter.all false
set_option maxRecDepth 100000
set_option maxHeartbeats 4000000
/-! Q7: repr of data, where nothing is being shown around it. -/
namespace Tk
open PySem PySem.Spec PyProof.Rows L2 GxR Gx
variable [LamTab]
def rReprD (K : PySem.W.Frag) : List V → Hp → VK → Prop := fun xs H Q => ∃ a d, xs = [V.ref a] ∧ Dp K H (.ref a) d ∧ d.showable = true ∧ d.hasDict = false ∧ d.depth ≤ 60 ∧ d.shown.length ≤ sizeLine ∧ Q (.str d.shown) H
theorem c_reprD {X : Cx} (hg : X.A.guards = some []) (hu : X.A.units + 64 < cLine) : CallR X (.builtin "repr") (rReprD X.K) := by
  intro pins s σ H xs us Q I r h
  obtain ⟨a, d, rfl, hd, h1, h2, h3, h4, q⟩ := h
  obtain ⟨u, rfl, ru⟩ := vals1 r
  obtain rfl : u = Value.ref a := ru
  obtain ⟨as, rd⟩ := Dp.reads I d (.ref a) (.ref a) hd rfl
  exact repr_of_reads' rd h1 (PyData.noDict_hsm h2) hg (by omega) (fun b o e => e) (fun h' u tk hk => ⟨.str d.shown, H, I.kept (t' := tk) hk, ⟨u, rfl⟩, q⟩) h4
/-- what may be shown -/
structure Sh (n k : Nat) (d : PyData) : Prop where
  lv : d.leavesShort 100 = true
  sh : d.showable = true
  nd : d.hasDict = false
  wt : d.weight ≤ n
  dp : d.depth ≤ k
theorem Sh.mono {n k n' k' : Nat} {d : PyData} (h : Sh n k d) (hn : n ≤ n') (hk : k ≤ k') : Sh n' k' d := ⟨h.lv, h.sh, h.nd, Nat.le_trans h.wt hn, Nat.le_trans h.dp hk⟩
theorem Sh.len {n k : Nat} {d : PyData} (h : Sh n k d) : d.shown.length ≤ 102 * n + 100 := by
  have e := PyData.shown_le 100 (by decide) d h.lv
  have := h.wt
  have : 102 * d.weight ≤ 102 * n := Nat.mul_le_mul_left _ this
  omega
theorem sh_all {n k : Nat} : ∀ {xs : List PyData}, (∀ x ∈ xs, Sh n k x) → PyData.leavesShortAll 100 xs = true ∧ PyData.showableAll xs = true ∧ PyData.hasDictAll xs = false ∧ PyData.weightAll xs ≤ (n + 1) * xs.length ∧ PyData.depthAll xs ≤ k
  | [], _ => ⟨rfl, rfl, rfl, Nat.zero_le _, Nat.zero_le _⟩
  | x :: xs, h => by
    obtain ⟨a, b, c, d, e⟩ := sh_all fun y hy => h y (List.mem_cons_of_mem _ hy)
    have hx := h x List.mem_cons_self
    refine ⟨?_, ?_, ?_, ?_, ?_⟩
    · simp only [PyData.leavesShortAll, hx.lv, a, Bool.and_self]
    · simp only [PyData.showableAll, hx.sh, b, Bool.and_self]
    · simp only [PyData.hasDictAll, hx.nd, c, Bool.or_self]
    · have := hx.wt
      simp only [PyData.weightAll, List.length_cons, Nat.mul_succ]
      omega
    · have := hx.dp
      simp only [PyData.depthAll]
      omega
theorem sh_tup {n k m : Nat} {xs : List PyData} (h : ∀ x ∈ xs, Sh n k x) (hm : (n + 1) * xs.length ≤ m) : Sh m (k + 1) (.tuple xs) := by
  obtain ⟨a, b, c, d, e⟩ := sh_all h
  refine ⟨?_, ?_, ?_, ?_, ?_⟩
  · simp only [PyData.leavesShort, a]
  · simp only [PyData.showable, b]
  · simp only [PyData.hasDict, c]
  · simp only [PyData.weight]; omega
  · simp only [PyData.depth]; omega
theorem sh_lst {n k m : Nat} {xs : List PyData} (h : ∀ x ∈ xs, Sh n k x) (hm : (n + 1) * xs.length ≤ m) : Sh m (k + 1) (.list xs) := by
  obtain ⟨a, b, c, d, e⟩ := sh_all h
  refine ⟨?_, ?_, ?_, ?_, ?_⟩
  · simp only [PyData.leavesShort, a]
  · simp only [PyData.showable, b]
  · simp only [PyData.hasDict, c]
  · simp only [PyData.weight]; omega
  · simp only [PyData.depth]; omega
theorem sh_nat {k : Nat} (h : k < 500) : Sh 16 0 (.int (k : Int)) := by
  have : ∀ k : Nat, k < 500 → ((PyData.int (k : Int)).leavesShort 100 && ((PyData.int (k : Int)).showable && (!(PyData.int (k : Int)).hasDict && (decide ((PyData.int (k : Int)).weight ≤ 16) && decide ((PyData.int (k : Int)).depth ≤ 0))))) = true := by decide +kernel
  have h := this k h
  simp only [Bool.and_eq_true, decide_eq_true_eq] at h
  obtain ⟨a, b, c, d, e⟩ := h
  exact ⟨a, b, by simpa using c, d, e⟩
theorem ee_reprD {X : Cx} {e : Expr} {σ : L2.St} {H : Hp} {d : PyData} {n k : Nat} {p pos : Pos} (hgd : X.A.guards = some []) (hu : X.A.units + 64 < cLine) (hm : X.mg "repr" = none) (ha : EE X e σ H d) (s : Sh n k d) (hn : n ≤ 10000) (hk : k ≤ 60) (hnd : noDict d = true) (href : (∃ xs, d = .list xs) ∨ ∃ xs, d = .tuple xs) (hg : Gl X "repr" := by rfl) (he : starEach [e] X.env = (false, eval e X.env) :: starEach [] X.env := by rfl) : EE X (.Call (.Name "repr" p) [e] [] pos) σ H (.str d.shown) :=
  ee_callB (c_reprD hgd hu) hg hm boot_repr' (fun B1 H1 l l1 vs hv Q q => by
    obtain ⟨v, rfl, hx⟩ := ds1 hv
    have hp := Dt.toDp (Dt.le l1 hx) hnd
    have hr : ∃ a, v = .ref a := by
      rcases href with ⟨xs, rfl⟩ | ⟨xs, rfl⟩
      · cases hx; exact ⟨_, rfl⟩
      · cases hx; exact ⟨_, rfl⟩
    obtain ⟨a, rfl⟩ := hr
    exact ⟨a, d, rfl, hp, s.sh, s.nd, Nat.le_trans s.dp hk, Nat.le_trans s.len (Nat.le_trans (show 102 * n + 100 ≤ 1020100 by omega) (by decide)), q _ B1 H1 (Up.refl l1) (.str _)⟩) (ea_cons ha ea_nil he) (by decide) (by decide) he rfl
end Tk


set_option Elab.async false
set_option linter.all false
set_option maxRecDepth 100000
set_option maxHeartbeats 4000000
/-! Q8: drawn woods, and what is told of them. -/
namespace K0
open PySem PySem.Spec PyProof.Rows L2 GxR Tk
variable [LamTab]
theorem names_sh : allNames.all (fun x => x.leavesShort 100 && (x.showable && (!x.hasDict && (decide (x.weight ≤ 16) && decide (x.depth ≤ 0))))) = true := by decide +kernel
theorem sh_name {x : PyData} (h : x ∈ allNames) : Sh 16 0 x := by
  have h := List.all_eq_true.mp names_sh x h
  simp only [Bool.and_eq_true, decide_eq_true_eq] at h
  obtain ⟨a, b, c, d, e⟩ := h
  exact ⟨a, b, by simpa using c, d, e⟩
/-- a drawn scope -/
structure Drawn (ys : List Str) : Prop where
  sc : scopeB (tupS ys) = true
  ok : okD (tupS ys) = true
  n3 : ys.length ≤ 3
  nm : ∀ x ∈ ys.map PyData.str, x ∈ allNames
theorem sh_let {ys l : List Str} (g : Drawn ys) (h : l.Sublist ys) : Sh 51 1 (tupS l) := by
  refine sh_tup (n := 16) (k := 0) (fun x hx => sh_name (g.nm x ((h.map PyData.str).subset hx))) ?_
  rw [List.length_map]
  have := h.length_le
  have := g.n3
  omega
mutual
theorem nd_of : ∀ d : PyData, d.hasDict = false → noDict d = true
  | .none, _ => rfl
  | .bool _, _ => rfl
  | .int _, _ => rfl
  | .str _, _ => rfl
  | .list xs, h => nds_of xs (by simpa only [PyData.hasDict] using h)
  | .tuple xs, h => nds_of xs (by simpa only [PyData.hasDict] using h)
  | .dict _, h => by simp only [PyData.hasDict] at h; cases h
theorem nds_of : ∀ xs : List PyData, PyData.hasDictAll xs = false → noDicts xs = true
  | [], _ => rfl
  | x :: xs, h => by
    simp only [PyData.hasDictAll, Bool.or_eq_false_iff] at h
    show (noDict x && noDicts xs) = true
    rw [nd_of x h.1, nds_of xs h.2]
    rfl
end
theorem eqv_tupS (l : List Str) : PyData.eqv (tupS l) (tupS l) = true := by
  unfold tupS
  simp only [PyData.eqv]
  rw [eqv_strs]
  exact decide_eq_true rfl
theorem bfs_good {R : List Nd} (hR : rowsOk R) : ∀ (f : Nat) (o : List Nat) (i : Nat), goodO R.length o → goodO R.length (bfs R f o i)
  | 0, o, _, h => h
  | f + 1, o, i, h => by
    unfold bfs
    split
    · split
      · rename_i r hr
        have := hR _ (List.mem_of_getElem? hr)
        exact bfs_good hR f _ _ (goodO_add (goodO_add h this.1) this.2)
      · exact h
    · exact h
theorem walkO_good {R : List Nd} {s : Nat} (hR : rowsOk R) (hs : s < R.length) : goodO R.length (walkO R s) := bfs_good hR _ _ _ ⟨by simp, fun k hk => by rw [List.mem_singleton.mp hk]; exact hs⟩
theorem sh_wood {ys : List Str} {R : List Nd} {s : Nat} (g : Drawn ys) (hR : rowsOk R) (hs : s < R.length) (h6 : R.length ≤ 6) (hl : ∀ r ∈ R, ∃ l : List Str, r.1 = tupS l ∧ l.Sublist ys) : Sh 2829 4 (.tuple [.str "wood", tupS ys, .tuple (walkL R s)]) := by
  have gw := walkO_good hR hs
  have gl := goodO_len gw
  have each : ∀ x ∈ walkL R s, Sh 156 2 x := fun x hx => by
    obtain ⟨k, hk, rfl⟩ := List.mem_map.mp hx
    have hkR := gw.2 k hk
    obtain ⟨l, e, sub⟩ := hl _ (List.getElem_mem hkR)
    have er : renum R (walkO R s) k = .tuple [R[k].1, .int ((walkO R s).idxOf R[k].2.1 : Nat), .int ((walkO R s).idxOf R[k].2.2 : Nat)] := by
      unfold renum
      rw [List.getElem?_eq_getElem hkR]
    rw [er, e]
    have i1 : (walkO R s).idxOf R[k].2.1 ≤ (walkO R s).length := List.idxOf_le_length
    have i2 : (walkO R s).idxOf R[k].2.2 ≤ (walkO R s).length := List.idxOf_le_length
    refine sh_tup (n := 51) (k := 1) (fun y hy => ?_) (by show 52 * 3 ≤ 156; decide)
    simp only [List.mem_cons, List.not_mem_nil, or_false] at hy
    rcases hy with rfl | rfl | rfl
    · exact sh_let g sub
    · exact (sh_nat (by omega)).mono (by decide) (by decide)
    · exact (sh_nat (by omega)).mono (by decide) (by decide)
  have rows : Sh 942 3 (.tuple (walkL R s)) := sh_tup (n := 156) (k := 2) each (by
    have : (walkL R s).length = (walkO R s).length := List.length_map _
    rw [this]
    omega)
  refine sh_tup (n := 942) (k := 3) (fun y hy => ?_) (by show 943 * 3 ≤ 2829; decide)
  simp only [List.mem_cons, List.not_mem_nil, or_false] at hy
  rcases hy with rfl | rfl | rfl
  · exact ⟨by decide +kernel, by decide +kernel, by decide +kernel, by decide +kernel, by decide +kernel⟩
  · exact (sh_let g (List.Sublist.refl _)).mono (by decide) (by decide)
  · exact rows
theorem numB_of' {a : Int} {n : Nat} (h0 : 0 ≤ a) (h1 : a < n) : numB (.int a) (n : Int) = true := by
  show (true && (!false && (decide (0 ≤ a) && decide (a < (n : Int))))) = true
  rw [decide_eq_true h0, decide_eq_true h1]
  rfl
theorem wood_drawn {ys : List Str} {rs : List PyData} (g : Drawn ys) (h : woodRows (ys.map PyData.str) rs) :
    ∃ R : List Nd, rs = R.map ndD ∧ rowsOk R ∧ 0 < R.length ∧ R.length ≤ 6 ∧ (∀ r ∈ R, ∃ l : List Str, r.1 = tupS l ∧ l.Sublist ys) ∧ woodB (.tuple [.str "wood", tupS ys, .tuple rs]) = true ∧ okD (.tuple [.str "wood", tupS ys, .tuple rs]) = true := by
  obtain ⟨r1, r6, hr⟩ := h
  have hr' : ∀ x ∈ rs, ∃ (l : List Str) (a b : Nat), x = .tuple [tupS l, .int (a : Int), .int (b : Int)] ∧ l ∈ lets ys ∧ l.Sublist ys ∧ a < rs.length ∧ b < rs.length := fun x hx => by
    obtain ⟨l, a, b, rfl, hl, a0, a1, b0, b1⟩ := hr x hx
    rw [lawLet_eq g.n3] at hl
    obtain ⟨l0, h0, rfl⟩ := List.mem_map.mp hl
    exact ⟨l0, a.toNat, b.toNat, by rw [Int.toNat_of_nonneg a0, Int.toNat_of_nonneg b0], h0, (lets_sub g.n3).mp h0, by omega, by omega⟩
  have eR : rs = (rs.map ndOf).map ndD := by
    rw [List.map_map]
    refine (List.map_id rs).symm.trans (List.map_congr_left fun x hx => ?_)
    obtain ⟨l, a, b, rfl, _⟩ := hr' x hx
    rfl
  have inR : ∀ r ∈ rs.map ndOf, ∃ (l : List Str), r.1 = tupS l ∧ l.Sublist ys ∧ r.2.1 < rs.length ∧ r.2.2 < rs.length := fun r hr2 => by
    obtain ⟨x, hx, rfl⟩ := List.mem_map.mp hr2
    obtain ⟨l, a, b, rfl, _, sub, ha, hb⟩ := hr' x hx
    exact ⟨l, rfl, sub, ha, hb⟩
  have eln : (rs.map ndOf).length = rs.length := List.length_map _
  have oks := (okD_tup g.ok).2
  refine ⟨rs.map ndOf, eR, fun r hr2 => ?_, by omega, by omega, fun r hr2 => ?_, ?_, ?_⟩
  · obtain ⟨l, _, _, a, b⟩ := inR r hr2
    rw [eln]
    exact ⟨a, b⟩
  · obtain ⟨l, a, b, _⟩ := inR r hr2
    exact ⟨l, a, b⟩
  · have nodes : nodesB (tupS ys) (.tuple rs) = true := by
      show (rs.all fun r => nodeB r (lettersL (ys.map PyData.str)) (rs.length : Int)) = true
      refine List.all_eq_true.mpr fun x hx => ?_
      obtain ⟨l, a, b, rfl, hl, sub, ha, hb⟩ := hr' x hx
      show (true && (strTup (tupS l) && (((lettersL (ys.map PyData.str)).any fun z => PyData.eqv z (tupS l)) && (numB (.int (a : Int)) (rs.length : Int) && numB (.int (b : Int)) (rs.length : Int))))) = true
      have s1 : strTup (tupS l) = true := by
        show ((l.map PyData.str).all isStr) = true
        exact List.all_eq_true.mpr fun y hy => by
          obtain ⟨z, _, rfl⟩ := List.mem_map.mp hy
          rfl
      have s2 : ((lettersL (ys.map PyData.str)).any fun z => PyData.eqv z (tupS l)) = true := by
        rw [lettersL_eq g.n3]
        exact List.any_eq_true.mpr ⟨tupS l, List.mem_map.mpr ⟨l, hl, rfl⟩, eqv_tupS l⟩
      rw [s1, s2, numB_of' (by omega) (by omega), numB_of' (by omega) (by omega)]
      rfl
    have row : rowB (.tuple rs) 1 400 = true := by
      show (true && (decide ((1 : Int) ≤ (rs.length : Int)) && decide ((rs.length : Int) ≤ 400))) = true
      rw [decide_eq_true (by omega : (1 : Int) ≤ (rs.length : Int)), decide_eq_true (by omega : (rs.length : Int) ≤ 400)]
      rfl
    rw [wood_eq, g.sc, row, nodes]
    have hh : headB (.tuple [.str "wood", tupS ys, .tuple rs]) "wood" 3 = true := by
      show (true && (decide ((3 : Int) = 3) && (true && decide (("wood" : Str) = "wood")))) = true
      decide +kernel
    rw [hh]
    rfl
  · have okw : okD (.str "wood") = true := by decide +kernel
    have okr : okD (.tuple rs) = true := by
      show (decide (rs.length ≤ 100000) && okDs rs) = true
      rw [decide_eq_true (show rs.length ≤ 100000 by omega), okDs_of fun x hx => ?_]
      · rfl
      · obtain ⟨l, a, b, rfl, hl, sub, ha, hb⟩ := hr' x hx
        have okl : okD (tupS l) = true := by
          show (decide ((l.map PyData.str).length ≤ 100000) && okDs (l.map PyData.str)) = true
          have := sub.length_le
          have := g.n3
          rw [decide_eq_true (show (l.map PyData.str).length ≤ 100000 by rw [List.length_map]; omega), okDs_of fun y hy => okDs_mem oks ((sub.map PyData.str).subset hy)]
          rfl
        show (decide (3 ≤ 100000) && (okD (tupS l) && (true && (true && true)))) = true
        rw [okl]
        rfl
    show (decide (3 ≤ 100000) && (okD (.str "wood") && (okD (tupS ys) && (okD (.tuple rs) && true)))) = true
    rw [okw, g.ok, okr]
    rfl
end K0


set_option Elab.async false
set_option linter.all false
set_option maxRecDepth 100000
set_option maxHeartbeats 4000000
/-! W0: what parts two woods; least woods as woods. -/
namespace K0
open PySem PySem.Spec PyProof.Rows L2 GxR Tk
variable [LamTab]
/-- the pairs that stand at one place make a tie exactly if all are alike -/
theorem met_closed {R S : List Nd} (h : twoP R S) : ∀ x ∈ metR R S, ∀ w, w < 2 → pgo R S w x.1 ∈ (metR R S).map (·.1) := by
  intro x hx w hw
  have hlen := met_len h.1 h.2.1 h.2.2.1 h.2.2.2.1 (R.length * S.length)
  obtain ⟨j, hj, e⟩ := List.mem_iff_getElem.mp hx
  have hj2 : j < R.length * S.length := Nat.lt_of_lt_of_le hj hlen
  -- at the step j the pair stood already, or the walk had ended
  have hp := metR_pre h j (by omega)
  cases hy : (metN R S j)[j]? with
  | none =>
    have hl : (metN R S j).length ≤ j := by
      rcases Nat.lt_or_ge j (metN R S j).length with z | z
      · rw [List.getElem?_eq_getElem z] at hy; cases hy
      · exact z
    have e2 := metR_stop h hl
    have : j < (metN R S j).length := by rw [← e2]; exact hj
    omega
  | some y =>
    have e3 : (metR R S)[j]? = some y := pre_get hp hy
    rw [List.getElem?_eq_getElem hj, e] at e3
    cases Option.some.inj e3
    have hst : stepM R S (metN R S j) j <+: metR R S := metR_pre h (j + 1) (by omega)
    rw [step_at hy] at hst
    obtain ⟨t, ht⟩ := hst
    rw [← ht, List.map_append]
    refine List.mem_append_left _ ?_
    match w, hw with
    | 0, _ =>
      have m1 := addM_mem (L := metN R S j) (x := (pgo R S 0 x.1, (j, 0), x.2.2 ++ [0]))
      obtain ⟨z, hz, ez⟩ := List.mem_map.mp m1
      exact List.mem_map.mpr ⟨z, (addM_pre (L := addM (metN R S j) (pgo R S 0 x.1, (j, 0), x.2.2 ++ [0]))).subset hz, ez⟩
    | 1, _ => exact addM_mem (L := addM (metN R S j) (pgo R S 0 x.1, (j, 0), x.2.2 ++ [0])) (x := (pgo R S 1 x.1, (j, 1), x.2.2 ++ [1]))

/-! equal as data -/
mutual
theorem eqv_key : ∀ {d e : PyData}, keyD d = true → keyD e = true → (PyData.eqv d e = true ↔ d = e)
  | .none, .none, _, _ => by simp [PyData.eqv]
  | .none, .int _, _, _ => by simp [PyData.eqv]
  | .none, .str _, _, _ => by simp [PyData.eqv]
  | .none, .tuple _, _, _ => by simp [PyData.eqv]
  | .int _, .none, _, _ => by simp [PyData.eqv]
  | .int a, .int b, _, _ => by simp [PyData.eqv]
  | .int _, .str _, _, _ => by simp [PyData.eqv]
  | .int _, .tuple _, _, _ => by simp [PyData.eqv]
  | .str _, .none, _, _ => by simp [PyData.eqv]
  | .str _, .int _, _, _ => by simp [PyData.eqv]
  | .str a, .str b, _, _ => by
    rw [eqv_str, decide_eq_true_iff]
    exact ⟨fun h => by rw [h], fun h => by injection h⟩
  | .str _, .tuple _, _, _ => by simp [PyData.eqv]
  | .tuple _, .none, _, _ => by simp [PyData.eqv]
  | .tuple _, .int _, _, _ => by simp [PyData.eqv]
  | .tuple _, .str _, _, _ => by simp [PyData.eqv]
  | .tuple xs, .tuple ys, hx, hy => by
    have := eqv_keys (xs := xs) (ys := ys) hx hy
    simp only [PyData.eqv]
    rw [this]
    exact ⟨fun h => by rw [h], fun h => by injection h⟩
theorem eqv_keys : ∀ {xs ys : List PyData}, keyDs xs = true → keyDs ys = true → (PyData.eqvAll xs ys = true ↔ xs = ys)
  | [], [], _, _ => by simp [PyData.eqvAll]
  | [], _ :: _, _, _ => by simp [PyData.eqvAll]
  | _ :: _, [], _, _ => by simp [PyData.eqvAll]
  | x :: xs, y :: ys, hx, hy => by
    have a := (Bool.and_eq_true _ _).mp hx
    have b := (Bool.and_eq_true _ _).mp hy
    have h1 := eqv_key (d := x) (e := y) a.1 b.1
    have h2 := eqv_keys (xs := xs) (ys := ys) a.2 b.2
    simp only [PyData.eqvAll, Bool.and_eq_true, h1, h2, List.cons.injEq]
end
theorem keyDs_of {xs : List PyData} (h : ∀ x ∈ xs, keyD x = true) : keyDs xs = true := by
  induction xs with
  | nil => rfl
  | cons x xs ih =>
    show (keyD x && keyDs xs) = true
    rw [h x List.mem_cons_self, ih fun y hy => h y (List.mem_cons_of_mem _ hy)]
    rfl
theorem keyD_wood {ys : List Str} {R : List Nd} (ok : ltOk R) : keyD (.tuple [.str "wood", tupS ys, .tuple (R.map ndD)]) = true := by
  show (true && (keyDs (ys.map PyData.str) && (keyDs (R.map ndD) && true))) = true
  rw [keyDs_strs, keyDs_of fun x hx => ?_]
  · rfl
  · obtain ⟨r, hr, rfl⟩ := List.mem_map.mp hx
    obtain ⟨l, e⟩ := ok r hr
    show (keyD r.1 && (true && (true && true))) = true
    rw [e]
    show (keyDs (l.map PyData.str) && (true && (true && true))) = true
    rw [keyDs_strs]
    rfl
theorem ndD_inj {a b : Nd} (h : ndD a = ndD b) : a = b := by rw [← ndOf_nd a, h, ndOf_nd]
theorem pgo_gow {R S : List Nd} {w : Nat} {p : Pr} (h1 : p.1 < R.length) (h2 : p.2 < S.length) : pgo R S w p = (gow R p.1 w, gow S p.2 w) := by
  rw [pgo_eq h1 h2, gow_at (List.getElem?_eq_getElem h1), gow_at (List.getElem?_eq_getElem h2)]
section
variable {R S : List Nd}
theorem like_iff (oR : ltOk R) (oS : ltOk S) {p : Pr} (h1 : p.1 < R.length) (h2 : p.2 < S.length) : likeM R S p = true ↔ lt1 R p.1 = lt1 S p.2 := by
  rw [like_eq h1 h2]
  have ex := lt1_at (List.getElem?_eq_getElem h1)
  have ey := lt1_at (List.getElem?_eq_getElem h2)
  obtain ⟨l, e1⟩ := lt_of oR h1
  obtain ⟨m, e2⟩ := lt_of oS h2
  rw [← ex, ← ey, e1, e2]
  show PyData.eqvAll (l.map PyData.str) (m.map PyData.str) = true ↔ _
  rw [eqv_strs, decide_eq_true_iff]
  exact ⟨fun z => by rw [z], fun z => by
    have z : l.map PyData.str = m.map PyData.str := by injection z
    exact (List.map_inj_right (fun a b e => by injection e)).mp z⟩
theorem met_all (h : twoP R S) : ∀ (n : Nat) (ws : List Nat), ws.length = n → (cm R 0 ws, cm S 0 ws) ∈ (metR R S).map (·.1)
  | 0, ws, e => by
    cases List.length_eq_zero_iff.mp e
    have I := met_inv h.1 h.2.1 h.2.2.1 h.2.2.2.1 (R.length * S.length)
    exact List.mem_map.mpr ⟨rootM, List.mem_of_getElem? I.h0, rfl⟩
  | n + 1, ws, e => by
    obtain ⟨us, w, rfl⟩ : ∃ us w, ws = us ++ [w] := by
      refine ⟨ws.dropLast, ws.getLast (fun z => by rw [z] at e; cases e), (List.dropLast_concat_getLast _).symm⟩
    rw [List.length_append, List.length_singleton] at e
    have ih := met_all h n us (by omega)
    obtain ⟨x, hx, ex⟩ := List.mem_map.mp ih
    have I := met_inv h.1 h.2.1 h.2.2.1 h.2.2.2.1 (R.length * S.length)
    obtain ⟨r1, r2⟩ := I.rg x hx
    rw [cm_snoc, cm_snoc]
    have ex1 : x.1.1 = cm R 0 us := by rw [ex]
    have ex2 : x.1.2 = cm S 0 us := by rw [ex]
    by_cases z : w = 0
    · subst z
      have := met_closed h x hx 0 (by decide)
      rw [pgo_gow r1 r2, ex1, ex2] at this
      exact this
    · have := met_closed h x hx 1 (by decide)
      rw [pgo_gow r1 r2, ex1, ex2] at this
      rw [gow_one z, gow_one (w := w) z]
      exact this
theorem met_cm (h : twoP R S) : ∀ (j : Nat) (x : Mt), (metR R S)[j]? = some x → x.1 = (cm R 0 x.2.2, cm S 0 x.2.2) := fun j => by
  induction j using Nat.strongRecOn with
  | ind j ih =>
    intro x hx
    have I := met_inv h.1 h.2.1 h.2.2.1 h.2.2.2.1 (R.length * S.length)
    by_cases z : j = 0
    · subst z
      have h0 : (metR R S)[0]? = some rootM := I.h0
      rw [h0] at hx
      cases Option.some.inj hx
      rfl
    · obtain ⟨a1, a2, _, y, hy, e1, e2⟩ := I.og j x hx (by omega)
      have ey := ih _ a1 y hy
      obtain ⟨r1, r2⟩ := I.rg y (List.mem_of_getElem? hy)
      rw [e2, pgo_gow r1 r2, e1, cm_snoc, cm_snoc]
      have q1 : y.1.1 = cm R 0 y.2.2 := by rw [ey]
      have q2 : y.1.2 = cm S 0 y.2.2 := by rw [ey]
      rw [q1, q2]
theorem part_none (h : twoP R S) (oR : ltOk R) (oS : ltOk S) : partV R S = .none ↔ Bs R 0 S 0 := by
  have I := met_inv h.1 h.2.1 h.2.2.1 h.2.2.2.1 (R.length * S.length)
  constructor
  · intro e ws
    have un : unM R S = [] := by
      rcases part_first h with ⟨a, _⟩ | ⟨y, ys, _, b, _⟩
      · exact a
      · rw [e] at b; cases b
    obtain ⟨x, hx, ex⟩ := List.mem_map.mp (met_all h _ ws rfl)
    obtain ⟨r1, r2⟩ := I.rg x hx
    have lk : likeM R S x.1 = true := by
      cases q : likeM R S x.1 with
      | true => rfl
      | false =>
        have : x ∈ unM R S := List.mem_filter.mpr ⟨hx, by rw [q]; rfl⟩
        rw [un] at this
        cases this
    have := (like_iff oR oS r1 r2).mp lk
    have ex1 : x.1.1 = cm R 0 ws := by rw [ex]
    have ex2 : x.1.2 = cm S 0 ws := by rw [ex]
    rw [ex1, ex2] at this
    exact this
  · intro b
    rcases part_first h with ⟨_, e, _⟩ | ⟨y, ys, hu, _, _, _⟩
    · exact e
    · have hy : y ∈ unM R S := by rw [hu]; exact List.mem_cons_self
      obtain ⟨hm, hl⟩ := List.mem_filter.mp hy
      obtain ⟨j, hj⟩ := List.mem_iff_getElem?.mp hm
      have ey := met_cm h j y hj
      obtain ⟨r1, r2⟩ := I.rg y hm
      have : likeM R S y.1 = true := (like_iff oR oS r1 r2).mpr (by
        have q1 : y.1.1 = cm R 0 y.2.2 := by rw [ey]
        have q2 : y.1.2 = cm S 0 y.2.2 := by rw [ey]
        rw [q1, q2]
        exact b y.2.2)
      rw [this] at hl
      cases hl
/-- the least rows, as nodes -/
noncomputable def canN (R : List Nd) : List Nd := walkN (TB R) (chief R 0)
theorem canN_L (kR : rowsOk R) (h0 : 0 < R.length) : canL R 0 = (canN R).map ndD := walkL_N (TB_ok kR) (by rw [TB_len]; exact chief_lt h0)
theorem canN_ok (kR : rowsOk R) (h0 : 0 < R.length) : rowsOk (canN R) := walkN_ok (TB_ok kR) (by rw [TB_len]; exact chief_lt h0)
theorem canN_pos (kR : rowsOk R) (h0 : 0 < R.length) : 0 < (canN R).length := walkN_pos (TB_ok kR) (by rw [TB_len]; exact chief_lt h0)
theorem canN_le (kR : rowsOk R) (h0 : 0 < R.length) : (canN R).length ≤ R.length := by
  have := walkN_le (TB_ok kR) (s := chief R 0) (by rw [TB_len]; exact chief_lt h0)
  rw [TB_len] at this
  exact this
theorem canN_bs (kR : rowsOk R) (h0 : 0 < R.length) : Bs (canN R) 0 R 0 := (walkN_root (TB_ok kR) (by rw [TB_len]; exact chief_lt h0)).trans ((TB_quo kR).root kR h0)
theorem TB_lets {p : PyData → Prop} (hl : ∀ r ∈ R, p r.1) : ∀ r ∈ TB R, p r.1 := fun r hr => by
  obtain ⟨x, hx, rfl⟩ := List.mem_map.mp hr
  have hx := List.mem_range.mp hx
  show p (lt1 R x)
  rw [lt1_at (List.getElem?_eq_getElem hx)]
  exact hl _ (List.getElem_mem hx)
theorem walkN_lets {p : PyData → Prop} {s : Nat} (kR : rowsOk R) (hs : s < R.length) (hl : ∀ r ∈ R, p r.1) : ∀ r ∈ walkN R s, p r.1 := fun r hr => by
  obtain ⟨k, hk, rfl⟩ := List.mem_map.mp hr
  have hx := (walkO_facts kR hs).1.2 k hk
  show p (lt1 R k)
  rw [lt1_at (List.getElem?_eq_getElem hx)]
  exact hl _ (List.getElem_mem hx)
theorem canN_lets {p : PyData → Prop} (kR : rowsOk R) (h0 : 0 < R.length) (hl : ∀ r ∈ R, p r.1) : ∀ r ∈ canN R, p r.1 := walkN_lets (TB_ok kR) (by rw [TB_len]; exact chief_lt h0) (TB_lets hl)
/-- where walked rows lead -/
theorem walkN_cm {s : Nat} (kR : rowsOk R) (hs : s < R.length) : ∀ (ws : List Nat) {i k : Nat}, (walkO R s)[i]? = some k → (walkO R s)[cm (walkN R s) i ws]? = some (cm R k ws)
  | [], i, k, h => h
  | w :: ws, i, k, h => by
    obtain ⟨_, c, _⟩ := walkO_facts kR hs
    have li := (List.getElem?_eq_some_iff.mp h).1
    have m := c i k w li h
    have e : gow (walkN R s) i w = (walkO R s).idxOf (gow R k w) := by
      rw [gow_at (walkN_at kR hs h)]
      by_cases z : w = 0
      · subst z; rw [if_pos rfl]
      · rw [if_neg z, gow_one z]
    show (walkO R s)[cm (walkN R s) (gow (walkN R s) i w) ws]? = some (cm R (gow R k w) ws)
    rw [e]
    exact walkN_cm kR hs ws (idx_at m)
theorem walkN_red {s : Nat} (kR : rowsOk R) (hs : s < R.length) (h : Red R s) : Red (walkN R s) 0 := fun u v b => by
  have f0 := (walkO_facts kR hs).2.2
  have eu := walkN_cm kR hs u f0
  have ev := walkN_cm kR hs v f0
  have bu : ∀ ws, bh (walkN R s) (cm (walkN R s) 0 u) ws = bh R (cm R s u) ws := fun ws => walkN_bs kR hs ws eu
  have bv : ∀ ws, bh (walkN R s) (cm (walkN R s) 0 v) ws = bh R (cm R s v) ws := fun ws => walkN_bs kR hs ws ev
  have e := h u v fun ws => by rw [← bu ws, ← bv ws]; exact b ws
  have nd := (walkO_facts kR hs).1.1
  rw [e] at eu
  have pw := List.pairwise_iff_getElem.mp nd
  obtain ⟨a1, a2⟩ := List.getElem?_eq_some_iff.mp eu
  obtain ⟨b1, b2⟩ := List.getElem?_eq_some_iff.mp ev
  apply Decidable.byContradiction
  intro z
  rcases Nat.lt_or_gt_of_ne z with q | q
  · exact pw _ _ a1 b1 q (a2.trans b2.symm)
  · exact pw _ _ b1 a1 q (b2.trans a2.symm)
theorem canN_red (kR : rowsOk R) (h0 : 0 < R.length) : Red (canN R) 0 := walkN_red (TB_ok kR) (by rw [TB_len]; exact chief_lt h0) ((TB_quo kR).red kR h0)
theorem Red.sub {s : Nat} (h : Red R s) (ws : List Nat) : Red R (cm R s ws) := fun u v b => by
  have e : ∀ u, cm R (cm R s ws) u = cm R s (ws ++ u) := fun u => by unfold cm; rw [List.foldl_append]
  rw [e u, e v] at b ⊢
  exact h _ _ b
theorem come_cm {ps : List PyData} : comeR R ps = cm R 0 (ps.map natD) := by
  unfold comeR cm
  rw [List.foldl_map]
  rfl
/-- the least wood of what stands at a place -/
theorem can_place {ps : List PyData} (kR : rowsOk R) (h0 : 0 < R.length) : walkL (canN R) (comeR (canN R) ps) = canL R (comeR R ps) := by
  have b := (canN_bs kR h0).cm (ps.map natD)
  rw [come_cm, come_cm]
  exact canL_red (canN_ok kR h0) kR (cm_lt (canN_ok kR h0) _ (canN_pos kR h0)) (cm_lt kR _ h0) ((canN_red kR h0).sub _) b
theorem can_iff (kR : rowsOk R) (kS : rowsOk S) (r0 : 0 < R.length) (s0 : 0 < S.length) : canL R 0 = canL S 0 ↔ Bs R 0 S 0 := by
  constructor
  · intro e
    rw [canN_L kR r0, canN_L kS s0] at e
    have e2 := (List.map_inj_right (fun a b h => ndD_inj h)).mp e
    exact ((canN_bs kR r0).symm.trans (by rw [e2]; exact .refl)).trans (canN_bs kS s0)
  · exact canL_eq kR kS r0 s0
end
end K0


set_option Elab.async false
set_option linter.all false
set_option maxRecDepth 100000
set_option maxHeartbeats 4000000
/-! P0: what law rests on; calls of least, parting, within. -/
namespace K0
open PySem PySem.Spec PyProof.Rows L2 GxR Tk
variable [LamTab]
theorem wood_rowsN {ys : List Str} {rs : List PyData} (g : Drawn ys) (h : 1 ≤ rs.length ∧ rs.length ≤ 13 ∧ ∀ x ∈ rs, ∃ (l : PyData) (a b : Int), x = .tuple [l, .int a, .int b] ∧ l ∈ lawLet [.tuple []] (ys.map PyData.str) ∧ 0 ≤ a ∧ a < rs.length ∧ 0 ≤ b ∧ b < rs.length) :
    ∃ R : List Nd, rs = R.map ndD ∧ rowsOk R ∧ 0 < R.length ∧ R.length ≤ 13 ∧ (∀ r ∈ R, ∃ l : List Str, r.1 = tupS l ∧ l.Sublist ys) ∧ woodB (.tuple [.str "wood", tupS ys, .tuple rs]) = true ∧ okD (.tuple [.str "wood", tupS ys, .tuple rs]) = true := by
  obtain ⟨r1, r6, hr⟩ := h
  have hr' : ∀ x ∈ rs, ∃ (l : List Str) (a b : Nat), x = .tuple [tupS l, .int (a : Int), .int (b : Int)] ∧ l ∈ lets ys ∧ l.Sublist ys ∧ a < rs.length ∧ b < rs.length := fun x hx => by
    obtain ⟨l, a, b, rfl, hl, a0, a1, b0, b1⟩ := hr x hx
    rw [lawLet_eq g.n3] at hl
    obtain ⟨l0, h0, rfl⟩ := List.mem_map.mp hl
    exact ⟨l0, a.toNat, b.toNat, by rw [Int.toNat_of_nonneg a0, Int.toNat_of_nonneg b0], h0, (lets_sub g.n3).mp h0, by omega, by omega⟩
  have eR : rs = (rs.map ndOf).map ndD := by
    rw [List.map_map]
    refine (List.map_id rs).symm.trans (List.map_congr_left fun x hx => ?_)
    obtain ⟨l, a, b, rfl, _⟩ := hr' x hx
    rfl
  have inR : ∀ r ∈ rs.map ndOf, ∃ (l : List Str), r.1 = tupS l ∧ l.Sublist ys ∧ r.2.1 < rs.length ∧ r.2.2 < rs.length := fun r hr2 => by
    obtain ⟨x, hx, rfl⟩ := List.mem_map.mp hr2
    obtain ⟨l, a, b, rfl, _, sub, ha, hb⟩ := hr' x hx
    exact ⟨l, rfl, sub, ha, hb⟩
  have eln : (rs.map ndOf).length = rs.length := List.length_map _
  have oks := (okD_tup g.ok).2
  refine ⟨rs.map ndOf, eR, fun r hr2 => ?_, by omega, by omega, fun r hr2 => ?_, ?_, ?_⟩
  · obtain ⟨l, _, _, a, b⟩ := inR r hr2
    rw [eln]
    exact ⟨a, b⟩
  · obtain ⟨l, a, b, _⟩ := inR r hr2
    exact ⟨l, a, b⟩
  · have nodes : nodesB (tupS ys) (.tuple rs) = true := by
      show (rs.all fun r => nodeB r (lettersL (ys.map PyData.str)) (rs.length : Int)) = true
      refine List.all_eq_true.mpr fun x hx => ?_
      obtain ⟨l, a, b, rfl, hl, sub, ha, hb⟩ := hr' x hx
      show (true && (strTup (tupS l) && (((lettersL (ys.map PyData.str)).any fun z => PyData.eqv z (tupS l)) && (numB (.int (a : Int)) (rs.length : Int) && numB (.int (b : Int)) (rs.length : Int))))) = true
      have s1 : strTup (tupS l) = true := by
        show ((l.map PyData.str).all isStr) = true
        exact List.all_eq_true.mpr fun y hy => by
          obtain ⟨z, _, rfl⟩ := List.mem_map.mp hy
          rfl
      have s2 : ((lettersL (ys.map PyData.str)).any fun z => PyData.eqv z (tupS l)) = true := by
        rw [lettersL_eq g.n3]
        exact List.any_eq_true.mpr ⟨tupS l, List.mem_map.mpr ⟨l, hl, rfl⟩, eqv_tupS l⟩
      rw [s1, s2, numB_of' (by omega) (by omega), numB_of' (by omega) (by omega)]
      rfl
    have row : rowB (.tuple rs) 1 400 = true := by
      show (true && (decide ((1 : Int) ≤ (rs.length : Int)) && decide ((rs.length : Int) ≤ 400))) = true
      rw [decide_eq_true (by omega : (1 : Int) ≤ (rs.length : Int)), decide_eq_true (by omega : (rs.length : Int) ≤ 400)]
      rfl
    rw [wood_eq, g.sc, row, nodes]
    have hh : headB (.tuple [.str "wood", tupS ys, .tuple rs]) "wood" 3 = true := by
      show (true && (decide ((3 : Int) = 3) && (true && decide (("wood" : Str) = "wood")))) = true
      decide +kernel
    rw [hh]
    rfl
  · have okw : okD (.str "wood") = true := by decide +kernel
    have okr : okD (.tuple rs) = true := by
      show (decide (rs.length ≤ 100000) && okDs rs) = true
      rw [decide_eq_true (show rs.length ≤ 100000 by omega), okDs_of fun x hx => ?_]
      · rfl
      · obtain ⟨l, a, b, rfl, hl, sub, ha, hb⟩ := hr' x hx
        have okl : okD (tupS l) = true := by
          show (decide ((l.map PyData.str).length ≤ 100000) && okDs (l.map PyData.str)) = true
          have := sub.length_le
          have := g.n3
          rw [decide_eq_true (show (l.map PyData.str).length ≤ 100000 by rw [List.length_map]; omega), okDs_of fun y hy => okDs_mem oks ((sub.map PyData.str).subset hy)]
          rfl
        show (decide (3 ≤ 100000) && (okD (tupS l) && (true && (true && true)))) = true
        rw [okl]
        rfl
    show (decide (3 ≤ 100000) && (okD (.str "wood") && (okD (tupS ys) && (okD (.tuple rs) && true)))) = true
    rw [okw, g.ok, okr]
    rfl

/-- a wood, whole -/
structure Wd (ys : List Str) (R : List Nd) : Prop where
  g : Drawn ys
  ok : rowsOk R
  n0 : 0 < R.length
  n13 : R.length ≤ 13
  hl : ∀ r ∈ R, ∃ l : List Str, r.1 = tupS l ∧ l.Sublist ys
  wd : woodB (.tuple [.str "wood", tupS ys, .tuple (R.map ndD)]) = true
  okd : okD (.tuple [.str "wood", tupS ys, .tuple (R.map ndD)]) = true
abbrev wdD (ys : List Str) (R : List Nd) : PyData := .tuple [.str "wood", tupS ys, .tuple (R.map ndD)]
theorem wd_of {ys : List Str} {R : List Nd} (g : Drawn ys) (ok : rowsOk R) (n0 : 0 < R.length) (n13 : R.length ≤ 13) (hl : ∀ r ∈ R, ∃ l : List Str, r.1 = tupS l ∧ l.Sublist ys) : Wd ys R := by
  have hlen : (R.map ndD).length = R.length := List.length_map _
  obtain ⟨R2, e, _, _, _, _, w, o⟩ := wood_rowsN (rs := R.map ndD) g ⟨by omega, by omega, fun x hx => by
    obtain ⟨r, hr, rfl⟩ := List.mem_map.mp hx
    obtain ⟨l, e, sub⟩ := hl r hr
    obtain ⟨a, b⟩ := ok r hr
    refine ⟨r.1, r.2.1, r.2.2, rfl, ?_, by omega, by omega, by omega, by omega⟩
    rw [lawLet_eq g.n3, e]
    exact List.mem_map.mpr ⟨l, (lets_sub g.n3).mpr sub, rfl⟩⟩
  exact ⟨g, ok, n0, n13, hl, w, o⟩
theorem Wd.lt {ys : List Str} {R : List Nd} (g : Wd ys R) : ltOk R := fun r hr => by
  obtain ⟨l, e, _⟩ := g.hl r hr
  exact ⟨l, e⟩
theorem Wd.okL {ys : List Str} {R : List Nd} (g : Wd ys R) : okL R := fun r hr => by
  obtain ⟨l, e, sub⟩ := g.hl r hr
  rw [e]
  have h1 := (okD_tup g.g.ok).2
  have h2 : ∀ x ∈ l.map PyData.str, okD x = true := fun x hx => okDs_mem h1 ((sub.map PyData.str).subset hx)
  have hl := sub.length_le
  have h3 := g.g.n3
  have := tupF_shaped (xs := l.map PyData.str) (fun x hx => by obtain ⟨z, _, rfl⟩ := List.mem_map.mp hx; rfl) (by
    show (decide ((l.map PyData.str).length ≤ 100000) && okDs (l.map PyData.str)) = true
    rw [decide_eq_true (by rw [List.length_map]; omega), okDs_of h2]
    rfl)
  exact ⟨this.1, this.2.1⟩
theorem Wd.two {ys : List Str} {R S : List Nd} (g : Wd ys R) (h : Wd ys S) : twoP R S := ⟨g.ok, h.ok, g.n0, h.n0, Nat.le_trans (Nat.mul_le_mul g.n13 h.n13) (by decide), g.okL, h.okL⟩
theorem Wd.can {ys : List Str} {R : List Nd} (g : Wd ys R) : Wd ys (canN R) := wd_of g.g (canN_ok g.ok g.n0) (canN_pos g.ok g.n0) (Nat.le_trans (canN_le g.ok g.n0) g.n13) (canN_lets (p := fun d => ∃ l : List Str, d = tupS l ∧ l.Sublist ys) g.ok g.n0 g.hl)
theorem Wd.walk {ys : List Str} {R : List Nd} {s : Nat} (g : Wd ys R) (hs : s < R.length) : Wd ys (walkN R s) := wd_of g.g (walkN_ok g.ok hs) (walkN_pos g.ok hs) (Nat.le_trans (walkN_le g.ok hs) g.n13) (walkN_lets (p := fun d => ∃ l : List Str, d = tupS l ∧ l.Sublist ys) g.ok hs g.hl)
theorem Wd.twin {ys : List Str} {R S : List Nd} {f : Nat → Nat} (g : Wd ys R) (h : Twn R S f) (s0 : 0 < S.length) (s13 : S.length ≤ 13) : Wd ys S := wd_of g.g h.ok s0 s13 fun r hr => by
  obtain ⟨i, hi, e⟩ := List.mem_iff_getElem.mp hr
  obtain ⟨hf, j1, j2, e2, _⟩ := h.at_ i hi
  rw [List.getElem?_eq_getElem hi, e] at e2
  rw [Option.some.inj e2]
  show ∃ l : List Str, lt1 R (f i) = tupS l ∧ _
  rw [lt1_at (List.getElem?_eq_getElem hf)]
  exact g.hl _ (List.getElem_mem hf)
theorem lst_wd {ys : List Str} {R : List Nd} (g : Wd ys R) : lstF [wdD ys R] = wdD ys (canN R) := by
  show PyData.tuple [.str "wood", tupS ys, .tuple (canL ((R.map ndD).map ndOf) 0)] = _
  rw [ndOf_map, canN_L g.ok g.n0]
theorem can_eq {ys : List Str} {R S : List Nd} (g : Wd ys R) (h : Wd ys S) (b : Bs R 0 S 0) : wdD ys (canN R) = wdD ys (canN S) := by
  have := (can_iff g.ok h.ok g.n0 h.n0).mpr b
  rw [canN_L g.ok g.n0, canN_L h.ok h.n0] at this
  show PyData.tuple [.str "wood", tupS ys, .tuple _] = .tuple [.str "wood", tupS ys, .tuple _]
  rw [this]
/-- by name -/
def gW : List Value → List Value → List Value := fun us ws => match us, ws with | [], [w] => [w] | _, _ => []
def gV : List V → List V → List V := fun us ws => match us, ws with | [], [w] => [w] | _, _ => []
section
variable (P : Program) (w : World) (K : PySem.W.Frag) (mg : Str → Option Value) (base : Heap) (T : List Addr) (CW CP CO : Addr)
/-- least -/
structure LsAt (f : Addr) (fd : FuncData) : Prop where
  ok : FnOk P w K mg base (L2.CX P w) 7 f fd ["wood"] (spOneW K T CW lstF)
  m : mg "least" = some (.ref f)
  k : PySem.W.keepIn K (.ref f) = true
  b : Binds K fd ["wood"] []
  kb : KBinds K fd ["wood"] ["wood"] gW gV
/-- within -/
structure WiAt : Prop where
  ex : ∃ (f : Addr) (fd : FuncData), FnOk P w K mg base (L2.CX P w) 7 f fd ["wood", "place"] (spTwo K T CW CP wthF) ∧ mg "within" = some (.ref f) ∧ PySem.W.keepIn K (.ref f) = true ∧ Binds K fd ["wood", "place"] []
/-- parting -/
structure PtAt : Prop where
  ex : ∃ (f : Addr) (fd : FuncData), FnOk P w K mg base (L2.CX P w) 8 f fd ["one", "other"] (spTw2 K T CW CO partV) ∧ mg "parting" = some (.ref f) ∧ PySem.W.keepIn K (.ref f) = true ∧ Binds K fd ["one", "other"] []
structure Facts : Prop where
  bl : Blt mg
  rp : mg "repr" = none
  mn : mg "min" = none
  isW : Kn P w K mg base 5 "is_wood" ["thing"] (spF K T 1 nameP woodF)
  lpt : Kn P w K mg base 2 "_law_parting" ["one", "other"] (spTwN K T partV)
  le : Kn P w K mg base 2 "_law_least" ["wood"] (spF K T 1 leP lstF)
  wi : WiAt P w K mg base T CW CP
  pt : PtAt P w K mg base T CW CO
  scope : ∀ d lw lc, (∀ a ∈ [d, lw, lc], a ∉ T) → lw ≠ lc → KnJ P w K mg base 5 "_law_scope" ["draw", "most"] T d lw lc 1 101 mostP scopeR
  wood : ∀ d lw lc, (∀ a ∈ [d, lw, lc], a ∉ T) → lw ≠ lc → KnJ P w K mg base 4 "_law_wood" ["draw", "scope", "most"] T d lw lc 2 19 woodP woodR
  bad : ∀ d lw lc, (∀ a ∈ [d, lw, lc], a ∉ T) → lw ≠ lc → KnJ P w K mg base 4 "_law_bad_wood" ["draw"] T d lw lc 0 1 (· = []) badR
  pl : ∀ d lw lc, (∀ a ∈ [d, lw, lc], a ∉ T) → lw ≠ lc → KnJ P w K mg base 3 "_law_place" ["draw", "most"] T d lw lc 1 42 plP plR
  tw : ∀ d lw lc, (∀ a ∈ [d, lw, lc], a ∉ T) → lw ≠ lc → KnJ P w K mg base 4 "_law_twin" ["draw", "wood"] T d lw lc 1 130 twP twR
end
section
variable {P : Program} {w : World} {K : PySem.W.Frag} {mg : Str → Option Value} {base : Heap} {T : List Addr} {CW CP CO f : Addr} {fd : FuncData}
theorem one_pre {ys : List Str} {R : List Nd} (g : Wd ys R) {B H : Hp} {v : V} (t : Tbs T H) (l : Le B H) (h : Dt K B v (wdD ys R)) {Q : VK} {E : XK} (q : ∀ v B' H', Up B H B' H' → Dt K B' v (wdD ys (canN R)) → Q v H') : spOneW K T CW lstF [v] H Q E :=
  ⟨rfl, t, B, wdD ys R, l, .cons h .nil, g.okd, (fun z => by rw [g.wd] at z; cases z), fun _ => ⟨.str "wood", tupS ys, R, rfl, g.ok, g.lt, g.n0, Nat.le_trans g.n13 (by decide), fun v B' H' u dv => q v B' H' u (by rw [lst_wd g] at dv; exact dv)⟩⟩
theorem ee_least {X : Cx} {a : Expr} {σ : L2.St} {H : Hp} {ys : List Str} {R : List Nd} {p pos : Pos} {j : Nat} (G : LsAt P w K mg base T CW f fd) (hr : Room j X.A) (hk : 7 ≤ j) (t : Tbs T H) (g : Wd ys R) (ha : EE X a σ H (wdD ys R))
    (eP : X.prog = P := by rfl) (ew : X.w = w := by rfl) (eK : X.K = K := by rfl) (em : X.mg = mg := by rfl) (eb : X.base = base := by rfl) (hg : Gl X "least" := by rfl) (he : starEach [a] X.env = (false, eval a X.env) :: starEach [] X.env := by rfl) (hpl : (backTo pos (starEach [] X.env)).any (·.1) = false := by rfl) : EE X (.Call (.Name "least" p) [a] [] pos) σ H (wdD ys (canN R)) := fun H1 l Q q => by
  subst eP ew eK em eb
  refine ⟨_, pe_call (E := fun _ _ _ => False) G.ok (hr.mono hk) hg G.m G.k G.b .nil (passes_call takes0 fun _ _ _ _ h => h) (pa_cons pe_w pa_nil he) (by decide) he hpl, ha H1 l _ fun v B2 H2 u2 dv => ?_⟩
  exact (one_pre (CW := CW) (E := fun _ _ _ => False) g ((t.le l).le u2.h) u2.s dv fun v B4 H4 u4 d4 => q v B4 H4 (u2.trans u4) d4 : spOneW X.K T CW lstF [v] H2 Q fun _ _ _ => False)
theorem ee_leastK {X : Cx} {a : Expr} {σ : L2.St} {H : Hp} {ys : List Str} {R : List Nd} {p pos k1 : Pos} {j : Nat} (G : LsAt P w K mg base T CW f fd) (hr : Room j X.A) (hk : 7 ≤ j) (t : Tbs T H) (g : Wd ys R) (ha : EE X a σ H (wdD ys R))
    (eP : X.prog = P := by rfl) (ew : X.w = w := by rfl) (eK : X.K = K := by rfl) (em : X.mg = mg := by rfl) (eb : X.base = base := by rfl) (hg : Gl X "least" := by rfl)
    (hall : (backToKw pos (keywordEach [⟨some "wood", a, k1⟩] X.env)).all (·.1.isSome) = true := by rfl) (hks : (backToKw pos (keywordEach [⟨some "wood", a, k1⟩] X.env)).filterMap (·.1) = (["wood"] : List Str) := by rfl) (hpl : (backToKw pos (keywordEach [⟨some "wood", a, k1⟩] X.env)).any (·.1.isNone) = false := by rfl) :
    EE X (.Call (.Name "least" p) [] [⟨some "wood", a, k1⟩] pos) σ H (wdD ys (canN R)) := fun H1 l Q q => by
  subst eP ew eK em eb
  refine ⟨_, pe_callK0 (E := fun _ _ _ => False) G.ok (hr.mono hk) hg G.m G.k G.kb (passes_call takes0 fun _ _ _ _ h => h) (pk_cons pe_w pk_nil) hall hks (by decide) hpl, ha H1 l _ fun v B2 H2 u2 dv => ?_⟩
  exact (one_pre (CW := CW) (E := fun _ _ _ => False) g ((t.le l).le u2.h) u2.s dv fun v B4 H4 u4 d4 => q v B4 H4 (u2.trans u4) d4 : spOneW X.K T CW lstF [v] H2 Q fun _ _ _ => False)
theorem ee_within {X : Cx} {a b : Expr} {σ : L2.St} {H : Hp} {ys : List Str} {R : List Nd} {ps : List PyData} {p pos : Pos} {j : Nat} (G : WiAt P w K mg base T CW CP) (hr : Room j X.A) (hk : 7 ≤ j) (t : Tbs T H) (g : Wd ys R) (hp1 : ps.length ≤ 40) (hp2 : ∀ p ∈ ps, p = .int 0 ∨ p = .int 1) (ha : EE X a σ H (wdD ys R)) (hb : EE X b σ H (.tuple ps))
    (eP : X.prog = P := by rfl) (ew : X.w = w := by rfl) (eK : X.K = K := by rfl) (em : X.mg = mg := by rfl) (eb : X.base = base := by rfl) (hg : Gl X "within" := by rfl)
    (he : starEach [a, b] X.env = (false, eval a X.env) :: starEach [b] X.env := by rfl) (he2 : starEach [b] X.env = (false, eval b X.env) :: starEach [] X.env := by rfl) (hpl : (backTo pos (starEach [b] X.env)).any (·.1) = false := by rfl) : EE X (.Call (.Name "within" p) [a, b] [] pos) σ H (.tuple [.str "wood", tupS ys, .tuple (walkL R (comeR R ps))]) := fun H1 l Q q => by
  subst eP ew eK em eb
  obtain ⟨fa, fd, G0, m1, m2, bi⟩ := G.ex
  have pB : placeB (.tuple ps) = true := by
    show (true && ps.all fun x => numB x 2) = true
    rw [Bool.true_and]
    exact List.all_eq_true.mpr fun x hx => by rcases hp2 x hx with rfl | rfl <;> rfl
  have okp : okD (.tuple ps) = true := by
    show (decide (ps.length ≤ 100000) && okDs ps) = true
    rw [decide_eq_true (show ps.length ≤ 100000 by omega), okDs_of fun x hx => by rcases hp2 x hx with rfl | rfl <;> rfl]
    rfl
  refine ⟨_, pe_call (E := fun _ _ _ => False) G0 (hr.mono hk) hg m1 m2 bi .nil (passes_call takes0 fun _ _ _ _ h => h) (pa_cons pe_w (pa_cons pe_w pa_nil he2) he) (by decide) he hpl, ha H1 l _ fun v B2 H2 u2 dv => hb.mono u2.b H2 u2.s _ fun v2 B3 H3 u3 dv2 => ?_⟩
  have u := u2.trans u3
  exact (⟨rfl, (t.le l).le u.h, B3, wdD ys R, .tuple ps, u.s, .cons (Dt.le u3.b dv) (.cons dv2 .nil), g.okd, okp, (fun z => by rw [g.wd] at z; cases z), (fun _ z => by rw [pB] at z; cases z), fun _ _ => ⟨.str "wood", tupS ys, R, ps, rfl, rfl, g.ok, g.n0, Nat.le_trans g.n13 (by decide), ⟨by omega, hp2⟩, fun v B4 H4 u4 d4 => q v B4 H4 (u.trans u4) (by
    have e2 : wthF [wdD ys R, .tuple ps] = .tuple [.str "wood", tupS ys, .tuple (walkL R (comeR R ps))] := by
      show PyData.tuple [.str "wood", tupS ys, .tuple (walkL ((R.map ndD).map ndOf) (comeR ((R.map ndD).map ndOf) ps))] = _
      rw [ndOf_map]
    rw [e2] at d4
    exact d4)⟩⟩ : spTwo X.K T CW CP wthF [v, v2] H3 Q fun _ _ _ => False)
theorem ee_parting {X : Cx} {a b : Expr} {σ : L2.St} {H : Hp} {ys : List Str} {R S : List Nd} {p pos : Pos} {j : Nat} (G : PtAt P w K mg base T CW CO) (hr : Room j X.A) (hk : 8 ≤ j) (t : Tbs T H) (g : Wd ys R) (h : Wd ys S) (ha : EE X a σ H (wdD ys R)) (hb : EE X b σ H (wdD ys S))
    (eP : X.prog = P := by rfl) (ew : X.w = w := by rfl) (eK : X.K = K := by rfl) (em : X.mg = mg := by rfl) (eb : X.base = base := by rfl) (hg : Gl X "parting" := by rfl)
    (he : starEach [a, b] X.env = (false, eval a X.env) :: starEach [b] X.env := by rfl) (he2 : starEach [b] X.env = (false, eval b X.env) :: starEach [] X.env := by rfl) (hpl : (backTo pos (starEach [b] X.env)).any (·.1) = false := by rfl) : EE X (.Call (.Name "parting" p) [a, b] [] pos) σ H (partV R S) := fun H1 l Q q => by
  subst eP ew eK em eb
  obtain ⟨fa, fd, G0, m1, m2, bi⟩ := G.ex
  refine ⟨_, pe_call (E := fun _ _ _ => False) G0 (hr.mono hk) hg m1 m2 bi .nil (passes_call takes0 fun _ _ _ _ h => h) (pa_cons pe_w (pa_cons pe_w pa_nil he2) he) (by decide) he hpl, ha H1 l _ fun v B2 H2 u2 dv => hb.mono u2.b H2 u2.s _ fun v2 B3 H3 u3 dv2 => ?_⟩
  have u := u2.trans u3
  have es : PyData.eqv (scpD (wdD ys R)) (scpD (wdD ys S)) = true := (eqv_tupS ys)
  exact (⟨rfl, (t.le l).le u.h, B3, wdD ys R, wdD ys S, u.s, .cons (Dt.le u3.b dv) (.cons dv2 .nil), g.okd, h.okd, (fun z => by rw [g.wd] at z; cases z), (fun _ z => by rw [h.wd] at z; cases z), (fun _ _ z => by rw [es] at z; cases z), fun _ _ _ => ⟨.str "wood", tupS ys, R, .str "wood", tupS ys, S, rfl, rfl, g.two h, fun v B4 H4 u4 d4 => q v B4 H4 (u.trans u4) d4⟩⟩ : spTw2 X.K T CW CO partV [v, v2] H3 Q fun _ _ _ => False)
theorem ee_lparting {X : Cx} {a b : Expr} {σ : L2.St} {H : Hp} {ys : List Str} {R S : List Nd} {p pos : Pos} {j : Nat} (F : Kn P w K mg base 2 "_law_parting" ["one", "other"] (spTwN K T partV)) (hr : Room j X.A) (hk : 2 ≤ j) (t : Tbs T H) (g : Wd ys R) (h : Wd ys S) (ha : EE X a σ H (wdD ys R)) (hb : EE X b σ H (wdD ys S))
    (eP : X.prog = P := by rfl) (ew : X.w = w := by rfl) (eK : X.K = K := by rfl) (em : X.mg = mg := by rfl) (eb : X.base = base := by rfl) (hg : Gl X "_law_parting" := by rfl)
    (he : starEach [a, b] X.env = (false, eval a X.env) :: starEach [b] X.env := by rfl) (he2 : starEach [b] X.env = (false, eval b X.env) :: starEach [] X.env := by rfl) (hpl : (backTo pos (starEach [b] X.env)).any (·.1) = false := by rfl) : EE X (.Call (.Name "_law_parting" p) [a, b] [] pos) σ H (partV R S) := fun H1 l Q q => by
  subst eP ew eK em eb
  obtain ⟨fa, fd, m1, m2, G0, bi⟩ := F.ex
  refine ⟨_, pe_call (E := L2.E0) G0 (hr.mono hk) hg m1 m2 bi .nil pass0 (pa_cons pe_w (pa_cons pe_w pa_nil he2) he) (by decide) he hpl, ha H1 l _ fun v B2 H2 u2 dv => hb.mono u2.b H2 u2.s _ fun v2 B3 H3 u3 dv2 => ?_⟩
  have u := u2.trans u3
  exact (⟨rfl, (t.le l).le u.h, B3, .str "wood", tupS ys, R, .str "wood", tupS ys, S, u.s, .cons (Dt.le u3.b dv) (.cons dv2 .nil), g.two h, fun v B4 H4 u4 d4 => q v B4 H4 (u.trans u4) d4⟩ : spTwN X.K T partV [v, v2] H3 Q _)
def isNo : PyData → Bool
  | .none => true
  | _ => false
theorem rr_isNo {K : PySem.W.Frag} {H : Hp} {d : PyData} : RR K (fun x y H Q => y = .non ∧ Q (.bl (decide (x = .non))) H) H d .none (.bool (isNo d)) := fun B H1 l l1 x y hx hy Q q => by
  cases hy
  refine ⟨rfl, ?_⟩
  have e : decide (x = .non) = isNo d := by cases hx <;> rfl
  rw [e]
  exact q _ B H1 (Up.refl l1) (.bl _)
theorem rr_notNo {K : PySem.W.Frag} {H : Hp} {d : PyData} : RR K (fun x y H Q => y = .non ∧ Q (.bl (!decide (x = .non))) H) H d .none (.bool (!isNo d)) := fun B H1 l l1 x y hx hy Q q => by
  cases hy
  refine ⟨rfl, ?_⟩
  have e : decide (x = .non) = isNo d := by cases hx <;> rfl
  rw [e]
  exact q _ B H1 (Up.refl l1) (.bl _)
theorem rr_neB {K : PySem.W.Frag} {H : Hp} {i j : Bool} : RR K rNe H (.bool i) (.bool j) (.bool (!decide (i = j))) := fun B H1 l l1 x y hx hy Q q => by
  cases hx
  cases hy
  refine ⟨rfl, ?_⟩
  have e : decide (V.bl i = V.bl j) = decide (i = j) := by cases i <;> cases j <;> rfl
  rw [e]
  exact q _ B H1 (Up.refl l1) (.bl _)
end
end K0


set_option Elab.async false
set_option linter.all false
set_option maxRecDepth 100000
set_option maxHeartbeats 2000000
/-! Er0: a caught error that leaves its suite as a value: its object is tracked from there on. -/
namespace Er
open PySem PySem.Spec PyProof.Rows L2
/-- an error of the class cls stands at a -/
def ErrO (cls : Value) (d : Option Addr) (a : Addr) : HO := .ext fun h => ∃ (oe : Obj) (vs : Array Value), h.get? a = some oe ∧ Zc cls d oe ∧ oe.data = .fields vs
theorem err_ok {P : Program} {w : World} {H : Hp} {h : Heap} {a : Addr} {cls : Value} {d : Option Addr} {oe : Obj} {vs : Array Value} (e : h.get? a = some oe) (z : Zc cls d oe) (hd : oe.data = .fields vs) : ObjOk P w H h a (ErrO cls d a) :=
  ⟨⟨oe, vs, e, z, hd⟩, ⟨oe, e⟩, fun _ _ ⟨o, v, q, r⟩ k => ⟨o, v, k o q, r⟩⟩
section
variable {X : Cx} {pins : List (Addr × Obj)} {σ : L2.St} {H : Hp} {s : Shared} {a : Addr} {oe : Obj}
/-- what was pinned is tracked -/
theorem track (I : L2.Inv X ((a, oe) :: pins) σ H s) (h0 : X.s_0.heap.get? a = none) (np : ∀ p ∈ X.pn ++ pins, p.1 ≠ a) {φ : Heap → Prop} (new : ObjOk X.prog X.w (upd H a (.ext φ)) s.heap a (.ext φ)) : L2.Inv X pins σ (upd H a (.ext φ)) s := by
  obtain ⟨p1, p2, p3, p4, p5⟩ := I.pin (a, oe) (List.mem_append_right _ List.mem_cons_self)
  have off : ∀ {b : Addr} {o : HO}, H b = some o → b ≠ a := fun e z => by
    rw [z] at e
    have p2' : H a = none := p2
    rw [p2'] at e
    cases e
  refine ⟨I.ok, I.os, I.bare, ⟨I.base.keep, I.base.slot, fun b o e n hx => ?_, I.base.there, fun b xs e => ?_, fun b o u e => ?_, fun b ps e => ?_⟩, I.loc, I.cell, ?_, fun x c e => ?_, fun p hp => ?_, fun b u e => ?_, I.len⟩
  · rw [upd_ne fun z => by rw [z, h0] at e; cases e]
    exact I.base.free b o e n hx
  · have q := I.base.tups b xs e
    rw [upd_ne (off q)]
    exact q
  · have q := I.base.frzs b o u e
    rw [upd_ne (off q)]
    exact q
  · obtain ⟨more, q⟩ := I.base.tbls b ps e
    exact ⟨more, by rw [upd_ne (off q)]; exact q⟩
  · rw [upd_ne fun z => p3 z.symm]
    exact I.free
  · obtain ⟨v, o, ho, hd⟩ := I.cell x c e
    rw [upd_ne fun z => by
      rw [z] at ho
      have p1' : s.heap.get? a = some oe := p1
      rw [p1'] at ho
      cases ho
      exact p5 v hd]
    exact I.freeC x c e
  · have hp' : p ∈ X.pn ++ ((a, oe) :: pins) := by
      rcases List.mem_append.mp hp with z | z
      · exact List.mem_append_left _ z
      · exact List.mem_append_right _ (List.mem_cons_of_mem _ z)
    obtain ⟨q1, q2, q3⟩ := I.pin p hp'
    exact ⟨q1, by rw [upd_ne (np p hp)]; exact q2, q3⟩
  · by_cases hb : b = a
    · subst hb
      rw [upd_same] at e
      cases e
      exact new
    · rw [upd_ne hb] at e
      exact (I.hok b u e).stay (fun c v _ q => q) (fun c q => by rw [upd_ne (off q)]; exact q) fun c xs q => by rw [upd_ne (off q)]; exact q
theorem unsuiteP {pn' : List (Addr × Obj)} (I : L2.Inv (X.suite a ((a, oe) :: (X.pn ++ pins))) [] σ H s) (ok : X.Ok) : L2.Inv X ((a, oe) :: pins) σ H s :=
  ⟨ok, I.os, I.bare, I.base, I.loc, I.cell, I.free, I.freeC, fun p hp => I.pin p (by
    rw [List.append_nil]
    rcases List.mem_append.mp hp with z | z
    · exact List.mem_cons_of_mem _ (List.mem_append_left _ z)
    · rcases List.mem_cons.mp z with z | z
      · rw [z]; exact List.mem_cons_self
      · exact List.mem_cons_of_mem _ (List.mem_append_right _ z)), I.hok, I.len⟩
end
end Er


set_option Elab.async false
set_option linter.all false
set_option maxRecDepth 100000
set_option maxHeartbeats 2000000
namespace Er
open PySem PySem.Spec PyProof.Rows L2
section
variable {X : Cx} {x n : Str} {c : Value} {i : Nat} {body : List Stmt} {b₀ : Stmt} {suite : List Stmt} {np pos pos' : Pos} {tb : WX → TS} {ts : Addr → Value → Option Addr → TS} {Wout : WX}
/-- a suite that ends of itself: from then on the error is tracked -/
def wAsT (K : PySem.W.Frag) (c : Value) (i : Nat) (ts : Addr → Value → Option Addr → TS) (Wout : WX) (nn : Nat) (D : Ends) : WX := fun cls d σ H =>
  ∃ b, PySem.W.exmOne K cls c = some b ∧ (b = true → σ.length = nn → ∀ a, H a = none → ts a cls d { nx := fun σ' H' => D.nx (σ'.set i none) (upd H' a (ErrO cls d a)), rt := fun _ _ => False } (σ.set i (some (.ref a))) H) ∧ (b = false → Wout cls d σ H)
theorem ps_try_T (hex : X.ex = []) (hs : X.stack = X.env :: X.outer) (hf : X.env.frame = some X.env.locals) (hN : X.N.Nodup) (hi : X.N[i]? = some n) (hln : X.env.kindOf n = some .local) (hc : Names X x c) (tk : Takes X Wout)
    (hb : ∀ (W : WX) (pn : List (Addr × Obj)) (xe : Value → Shared → Prop), Takes (X.tr pn xe) W → PassesOwn (model X.prog X.w) X.A X.env xe → PSs (X.tr pn xe) body (tb W))
    (hsu : ∀ (a : Addr) (oe : Obj) (cls : Value) (d : Option Addr) (pn : List (Addr × Obj)), PSs (X.suite a ((a, oe) :: pn)) (b₀ :: suite) (ts a cls d)) :
    PS X (.Try body [.ExceptHandler (some (.Name x np)) (some n) (b₀ :: suite) pos'] [] [] pos) (fun D σ H => tb (wAsT X.K c i ts Wout X.N.length D) D σ H) := by
  refine ⟨fun pins s σ H D I h => ?_⟩
  have ok := I.ok
  have hfr : X.A.frames = some (X.env :: X.outer) := by rw [ok.frames, hs]
  refine wpAny_Try_except (wpAny_mono ((hb (wAsT X.K c i ts Wout X.N.length D) (X.pn ++ pins) (fun e s₁ => wpAny (model X.prog X.w) X.A (noteFrame e X.env) (fun _ s₂ => wpAny (model X.prog X.w) X.A (setFlight e none) (fun _ s₃ =>
    wpAny (model X.prog X.w) X.A (handleBy e X.env [.ExceptHandler (some (.Name x np)) (some n) (b₀ :: suite) pos']) (SP X pins D) X.xe s₃) X.xe s₂) X.xe s₁) (fun u s' xx => ?_) PassesOwn.looking).run [] s σ H D (I.toTry _) h) (fun f s1 hsp => ?_) fun e s1 he => he)
  · obtain ⟨a, B, sI, pins', σ', H', cls, d, rfl, J', nb, up, sky, na, os, ag, b, hb1, hyes, hno⟩ := xx
    have J : L2.Inv X pins σ' H' sI := J'.ofTry ok
    have sky' : Sky B (X.env :: X.outer) a (Zc cls d) X.env.locals s'.heap := by rw [← hs]; exact sky
    refine Sky.land Zc.steady hfr hf sky' fun h3 fl3 up3 => ?_
    have J3 : L2.Inv X pins σ' H' { s' with heap := h3 } := J.landed nb fl3.1 (up.trans up3) os ag
    obtain ⟨oe3, vs3, he3, hz3, hd3⟩ := fl3.there
    have nfr : a ∉ frs (X.env :: X.outer) := fun hm => by
      obtain ⟨_, o', e', hnf⟩ := fl3.2.2.1.mem hm
      rw [he3] at e'
      cases e'
      exact hnf _ hd3
    have nL : a ≠ X.env.locals := fun z => nfr (List.mem_filterMap.mpr ⟨X.env, List.mem_cons_self, by rw [hf, z]⟩)
    have nF : a ∉ X.fs := fun hm => by
      obtain ⟨e, he, q⟩ := List.mem_filterMap.mp hm
      exact nfr (List.mem_filterMap.mpr ⟨e, List.mem_cons_of_mem _ he, q⟩)
    have nI : sI.heap.get? a = none := by
      cases e : sI.heap.get? a with
      | none => rfl
      | some o =>
        have q := nb a o e (by rw [hs]; exact nfr)
        have q2 : B.get? a = none := fl3.2.1
        rw [q2] at q
        cases q
    have n0 : X.s_0.heap.get? a = none := by
      cases e : X.s_0.heap.get? a with
      | none => rfl
      | some o =>
        obtain ⟨o', q⟩ := J.base.there a o e (by rw [hex]; exact List.not_mem_nil)
        rw [nI] at q
        cases q
    have npin : ∀ p ∈ X.pn ++ pins, p.1 ≠ a := fun p hp z => by
      have q := (J.pin p hp).1
      rw [z, nI] at q
      cases q
    have S3 := J3.suite he3 hd3 na nL nF
    refine wpAny_handleBy_cons (codeAny_handlers_test ?_) (by intro q; cases q)
    have LT : PySem.W.Looks (model X.prog X.w) h3 (typeOf (.ref a)) cls := fun A Q E s k q => wpAny_typeOf_ref (k _ _ he3) (by rw [hz3.1]; exact q)
    have test : ∀ {Q : Value → Shared → Prop} {E : Value → Shared → Prop}, Q c { s' with heap := h3 } → wpAny (model X.prog X.w) (X.A.mark (some (.ref a))) (eval (.Name x np) X.env) Q E { s' with heap := h3 } := fun {Q E} q => by
      obtain ⟨hg, hdbg, hm | ⟨hm, hv, hnn⟩⟩ := hc
      · exact ld_glob (X := X.suite a ((a, oe3) :: (X.pn ++ pins))) S3 hg hm q hdbg
      · exact ld_blt (X := X.suite a ((a, oe3) :: (X.pn ++ pins))) S3 hg hm hv q hnn hdbg
    refine test ((PySem.W.exm_one (M := model X.prog X.w) J3.kIn LT hb1).here ?_)
    cases b with
    | true =>
      refine codeAny_handlers_suite_as (HandSPX.lands_againZ fl3 fun h4 fl4 up4 => ?_)
      have J4 : L2.Inv X pins σ' H' { s' with heap := h4 } := J.landed nb fl4.1 ((up.trans up3).trans up4) os ag
      obtain ⟨oe4, vs4, he4, hz4, hd4⟩ := fl4.there
      refine store_ok (X := X.suite a ((a, oe4) :: (X.pn ++ pins))) (v := .ref a) (J4.suite he4 hd4 na nL nF) hN hi (.inl hln) rfl (fun s5 S5 => ?_) (.inr hln)
      refine wpAny_mono ((hsu a oe4 cls d (X.pn ++ pins)).run [] s5 _ H' _ S5 (hyes rfl J.len a na)) (fun f s6 hsp => ?_) fun _ _ z => False.elim z
      cases f with
      | next =>
        obtain ⟨σ6, H6, S6, q6⟩ := hsp
        refine gone_ok (unsuiteP (pn' := []) S6 ok) hN hi hln fun s7 J7 => ?_
        have h7 := (J7.pin (a, oe4) (List.mem_append_right _ List.mem_cons_self)).1
        exact ⟨_, _, track J7 n0 npin (err_ok h7 hz4 hd4), q6⟩
      | brk =>
        obtain ⟨_, _, _, q6⟩ := hsp
        exact False.elim q6
      | cont =>
        obtain ⟨_, _, _, q6⟩ := hsp
        exact False.elim q6
      | ret u =>
        obtain ⟨_, _, _, _, _, q6⟩ := hsp
        exact False.elim q6
    | false =>
      show wpAny _ X.A (handleBy (.ref a) X.env []) _ _ _
      refine wpAny_handleBy_nil ?_
      obtain ⟨k1, k2, k3, oe, vs, T, oT, ts', he, hz, hd, h1, hr⟩ := id fl3
      unfold PySem.passOn
      refine wpAny_bind (wpAny_field he hd h1 ?_)
      rw [if_neg (show ¬ ((Value.ref T == Value.none) = true) from by simp)]
      have fin : wpAny (model X.prog X.w) X.A (setFlight (.ref a) X.env.frame) (fun _ s4 => wpAny (model X.prog X.w) X.A (throw (.ref a) : Sem Flow) (SP X pins D) X.xe s4) X.xe { s' with heap := h3 } := by
        rw [hf]
        refine HandSPX.setFlight_upZ fl3 fun h4 hh4 up4 => wpAny_throw (tk _ _ ?_)
        exact ⟨a, B, sI, pins, σ', H', cls, d, rfl, J, nb, (up.trans up3).trans up4, .inr (.inr (by rw [hs]; exact hh4)), na, os, ag, hno rfl⟩
      first
        | exact wpAny_bind (wpAny_pure (wpAny_bind fin))
        | exact wpAny_bind fin
  · cases f with
    | next =>
      obtain ⟨σ', H', J', q⟩ := hsp
      exact wpAny_execs_nil ⟨σ', H', J'.ofTry ok, q⟩
    | brk =>
      obtain ⟨σ', H', J', q⟩ := hsp
      exact ⟨σ', H', J'.ofTry ok, q⟩
    | cont =>
      obtain ⟨σ', H', J', q⟩ := hsp
      exact ⟨σ', H', J'.ofTry ok, q⟩
    | ret u =>
      obtain ⟨v, σ', H', J', r, q⟩ := hsp
      exact ⟨v, σ', H', J'.ofTry ok, r, q⟩
/-- isinstance of an error that is tracked -/
def rIsT (K : PySem.W.Frag) : List V → Hp → VK → Prop := fun xs H Q => ∃ (a D : Addr) (c : V) (cv : Value) (b : Bool), xs = [.ref a, c] ∧ H a = some (ErrO (.ref D) none a) ∧ ExcC K D ∧ (∀ u, RelV c u → u = cv) ∧ PySem.W.kitOne K (.ref D) cv = some b ∧ Q (.bl b) H
theorem call_isT : CallR X (.builtin "isinstance") (rIsT X.K) := by
  intro pins s σ H xs us Q I r h
  obtain ⟨a, D, c, cv, b, rfl, ha, C, hcv, e, q⟩ := h
  cases r with
  | cons rx rr =>
    cases rr with
    | cons rt rr =>
      cases rr
      cases rx
      have ec := hcv _ rt
      subst ec
      obtain ⟨⟨oe, vs, hget, hz, hv⟩, _, _⟩ := I.hok a _ ha
      have J : PySem.W.InstAt s.heap a oe D none := by
        obtain ⟨oc, od, oda, osl⟩ := oe
        obtain ⟨h1, h2⟩ := hz
        dsimp only at h1 h2 hv
        subst h1 h2 hv
        exact ⟨hget, rfl, rfl, trivial⟩
      exact PySem.W.kia_one (PySem.W.handS_kitx_exc C.hg C.hk C.hs C.hd C.ha C.hn C.ht C.hm) I.kIn J e (fun z => nomatch z) fun tk => ⟨.bl b, H, I.kept (t' := tk) fun _ _ z => z, rfl, q⟩
end
end Er


set_option Elab.async false
set_option linter.all false
set_option maxRecDepth 100000
set_option maxHeartbeats 2000000
namespace Er
open PySem PySem.Spec PyProof.Rows L2 LamX
/-- error = None; try: a() / except x as n: error = n; return error -/
def TTcaught (K : PySem.W.Frag) (CB : Addr) : (XK → Hp → VK → Prop) → Hp → VK → Prop := fun tl H Q =>
  tl (fun cls d H' => PySem.W.exmOne K cls (.ref CB) = some true ∧ ∀ a, H' a = none → Q (.ref a) (upd H' a (ErrO cls d a))) H fun _ H' => ∃ v, (some (some V.non) : Option (Option V)) = some (some v) ∧ Q v H'
theorem caught_gives {X : Cx} {x q : Str} {g CB : Addr} {cdg : Value} (hq : x = "_law_caught") (hme : X.mg "BoughError" = some (.ref CB)) (hex : True) :
    GivesTo X ["work", "error", "caught"] x (defScope (K0.t__law_caught)) g cdg (defBody (K0.t__law_caught)) "work" q (TTcaught X.K CB) := by
  subst hq
  intro f c' s H Q tl act hc h
  have nd : List.Nodup (["work", "error", "caught"] : List Str) := by decide +kernel
  refine ⟨_, pss_cons (ps_set (i := 1) nd rfl (Or.inl rfl) pe_non) (pss_cons (ps_try_T (X := (cxOf C8.CX0 X.prog X.w X.K X.mg X.base ["work", "error", "caught"] "_law_caught" (defScope (K0.t__law_caught)) g cdg X.A X.stack s H C8.E0).nox) (i := 2) (c := .ref CB)
      (tb := fun W D σ H => ∃ Ech : XK, (∀ cls d σ' H', Ech cls d H' → W cls d σ' H') ∧ σ[0]? = some (some (.ref f)) ∧ H c' = some (CodeO c' q) ∧ tl Ech H fun _ H' => D.nx σ H')
      rfl rfl rfl nd rfl rfl ⟨rfl, by decide, .inl hme⟩ L2.takes0 (fun W pn xe tk _ => ?_) (fun a oe cls d pn => pss_one (ps_set (i := 1) nd rfl (Or.inl rfl) (pe_var (i := 2) rfl (Or.inl rfl))))) (pss_one (ps_ret (pe_var (i := 1) rfl (Or.inl rfl))))), ?_⟩
  · refine ⟨fun pins s' σ H' D I h' => ?_⟩
    obtain ⟨Ech, hW, h1, h2, h3⟩ := h'
    exact (pss_one (ps_expr (act W pn xe Ech _ _ tk hW))).run pins s' σ H' D I ⟨h1, h2, h3⟩
  · refine ⟨fun cls d H' => PySem.W.exmOne X.K cls (.ref CB) = some true ∧ ∀ a, H' a = none → Q (.ref a) (upd H' a (ErrO cls d a)), fun cls d σ' H' ⟨e1, e2⟩ => ⟨true, e1, fun _ hl a na => ?_, fun z => by cases z⟩, rfl, hc, ?_⟩
    · have hl : σ'.length = 3 := hl
      match σ', hl with
      | [s1, s2, s3], _ => exact ⟨_, rfl, _, rfl, e2 a na⟩
    · exact h
end Er


set_option Elab.async false
set_option linter.all false
set_option maxRecDepth 100000
set_option maxHeartbeats 2000000
/-! Er3: a lambda handed to a def: only its maker's table and new objects change. -/
namespace Er
open PySem PySem.Spec PyProof.Rows L2 LamX
/-- all but the table at P stays -/
structure Ext1 (P : Addr) (H H1 : Hp) : Prop where
  keep : ∀ b o, b ≠ P → H b = some o → H1 b = some o
  there : ∀ b, H1 b = none → H b = none
theorem Ext1.refl (P : Addr) (H : Hp) : Ext1 P H H := ⟨fun _ _ _ e => e, fun _ e => e⟩
section
variable {X : Cx} {pins : List (Addr × Obj)} {σ : L2.St} {H : Hp} {s : Shared}
theorem lam_make3 {c P : Addr} {params : Arguments} {body : Expr} {scope : Scope} {pos : Pos} {E : Value → Shared → Prop} {Q : Value → Shared → Prop} (I : L2.Inv X pins σ H s) (TB : LamX.TabB X.base X.mg c P) (hcode : X.env.code = .ref c)
    (hT : TabS H P (X.env.qual ++ "<lambda>")) (hdef : defaultsOf params X.env = ([], [])) (hfree : ∀ y ∈ scope.names, y.2 = .free → ∃ c, X.env.cells.lookup y.1 = some c)
    (h : ∀ (f c' : Addr) (pm ctv : Value) (H1 : Hp) (s' : Shared), L2.Inv X pins σ H1 s' → Ext1 P H H1 → TabS H1 P (X.env.qual ++ "<lambda>") →
      s'.heap.get? f = some (PySem.W.kla_obj "<lambda>" (X.env.qual ++ "<lambda>") params body scope (cloFrom X.env.cells scope.names []) pm c' ctv) → H1 f = none → f ∉ frs X.stack → H1 c' = some (CodeO c' (X.env.qual ++ "<lambda>")) → Q (.ref f) s') :
    wpAny (model X.prog X.w) X.A (eval (.Lambda params body scope pos) X.env) Q E s := by
  obtain ⟨ps, hP, ht, ha⟩ := hT
  have bP : s.heap.BuiltinsAt X.mg P := TB.bm.keeps I.bk
  have hP' : s.heap.get? P = some { cls := .none, data := .fields ps } := I.hok P _ hP
  have nofr : ∀ f, s.heap.objs.size ≤ f → f ∉ frs X.stack := fun f hf z => by
    rcases List.mem_cons.mp (I.stkSub _ z) with e | e
    · have h1 := I.lt
      rw [← e] at h1
      exact Nat.lt_irrefl _ (Nat.lt_of_lt_of_le h1 hf)
    · exact I.nofs hf e
  refine PySem.W.kla_eval hdef ?_
  cases hc : codeAmong pos ps.toList with
  | some cv =>
    obtain ⟨c', e, hco⟩ := ha pos cv hc
    subst e
    refine PySem.W.kla_makeFunctionHit (mg := X.mg) (c := c) (P := P) (ps := ps) (closure_ok hfree) I.ok.glob (I.mod.glob.keeps I.bk) hcode (TB.code.keeps I.bk) hP' ht hc bP fun ctv h' tk hx hsz => ?_
    exact h h'.objs.size c' ((X.mg "__name__").getD .none) ctv H _ (I.kept (t' := tk) fun b o e => Heap.get?_push_of_some _ (hx b o e)) (Ext1.refl P H) ⟨ps, hP, ht, ha⟩ (Heap.get?_push_size _ rfl) (I.hok.fresh hsz) (nofr _ hsz) hco
  | none =>
    refine PySem.W.kla_makeFunction (mg := X.mg) (c := c) (P := P) (ps := ps) (closure_ok hfree) I.ok.glob (I.mod.glob.keeps I.bk) hcode (TB.code.keeps I.bk) hP' ht hc TB.gP bP fun c' ctv h' tk hx hge hlt hrec htb => ?_
    obtain ⟨c2, oc, vs, t, e2, hoc, hd, hv⟩ := hrec
    cases e2
    have hsz : s.heap.objs.size ≤ h'.objs.size := Nat.le_trans hge (Nat.le_of_lt hlt)
    have nC : H c' = none := I.hok.fresh hge
    have kept : ∀ b o, b ≠ P → H b = some o → (upd (upd H P (.tbl (ps ++ #[rawInt pos.line, rawInt pos.col, .ref c']))) c' (CodeO c' (X.env.qual ++ "<lambda>"))) b = some o := fun b o hb e => by
      rw [upd_ne (ne_of_none e nC), upd_ne hb]
      exact e
    have offP : ∀ {b : Addr} {q : Str}, H b = some (CodeO b q) → b ≠ P := fun e z => by
      rw [z, hP] at e
      exact codeO_ne ps (Option.some.inj e).symm
    refine h h'.objs.size c' ((X.mg "__name__").getD .none) ctv _ _ (inv_table (t' := tk) (more := #[rawInt pos.line, rawInt pos.col, .ref c']) (h' := h'.push (PySem.W.kla_obj "<lambda>" (X.env.qual ++ "<lambda>") params body scope (cloFrom X.env.cells scope.names []) ((X.mg "__name__").getD .none) c' ctv)) I hP
      (fun b o hb e => Heap.get?_push_of_some _ (hx b o hb e)) (Heap.get?_push_of_some _ htb) hge ⟨oc, vs, t, Heap.get?_push_of_some _ hoc, hd, hv⟩) ⟨kept, fun b e => ?_⟩ ⟨_, by rw [upd_ne (ne_of_none hP nC), upd_same], ?_, fun p' cv hcv => ?_⟩ (Heap.get?_push_size _ rfl) ?_ (nofr _ hsz) upd_same
    · by_cases z : b = c'
      · rw [z, upd_same] at e
        cases e
      · rw [upd_ne z] at e
        by_cases y : b = P
        · rw [y, upd_same] at e
          cases e
        · rw [upd_ne y] at e
          exact e
    · rw [Array.toList_append]
      exact PySem.TriplesOk_snoc _ _ _ _ ht
    · rw [Array.toList_append] at hcv
      rcases among_app _ ht hcv with z | z
      · obtain ⟨c0, e1, e2⟩ := ha p' cv z
        exact ⟨c0, e1, kept _ _ (offP e2) e2⟩
      · exact ⟨c', z, upd_same⟩
    · rw [upd_ne (Nat.ne_of_gt hlt), upd_ne (Nat.ne_of_gt (Nat.lt_of_lt_of_le (Heap.lt_size hP') hsz))]
      exact I.hok.fresh hsz
def tLam1 (P : Addr) (q : Str) (TT : (XK → Hp → VK → Prop) → Hp → VK → Prop) (t : XK → TE) : TE := fun σ H Q => TabS H P q ∧ ∀ H1, Ext1 P H H1 → TabS H1 P q → TT (fun E H' Q' => t E σ H' Q') H1 Q
/-- x(lambda: body) -/
theorem pe_lamcall1 {TT : (XK → Hp → VK → Prop) → Hp → VK → Prop} {x a : Str} {g c P : Addr} {k : Nat} {pg : Arguments} {bg : List Stmt} {sg : Scope} {dV kV doc pm cdv ct oc : Value} {an od : Option Addr} {osl : Array (Option Value)} {Ng : List Str}
    {params : Arguments} {body : Expr} {scope : Scope} {t : XK → TE} {p lpos pos : Pos} (hg : Gl X x) (hm : X.mg x = some (.ref g)) (hk : PySem.W.keepIn X.K (.ref g) = true)
    (lk : X.K.lookup g = some ⟨oc, od, .func (PySem.W.fnOf x x pg bg sg dV kV doc pm an cdv ct), osl⟩) (hcg : PySem.W.codeIn X.K cdv x = true) (hb : L2.Binds X.K (PySem.W.fnOf x x pg bg sg dV kV doc pm an cdv ct) [a] []) (Sg : FnScope Ng [a] sg) (hNg : Ng[0]? = some a) (hva : Vis sg a)
    (hG : GivesTo X Ng x sg g cdv bg a (X.env.qual ++ "<lambda>") TT) (TB : LamX.TabB X.base X.mg c P) (hcode : X.env.code = .ref c) (hr : Room (k + 2) X.A) (L : LamS X.env.scope scope) (hdef : defaultsOf params X.env = ([], []))
    (hbind : ∀ (q : Str) (cl : List (Str × Addr)) (pm cv ctv : Value), bindArgs (PySem.W.kla_fn "<lambda>" q params body scope cl pm cv ctv) ⟨[], []⟩ = pure [])
    (hbody : ∀ (A : Around) (outer : List Env) (s : Shared) (H : Hp) (E : XK) (f c' : Addr), Room k (A.deeper (lamEnv X scope s.heap.objs.size f c')) → PE (lamCx X A outer s H E scope f c') body (t E))
    (hdb : (x == ("__debug__" : Str)) = false := by decide) (hd : (a == ("__debug__" : Str)) = false := by decide) (hcd : (a == ("__classdict__" : Str)) = false := by decide) :
    PE X (.Call (.Name x p) [.Lambda params body scope lpos] [] pos) (tLam1 P (X.env.qual ++ "<lambda>") TT t) := by
  refine ⟨fun pins s σ H Q I h => ?_⟩
  obtain ⟨hT, h⟩ := h
  refine wpAny_Call_Name_kw (ld_glob I hg hm ?_ hdb)
  refine PySem.W.callWith_K (h₀ := X.base) I.ok.mod.kin hk ?_ (by rfl) (by rfl)
  show wpAny _ _ (spliced ((false, eval (.Lambda params body scope lpos) X.env) :: backTo pos (starEach [] X.env))) _ _ s
  refine Calls.spliced_cons (lam_make3 I TB hcode hT hdef (L.has I.ok) fun f c' pm' ctv H1 s' I1 e1 T1 hf hfn hfr hco => Calls.spliced_nil ⟨I1.kIn, ?_⟩)
  have rc : codeAny (model X.prog X.w) X.A (.call (.ref g) ⟨[.ref f], []⟩) (CR C8.CX0 X.stack X.prog X.w H1 s' Q C8.E0) s' := by
    refine run_ofS (N := Ng) (ps := [a]) (us := [.ref f]) (vs := [.ref f]) lk hcg Sg hr I1.env0 (hb s' [.ref f] I1.kIn rfl) (.cons rfl .nil) rfl fun hr' => ?_
    obtain ⟨t', ht', hq'⟩ := hG f c' s' H1 Q (fun E H' Q' => t E σ H' Q') (fun W pn xe E p1 p2 tk hW => pe_act (i := 0) I1 L hf hfn hfr (hbind _ _ _ _ _) tk hW hr' (fun A outer s H hr2 => hbody A outer s H E f c' hr2) hNg hva hd hcd) hco (h H1 e1 T1)
    exact ⟨t', ht'.nox, hq'⟩
  refine wpAny_call (codeAny_mono rc fun r s2 hq => ?_)
  match r, hq with
  | .error e, hq => exact (show False from hq).elim
  | .ok (.ret u), hq => exact I1.after hq
end
end Er


set_option Elab.async false
set_option linter.all false
set_option maxRecDepth 100000
set_option maxHeartbeats 4000000
/-! EL: isinstance(_law_caught(lambda: least(bad)), BadWood) of what is no wood. -/
namespace Er
open PySem PySem.Spec PyProof.Rows L2 LamX GxR Tk
variable [LamTab]
/-- behind it: the table at P and new objects apart all stays -/
structure Lc (P : Addr) (H H3 : Hp) : Prop where
  keep : ∀ b o, b ≠ P → H b = some o → (∀ ps, o = .tbl ps → LamTab.is b) → H3 b = some o
  tab : ∀ P', P' ≠ P → TabG H P' → TabG H3 P'
  there : ∀ b, H3 b = none → H b = none
section
variable {P0 : Program} {w : World} {K : PySem.W.Frag} {mg : Str → Option Value} {base : Heap} {T : List Addr} {C CB : Addr}
theorem Ext1.le {P : Addr} {B H H1 : Hp} (l : Le B H) (e : Ext1 P H H1) (hB : B P = none) : Le B H1 :=
  ⟨fun a o q n => e.keep a o (fun z => by rw [z, hB] at q; cases q) (l.keep a o q n), fun P' t => by
    obtain ⟨ps, q, r⟩ := l.tab P' t
    exact ⟨ps, e.keep P' _ (fun z => by
      obtain ⟨ps0, q0, _⟩ := t
      rw [z, hB] at q0
      cases q0) q, r⟩, fun a q => l.there a (e.there a q)⟩
theorem Ext1.tbs {P : Addr} {H H1 : Hp} (t : Tbs T H) (e : Ext1 P H H1) (hP : LamTab.is P) : Tbs T H1 := fun P' hP' => by
  obtain ⟨⟨ps, q, r⟩, n⟩ := t P' hP'
  exact ⟨⟨ps, e.keep P' _ (fun z => n (by rw [z]; exact hP)) q, r⟩, n⟩
/-- the call: letters raises, its error is caught and handed back -/
theorem caught_we {X : Cx} {g c P : Addr} {k i : Nat} {pg : Arguments} {dV kV doc pm cdv ct oc : Value} {an od : Option Addr} {osl : Array (Option Value)} {params : Arguments} {scope : Scope} {p lpos pos p3 p4 p5 : Pos} {σ : L2.St} {H B : Hp} {d : PyData} {v : V} {f : Addr} {fd : FuncData} {Q : VK}
    (eP : X.prog = P0) (ew : X.w = w) (eK : X.K = K) (em : X.mg = mg) (eb : X.base = base)
    (hg : Gl X "_law_caught") (hm : X.mg "_law_caught" = some (.ref g)) (hk : PySem.W.keepIn X.K (.ref g) = true)
    (lk : X.K.lookup g = some ⟨oc, od, .func (PySem.W.fnOf "_law_caught" "_law_caught" pg (defBody (K0.t__law_caught)) (defScope (K0.t__law_caught)) dV kV doc pm an cdv ct), osl⟩) (hcg : PySem.W.codeIn X.K cdv "_law_caught" = true) (hb : L2.Binds X.K (PySem.W.fnOf "_law_caught" "_law_caught" pg (defBody (K0.t__law_caught)) (defScope (K0.t__law_caught)) dV kV doc pm an cdv ct) ["work"] [])
    (Sg : FnScope ["work", "error", "caught"] ["work"] (defScope (K0.t__law_caught))) (hme : X.mg "BoughError" = some (.ref CB)) (hex : PySem.W.exmOne X.K (.ref C) (.ref CB) = some true)
    (TB : LamX.TabB X.base X.mg c P) (hcode : X.env.code = .ref c) (hr : Room (k + 2) X.A) (h5 : 7 ≤ k) (L : LamS X.env.scope scope) (hdef : defaultsOf params X.env = ([], []))
    (hbind : ∀ (q : Str) (cl : List (Str × Addr)) (pm cv ctv : Value), bindArgs (PySem.W.kla_fn "<lambda>" q params (.Call (.Name "least" p3) [.Name "bad" p4] [] p5) scope cl pm cv ctv) ⟨[], []⟩ = pure [])
    (G : FnOk P0 w K mg base (L2.CX P0 w) 7 f fd ["wood"] (K0.spOneW K T C K0.lstF)) (m1 : mg "least" = some (.ref f)) (m2 : PySem.W.keepIn K (.ref f) = true) (bi : Binds K fd ["wood"] [])
    (hlg : scope.names.lookup ("least" : Str) = some .globalImplicit) (hlo : scope.names.lookup ("bad" : Str) = some .free) (hNo : X.N[i]? = some ("bad" : Str)) (hσ : σ[i]? = some (some v)) (hd : Dt K B v d) (hok : okD d = true) (hs : K0.woodB d = false)
    (l : Le B H) (hB : B P = none) (hP : LamTab.is P) (t : Tbs T H) (hT : TabS H P (X.env.qual ++ "<lambda>"))
    (hQ : ∀ a H3, Lc P H H3 → TabS H3 P (X.env.qual ++ "<lambda>") → H3 a = some (ErrO (.ref C) none a) → Q (.ref a) H3) :
    WE X (.Call (.Name "_law_caught" p) [.Lambda params (.Call (.Name "least" p3) [.Name "bad" p4] [] p5) scope lpos] [] pos) σ H Q := by
  subst eP ew eK em eb
  have hbody : ∀ (A : Around) (outer : List Env) (s : Shared) (H : Hp) (E : XK) (f2 c' : Addr), Room k (A.deeper (lamEnv X scope s.heap.objs.size f2 c')) → PE (lamCx X A outer s H E scope f2 c') (.Call (.Name "least" p3) [.Name "bad" p4] [] p5) (tCall (K0.spOneW X.K T C K0.lstF) [] E (tCons (tVar i) tNil)) := fun A outer s H E f2 c' hr2 =>
    pe_call (CX := L2.CX X.prog X.w) (E := E) G (hr2.mono h5) (by exact hlg) m1 m2 bi .nil (passes_call (takes_of rfl rfl rfl rfl) fun _ _ _ _ h => h) (pa_cons (pe_var (X := lamCx X A outer s H E scope f2 c') (i := i) hNo (by exact Or.inr (Or.inr hlo))) pa_nil) (by decide) rfl rfl
  refine ⟨_, pe_lamcall1 (TT := TTcaught X.K CB) hg hm hk lk hcg hb Sg rfl (Or.inl rfl) (caught_gives rfl hme trivial) TB hcode hr L hdef hbind hbody, ?_⟩
  · refine ⟨hT, fun H1 e1 T1 => ⟨v, hσ, ?_⟩⟩
    refine ⟨rfl, e1.tbs t hP, B, d, e1.le l hB, .cons hd .nil, hok, fun _ H2 l2 => ⟨hex, fun a ha => hQ a _ ⟨fun b o hb q n => ?_, fun P' hP' tg => ?_, fun b q => ?_⟩ ?_ upd_same⟩, fun z => (by rw [hs] at z; cases z)⟩
    · have q2 := l2.keep b o (e1.keep b o hb q) n
      rw [upd_ne (ne_of_none q2 ha)]
      exact q2
    · obtain ⟨ps, q, r⟩ := tg
      obtain ⟨ps2, q2, r2⟩ := l2.tab P' ⟨ps, e1.keep P' _ hP' q, r⟩
      exact ⟨ps2, by rw [upd_ne (ne_of_none q2 ha)]; exact q2, r2⟩
    · by_cases z : b = a
      · rw [z, upd_same] at q
        cases q
      · rw [upd_ne z] at q
        exact e1.there b (l2.there b q)
    · obtain ⟨ps, q, r, ac⟩ := T1
      have q2 := l2.keep P _ q fun _ _ => hP
      refine ⟨ps, by rw [upd_ne (ne_of_none q2 ha)]; exact q2, r, fun p' cv hc => ?_⟩
      obtain ⟨c0, e0, e2⟩ := ac p' cv hc
      have q3 := l2.keep c0 _ e2 fun ps z => absurd z (codeO_ne ps)
      exact ⟨c0, e0, by rw [upd_ne (ne_of_none q3 ha)]; exact q3⟩
end
end Er


set_option Elab.async false
set_option linter.all false
set_option maxRecDepth 100000
set_option maxHeartbeats 4000000
/-! P1: what law rests on, its errors. -/
namespace Tk
open PySem PySem.Spec PyProof.Rows L2 GxR Gx
variable [LamTab]
theorem EAJ.weak {X : Cx} {D : List Addr} {J : Nat → Hp → Prop} {es : List Expr} {σ : L2.St} {B : Hp} {n : Nat} {RA RB : List PyData → Prop} (h : EAJ X D J es σ B n RA) (k : ∀ ds, RA ds → RB ds) : EAJ X D J es σ B n RB := fun m H1 l ap j Q q => h m H1 l ap j Q fun vs ds B2 H2 u jj dv r => q vs ds B2 H2 u jj dv (k ds r)
end Tk
namespace K0
open PySem PySem.Spec PyProof.Rows L2 GxR Tk
variable [LamTab]
abbrev sLaw : Stmt := t_law
def NL : List Str := ["script", "draw", "turn", "one", "twin", "due", "other", "place", "bad"]
def turnBody : List Stmt := match defBody sLaw with
  | [_, .For _ _ b _ _, _] => b
  | _ => []
theorem scLaw : FnScope NL ["script"] (defScope sLaw) := ⟨rfl, rfl, rfl, by decide +kernel, rfl, by decide +kernel, by decide +kernel⟩
theorem ndLaw : List.Nodup NL := by decide +kernel
theorem turn_len : turnBody.length = 10 := by decide +kernel
def lamQ : Str := "law.<locals>.<lambda>"
section
variable (P : Program) (w : World) (K : PySem.W.Frag) (mg : Str → Option Value) (base : Heap) (CW cL PL : Addr)
/-- a class of errors, as law knows it -/
structure ErrC (x : Str) (C : Addr) : Prop where
  m : mg x = some (.ref C)
  exc : ExcC K C
  kit : PySem.W.kitOne K (.ref C) (.ref C) = some true
  ex : ∃ CB, mg "BoughError" = some (.ref CB) ∧ PySem.W.exmOne K (.ref C) (.ref CB) = some true
structure FactsC : Prop where
  caught : ∃ g fd, L2.Fun K "_law_caught" "_law_caught" t__law_caught g fd ∧ mg "_law_caught" = some (.ref g) ∧ Binds K fd ["work"] []
  cw : ErrC K mg "BadWood" CW
  tb : LamX.TabB base mg cL PL
  is : LamTab.is PL
end
section
variable {P : Program} {w : World} {K : PySem.W.Frag} {mg : Str → Option Value} {base : Heap} {T : List Addr} {f C cL PL : Addr} {qn : Str}
theorem scCaught : FnScope ["work", "error", "caught"] ["work"] (defScope t__law_caught) := ⟨rfl, rfl, rfl, by decide +kernel, rfl, by decide +kernel, by decide +kernel⟩
theorem lc_le {B H H3 : Hp} (l : Le B H) (c : Er.Lc PL H H3) (hB : B PL = none) : Le B H3 :=
  ⟨fun a o q n => c.keep a o (fun z => by rw [z, hB] at q; cases q) (l.keep a o q n) n, fun P' t => c.tab P' (fun z => by
    obtain ⟨ps, q, _⟩ := t
    rw [z, hB] at q
    cases q) (l.tab P' t), fun a q => l.there a (c.there a q)⟩
theorem lc_dj {d lw lc : Addr} {n : Nat} {H H3 : Hp} (j : DJ d lw lc n H) (c : Er.Lc PL H H3) (hT : LamX.TabS H PL qn) : DJ d lw lc n H3 := by
  obtain ⟨ws, cs, r, t, h1, h2, h3, h4, h5⟩ := j
  obtain ⟨ps, q, _⟩ := hT
  have off : ∀ {b : Addr} {o : HO}, H b = some o → (∀ ps, o ≠ .tbl ps) → b ≠ PL := fun e n z => by
    rw [z, q] at e
    exact n ps (Option.some.inj e).symm
  exact ⟨ws, cs, r, t, c.keep _ _ (off h1 fun _ z => by cases z) h1 (fun _ z => by cases z), c.keep _ _ (off h2 fun _ z => by cases z) h2 (fun _ z => by cases z), c.keep _ _ (off h3 fun _ z => by cases z) h3 (fun _ z => by cases z), h4, h5⟩
theorem tabS_le {H H2 : Hp} {qn : Str} (x : Le H H2) (hP : LamTab.is PL) (h : LamX.TabS H PL qn) : LamX.TabS H2 PL qn := by
  obtain ⟨ps, q, r, ac⟩ := h
  refine ⟨ps, x.keep PL _ q fun _ _ => hP, r, fun p cv hc => ?_⟩
  obtain ⟨c, e1, e2⟩ := ac p cv hc
  exact ⟨c, e1, x.keep c _ e2 fun ps z => absurd z (LamX.codeO_ne ps)⟩
theorem upx_pl {D : List Addr} {B H B2 H2 : Hp} {qn : Str} (u : UpX D B H B2 H2) (hB : B PL = none) (hT : LamX.TabS H PL qn) (hP : LamTab.is PL) : B2 PL = none := by
  cases q : B2 PL with
  | none => rfl
  | some o =>
    rcases u.n PL (by rw [q]; simp) with z | z | ⟨_, z⟩
    · exact absurd hB z
    · obtain ⟨ps, e, _⟩ := hT
      rw [e] at z
      cases z
    · exact absurd hP z
theorem tabS_lex {d lw lc : Addr} {n : Nat} {H H2 : Hp} {PL : Addr} {qn : Str} (x : LeX [d, lw, lc] H H2) (jj : DJ d lw lc n H) (hP : LamTab.is PL) (h : LamX.TabS H PL qn) : LamX.TabS H2 PL qn := by
  obtain ⟨ps, q, r, ac⟩ := h
  obtain ⟨ws, cs, rr, t, h1, h2, h3, _⟩ := jj
  have off : ∀ {b : Addr} {o : HO}, H b = some o → (∀ kvs, o ≠ .dK kvs) → (∀ xs, o ≠ .lst xs) → b ∉ [d, lw, lc] := fun {b o} e n1 n2 hb => by
    rcases List.mem_cons.mp hb with z | z
    · rw [z, h1] at e; exact n1 _ (Option.some.inj e).symm
    rcases List.mem_cons.mp z with z | z
    · rw [z, h2] at e; exact n2 _ (Option.some.inj e).symm
    · rw [List.mem_singleton.mp z, h3] at e; exact n2 _ (Option.some.inj e).symm
  refine ⟨ps, x.keep PL _ (off q (fun _ z => by cases z) fun _ z => by cases z) q fun _ _ => hP, r, fun p cv hc => ?_⟩
  obtain ⟨c, e1, e2⟩ := ac p cv hc
  exact ⟨c, e1, x.keep c _ (off e2 (fun _ z => by unfold LamX.CodeO at z; cases z) fun _ z => by unfold LamX.CodeO at z; cases z) e2 fun ps z => absurd z (LamX.codeO_ne ps)⟩
theorem not_caught {X : Cx} {σ : L2.St} {H : Hp} {x : Str} {c : Expr} {p p2 pos pos2 : Pos} {Q : Bool → Hp → Prop} (BL : Blt mg) (G : ErrC K mg x C) (em : X.mg = mg) (eK : X.K = K)
    (hcall : ∀ Q : VK, (∀ a H3, Er.Lc PL H H3 → LamX.TabS H3 PL qn → H3 a = some (Er.ErrO (.ref C) none a) → Q (.ref a) H3) → WE X c σ H Q) (q : ∀ H3, Er.Lc PL H H3 → LamX.TabS H3 PL qn → Q false H3)
    (hg : Gl X "isinstance" := by rfl) (hx : Gl X x := by rfl) (hdb : (x == ("__debug__" : Str)) = false := by decide) (he : starEach [c, .Name x p2] X.env = (false, eval c X.env) :: starEach [.Name x p2] X.env := by rfl) (he2 : starEach [.Name x p2] X.env = (false, eval (.Name x p2) X.env) :: starEach [] X.env := by rfl) (hpl : (backTo pos (starEach [.Name x p2] X.env)).any (·.1) = false := by rfl) :
    WT X (.UnaryOp .Not (.Call (.Name "isinstance" p) [c, .Name x p2] [] pos) pos2) σ H Q := by
  subst em eK
  refine ⟨_, pt_not (pt_val (pe_callB Er.call_isT hg BL.isinstance boot_isi (pa_cons (pe_w (e := c)) (pa_cons (pe_glob (v := V.ref C) hx G.m rfl hdb) pa_nil he2) he) (by decide) (by decide) he hpl)), ?_⟩
  exact hcall _ fun a H3 lc tb ha => ⟨a, C, .ref C, .ref C, true, rfl, ha, G.exc, fun u r => r, G.kit, true, rfl, q H3 lc tb⟩
end
end K0


set_option Elab.async false
set_option linter.all false
set_option maxRecDepth 100000
set_option maxHeartbeats 4000000
/-! P2: a turn. -/
namespace K0
open PySem PySem.Spec PyProof.Rows L2 GxR Tk
variable [LamTab]
section
variable {P : Program} {w : World} {K : PySem.W.Frag} {mg : Str → Option Value} {base : Heap} {T : List Addr} {f f1 CW CP CO cL PL : Addr} {fd1 : FuncData}
theorem sh_can {ys : List Str} {R : List Nd} (g : Wd ys R) (h6 : R.length ≤ 6) : Sh 2829 4 (wdD ys (canN R)) := by
  have := sh_wood g.g (TB_ok g.ok) (by rw [TB_len]; exact chief_lt g.n0) (by rw [TB_len]; exact h6) (TB_lets (p := fun d => ∃ l : List Str, d = tupS l ∧ l.Sublist ys) g.hl) (s := chief R 0)
  show Sh 2829 4 (.tuple [.str "wood", tupS ys, .tuple ((canN R).map ndD)])
  rw [← canN_L g.ok g.n0]
  exact this
theorem can_shaped {ys : List Str} {R : List Nd} (g : Wd ys R) (h6 : R.length ≤ 6) : noDict (wdD ys (canN R)) = true ∧ SeqAt.shaped (wdD ys (canN R)) = true := by
  have s := sh_can g h6
  have n := nd_of _ s.nd
  refine ⟨n, ?_⟩
  unfold SeqAt.shaped
  rw [Bool.and_eq_true]
  exact ⟨okD_lay g.can.okd n, decide_eq_true (Nat.le_trans s.dp (by decide))⟩
theorem isNo_part {ys : List Str} {R S : List Nd} (g : Wd ys R) (h : Wd ys S) : isNo (partV R S) = true ↔ Bs R 0 S 0 := by
  rw [← part_none (g.two h) g.lt h.lt]
  cases partV R S <;> simp [isNo]
theorem turn_ok (FA : Facts P w K mg base T CW CP CO) (FC : FactsC K mg base CW cL PL) (N : LsAt P w K mg base T CW f1 fd1) {d lw lc : Addr} {cdv : Value} {A : Around} {outer : List Env} {s : Shared} {H0 : Hp} {E : XK} {j m : Nat} {s0 s2 s3 s4 s5 s6 s7 s8 : Option V} {B H : Hp} {D : L2.Ends}
    (hTD : ∀ a ∈ [d, lw, lc], a ∉ T) (hne : lw ≠ lc) (hr : Room j (A.deeper (envOfC "law" (defScope sLaw) s.heap.objs.size f cdv))) (hj : 10 ≤ j) (hgd : (A.deeper (envOfC "law" (defScope sLaw) s.heap.objs.size f cdv)).guards = some []) (hcd : cdv = .ref cL)
    (l : Le B H) (ap : Apt [d, lw, lc] B) (hB : B PL = none) (jj : DJ d lw lc (m + 320) H) (t : Tbs T B) (hT : LamX.TabS H PL lamQ)
    (q : ∀ s3 s4 s5 s6 s7 s8 B' H', Le B B' → Le B' H' → Apt [d, lw, lc] B' → B' PL = none → DJ d lw lc m H' → LamX.TabS H' PL lamQ → D.nx [s0, some (.ref d), s2, s3, s4, s5, s6, s7, s8] H') :
    WB (cxOf CX0 P w K mg base NL "law" (defScope sLaw) f cdv A outer s H0 E).nox turnBody D [s0, some (.ref d), s2, s3, s4, s5, s6, s7, s8] H := by
  have hu := hu64 hr
  have wdrawn : ∀ {ys : List Str} {rs : List PyData}, Drawn ys → woodRows (ys.map PyData.str) rs → ∃ R : List Nd, rs = R.map ndD ∧ Wd ys R ∧ R.length ≤ 6 := fun gD h => by
    obtain ⟨R, rfl, hR, h0, h6, hl, hw, ho⟩ := wood_drawn gD h
    exact ⟨R, rfl, ⟨gD, hR, h0, by omega, hl, hw, ho⟩, h6⟩
  -- one
  refine wb_cons (ws_setJ (i := 3) (m := m + 200) (n := 120) (R := fun r => ∃ ys rs, r = .tuple [.str "wood", tupS ys, .tuple rs] ∧ Drawn ys ∧ woodRows (ys.map PyData.str) rs) l ap jj ?_ (fun vw wd B1 H1 u1 j1 dw r1 => ?_) ndLaw)
  · refine (ej_call (i := 1) (n1 := 101 + (0 + 0)) (n := 19) (RA := fun ds => ∃ ys : List Str, ds = [tupS ys, .int 6] ∧ Drawn ys) cells_DJ (FA.wood d lw lc hTD hne) hr (by omega) t rfl ((eaj_cons cells_DJ (ej_call1 (d1 := .int 2) (i := 1) cells_DJ (FA.scope d lw lc hTD hne) hr (by omega) t rfl ee_int rfl) fun B3 l3 => eaj_cons cells_DJ (ej_pure (R := (· = .int 6)) cells_DJ ee_int rfl) fun B4 l4 => eaj_nil).weak fun ds h => ?_) fun ds h => ?_).weak cells_DJ (fun e h => ?_) (by omega)
    · obtain ⟨a, b, rfl, hs, c, e, rfl, rfl, rfl⟩ := h
      obtain ⟨ys, rfl, h1, h2, h3, h4⟩ := hs
      exact ⟨ys, rfl, h1, h2, h3, h4⟩
    · obtain ⟨ys, rfl, g⟩ := h
      exact ⟨⟨ys.map PyData.str, 6, rfl, by rw [List.length_map]; exact g.n3, by decide, by decide⟩, rfl⟩
    · obtain ⟨ds, ⟨ys, rfl, g⟩, xs, rs, k0, e0, rfl, h⟩ := h
      cases e0
      exact ⟨ys, rs, rfl, g, h⟩
  obtain ⟨ys, rs, rfl, gD, hrows⟩ := r1
  obtain ⟨R, rfl, g, h6⟩ := wdrawn gD hrows
  have ap1 := u1.apt cells_DJ jj ap
  have t1 := t.le u1.b
  have hB1 := upx_pl u1 hB hT FC.is
  have hT1 := tabS_lex u1.h jj FC.is hT
  -- twin, due
  show WB _ _ _ [s0, some (.ref d), s2, some vw, s4, s5, s6, s7, s8] H1
  refine wb_cons ⟨_, ps_par (i := 4) (j := 5) rfl ndLaw rfl rfl (by decide) rfl rfl pa_w rfl, ?_⟩
  refine (eaj_cons cells_DJ (ej_call1 (d1 := wdD ys R) (i := 1) cells_DJ (FA.tw d lw lc hTD hne) hr (by omega) t1 rfl (ee_var (i := 3) rfl dw) ⟨.str "wood", tupS ys, R, rfl, g.ok, g.n0, h6⟩) fun B' lb => eaj_cons cells_DJ (ej_pure (R := (· = wdD ys (canN R))) cells_DJ (ee_call (f := lstF) (ds := [wdD ys R]) FA.le hr (by omega) (t1.le lb) (ea_cons (ee_var (i := 3) rfl (Dt.le lb dw)) ea_nil) ⟨.str "wood", tupS ys, R, rfl, g.ok, g.lt, g.okL, g.n0, by omega⟩ (lst_wd g)) rfl) fun B' l => eaj_nil) (m + 70) H1 u1.s ap1 j1 _ fun vs ds B2 H2 u2 j2 dvs ra => ?_
  obtain ⟨e1, ds', rfl, ⟨_, _, R0, S, fS, eds, rfl, hS0, hS13, tw⟩, e2, ds'', rfl, rfl, rfl⟩ := ra
  have eds := List.head_eq_of_cons_eq eds
  injection eds with eds
  injection eds with _ eds
  injection eds with esc eds
  injection eds with eds _
  injection eds with eds
  have eR : R = R0 := by rw [← ndOf_map R, eds, ndOf_map]
  subst eR
  subst esc
  obtain ⟨vt, vd, rfl, dt, dd⟩ := ds2 dvs
  have gS : Wd ys S := g.twin tw hS0 hS13
  have bS : Bs S 0 R 0 := by
    have := tw.bs hS0
    rw [tw.z] at this
    exact this
  have ap2 := u2.apt cells_DJ j1 ap1
  have t2 := t1.le u2.b
  have hB2 := upx_pl u2 hB1 hT1 FC.is
  have hT2 := tabS_lex u2.h j1 FC.is hT1
  have dw2 := Dt.le u2.b dw
  have gc := g.can
  have shD := sh_can g h6
  have shL : Sh 8490 5 (.list [wdD ys (canN R), wdD ys (canN R), wdD ys (canN R)]) := sh_lst (n := 2829) (k := 4) (fun x hx => by
    simp only [List.mem_cons, List.not_mem_nil, or_false] at hx
    rcases hx with rfl | rfl | rfl <;> exact shD) (by show 2830 * 3 ≤ 8490; decide)
  refine ⟨_, _, rfl, ?_⟩
  show WB _ _ _ [s0, some (.ref d), s2, some vw, some vt, some vd, s6, s7, s8] H2
  -- least tells the due wood of all
  refine wb_cons (ws_if (B := B2) (k := false) u2.s (et_w (ew_or (p := false) (q := false) (ET.cast (et_cmp op_ne rr_neS
      (ee_reprD hgd hu FA.rp (ee_lst (ea_cons (ee_least N hr (by omega) t2 g (ee_var (i := 3) rfl dw2)) (ea_cons (ee_leastK N hr (by omega) t2 g (ee_var (i := 3) rfl dw2)) (ea_cons (EE.cast (ee_least N hr (by omega) t2 gS (ee_var (i := 4) rfl dt)) (can_eq gS g bS)) ea_nil))) (by show 3 ≤ sizeLine; decide)) shL (by decide) (by decide) (nd_of _ shL.nd) (.inl ⟨_, rfl⟩))
      (ee_reprD hgd hu FA.rp (ee_lst (ea_cons (ee_var (i := 5) rfl dd) (ea_cons (ee_var (i := 5) rfl dd) (ea_cons (ee_var (i := 5) rfl dd) ea_nil))) (by show 3 ≤ sizeLine; decide)) shL (by decide) (by decide) (nd_of _ shL.nd) (.inl ⟨_, rfl⟩))) (by simp))
      fun _ => ew_one2 (ET.cast (et_cmp op_isnot_bl rr_isnotB (ee_call (f := woodF) (d := .bool (woodB (wdD ys (canN R)))) FA.isW hr (by omega) t2 (ea_cons (ee_var (i := 5) rfl dd) ea_nil) ⟨_, rfl, gc.okd⟩) ee_bl) (by rw [gc.wd]; rfl)))) (fun e => by cases e) fun _ H3 l3 => wb_nil ?_)
  have j3 := cells_DJ.le _ _ _ j2 l3
  have hT3 := tabS_le l3 FC.is hT2
  have l23 := u2.s.trans l3
  -- other
  refine wb_cons (ws_setJ (i := 6) (m := m + 50) (n := 20) (R := fun r => ∃ rs, r = .tuple [.str "wood", tupS ys, .tuple rs] ∧ woodRows (ys.map PyData.str) rs) l23 ap2 j3 ?_ (fun vo od B4 H4 u4 j4 dO r4 => ?_) ndLaw)
  · refine (ej_call (i := 1) (n1 := 0 + (0 + 0)) (n := 19) (RA := (· = [tupS ys, .int 3])) cells_DJ (FA.wood d lw lc hTD hne) hr (by omega) t2 rfl ((eaj_cons cells_DJ (ej_pure (R := (· = tupS ys)) cells_DJ (ee_ix ix_tup (rr_ixT (d := tupS ys) (atI_nat (j := 1) rfl)) (ee_var (i := 3) rfl dw2) ee_int) rfl) fun B3 l3 => eaj_cons cells_DJ (ej_pure (R := (· = .int 3)) cells_DJ ee_int rfl) fun B4 l4 => eaj_nil).weak fun ds h => ?_) fun ds h => ?_).weak cells_DJ (fun e h => ?_) (by omega)
    · obtain ⟨a, b, rfl, rfl, c, e, rfl, rfl, rfl⟩ := h
      rfl
    · subst h
      exact ⟨⟨ys.map PyData.str, 3, rfl, by rw [List.length_map]; exact gD.n3, by decide, by decide⟩, rfl⟩
    · obtain ⟨ds, rfl, xs, rs, k0, e0, rfl, h⟩ := h
      cases e0
      exact ⟨rs, rfl, h⟩
  obtain ⟨ro, rfl, horows⟩ := r4
  obtain ⟨O, rfl, gO, o6⟩ := wdrawn gD horows
  have ap4 := u4.apt cells_DJ j3 ap2
  have t4 := t2.le u4.b
  have hB4 := upx_pl u4 hB2 hT3 FC.is
  have hT4 := tabS_lex u4.h j3 FC.is hT3
  have dw4 := Dt.le u4.b dw2
  have dd4 := Dt.le u4.b dd
  obtain ⟨nO, sO⟩ := can_shaped gO o6
  obtain ⟨nR, sR⟩ := can_shaped g h6
  have eqs : PyData.eqv (wdD ys (canN O)) (wdD ys (canN R)) = isNo (partV R O) := by
    rw [Bool.eq_iff_iff, eqv_key (keyD_wood gO.can.lt) (keyD_wood gc.lt), isNo_part g gO]
    constructor
    · intro e
      injection e with e
      injection e with _ e
      injection e with _ e
      injection e with e _
      injection e with e
      have e2 := (List.map_inj_right (fun a b h => ndD_inj h)).mp e
      exact ((canN_bs g.ok g.n0).symm.trans (by rw [← e2]; exact .refl)).trans (canN_bs gO.ok gO.n0)
    · intro b
      exact (can_eq g gO b).symm
  have pnone : isNo (partV (canN R) R) = true := (isNo_part gc g).mpr (canN_bs g.ok g.n0)
  show WB _ _ _ [s0, some (.ref d), s2, some vw, some vt, some vd, some vo, s7, s8] H4
  refine wb_cons (ws_if (B := B4) (k := false) u4.s (et_w (ew_or (p := false) (q := false) (ET.cast (et_cmp op_ne rr_neB (ee_cmp (op_eqD hu) (rr_eqD nO nR sO sR) (ee_least N hr (by omega) t4 gO (ee_var (i := 6) rfl dO)) (ee_var (i := 5) rfl dd4)) (ee_cmp op_isN rr_isNo (ee_lparting FA.lpt hr (by omega) t4 g gO (ee_var (i := 3) rfl dw4) (ee_var (i := 6) rfl dO)) ee_non)) (by rw [eqs]; simp))
      fun _ => ew_one2 (ET.cast (et_cmp op_notN rr_notNo (ee_parting FA.pt hr (by omega) t4 gc g (ee_var (i := 5) rfl dd4) (ee_var (i := 3) rfl dw4)) ee_non) (by rw [pnone]; rfl)))) (fun e => by cases e) fun _ H5 l5 => wb_nil ?_)
  have j5 := cells_DJ.le _ _ _ j4 l5
  have hT5 := tabS_le l5 FC.is hT4
  have l45 := u4.s.trans l5
  -- least of the least
  refine wb_cons (ws_if (B := B4) (k := false) l45 (ET.cast (et_cmp op_ne rr_neS
      (ee_reprD hgd hu FA.rp (EE.cast (ee_least N hr (by omega) t4 gc (ee_var (i := 5) rfl dd4)) (can_eq gc g (canN_bs g.ok g.n0))) shD (by decide) (by decide) (nd_of _ shD.nd) (.inr ⟨_, rfl⟩))
      (ee_reprD hgd hu FA.rp (ee_var (i := 5) rfl dd4) shD (by decide) (by decide) (nd_of _ shD.nd) (.inr ⟨_, rfl⟩))) (by simp)) (fun e => by cases e) fun _ H6 l6 => wb_nil ?_)
  have j6 := cells_DJ.le _ _ _ j5 l6
  have hT6 := tabS_le l6 FC.is hT5
  have l46 := l45.trans l6
  -- place
  refine wb_cons (ws_setJ (i := 7) (m := m + 8) (n := 42) (R := plR [.int 9]) l46 ap4 j6 (ej_call1 (d1 := .int 9) (i := 1) cells_DJ (FA.pl d lw lc hTD hne) hr (by omega) t4 rfl ee_int rfl) (fun vp pd B7 H7 u7 j7 dp r7 => ?_) ndLaw)
  obtain ⟨ps, rfl, hp1, hp2⟩ := r7
  have ap7 := u7.apt cells_DJ j6 ap4
  have t7 := t4.le u7.b
  have hB7 := upx_pl u7 hB4 hT6 FC.is
  have hT7 := tabS_lex u7.h j6 FC.is hT6
  have dw7 := Dt.le u7.b dw4
  have dd7 := Dt.le u7.b dd4
  have hx : comeR R ps < R.length := comeR_lt g.ok ps 0 g.n0
  have hxc : comeR (canN R) ps < (canN R).length := comeR_lt gc.ok ps 0 gc.n0
  have gw := g.walk (s := comeR R ps) hx
  have shP := sh_wood (s := comeR (canN R) ps) g.g gc.ok hxc (Nat.le_trans (canN_le g.ok g.n0) h6) gc.hl
  have eW : wdD ys (canN (walkN R (comeR R ps))) = .tuple [.str "wood", tupS ys, .tuple (walkL (canN R) (comeR (canN R) ps))] := by
    show PyData.tuple [.str "wood", tupS ys, .tuple ((canN (walkN R (comeR R ps))).map ndD)] = _
    rw [← canN_L gw.ok gw.n0, can_place g.ok g.n0, canL_eq gw.ok g.ok gw.n0 hx (walkN_root g.ok hx)]
  show WB _ _ _ [s0, some (.ref d), s2, some vw, some vt, some vd, some vo, some vp, s8] H7
  refine wb_cons (ws_if (B := B7) (k := false) u7.s (ET.cast (et_cmp op_ne rr_neS
      (ee_reprD hgd hu FA.rp (EE.cast (ee_least N hr (by omega) t7 gw (EE.cast (ee_within FA.wi hr (by omega) t7 g hp1 hp2 (ee_var (i := 3) rfl dw7) (ee_var (i := 7) rfl dp)) (by
        show PyData.tuple [.str "wood", tupS ys, .tuple (walkL R (comeR R ps))] = .tuple [.str "wood", tupS ys, .tuple ((walkN R (comeR R ps)).map ndD)]
        rw [walkL_N g.ok hx]))) eW) shP (by decide) (by decide) (nd_of _ shP.nd) (.inr ⟨_, rfl⟩))
      (ee_reprD hgd hu FA.rp (ee_within FA.wi hr (by omega) t7 gc hp1 hp2 (ee_var (i := 5) rfl dd7) (ee_var (i := 7) rfl dp)) shP (by decide) (by decide) (nd_of _ shP.nd) (.inr ⟨_, rfl⟩))) (by simp)) (fun e => by cases e) fun _ H8 l8 => wb_nil ?_)
  have j8 := cells_DJ.le _ _ _ j7 l8
  have hT8 := tabS_le l8 FC.is hT7
  have l78 := u7.s.trans l8
  -- bad
  refine wb_cons (ws_setJ (i := 8) (m := m) (n := 8) (R := (· ∈ bads)) l78 ap7 j8 ((ej_call (i := 1) cells_DJ (FA.bad d lw lc hTD hne) hr (by omega) t7 rfl eaj_nil fun ds h => ⟨h, by rw [h]; rfl⟩).weak cells_DJ (fun e h => by obtain ⟨_, _, h⟩ := h; exact h) (by omega)) (fun vb bd B9 H9 u9 j9 db hbd => ?_) ndLaw)
  have ap9 := u9.apt cells_DJ j8 ap7
  have t9 := t7.le u9.b
  have hB9 := upx_pl u9 hB7 hT8 FC.is
  have hT9 := tabS_lex u9.h j8 FC.is hT8
  have kb := (Bool.and_eq_true _ _).mp (List.all_eq_true.mp bads_ok bd hbd)
  obtain ⟨gg, fd, F, mgc, bi⟩ := FC.caught
  obtain ⟨oc, od', kV, doc, pm, an, cdv', ct, osl, rfl, lk, hcg⟩ := F.ex
  obtain ⟨CB, mB, hexW⟩ := FC.cw.ex
  show WB _ _ _ [s0, some (.ref d), s2, some vw, some vt, some vd, some vo, some vp, some vb] H9
  refine wb_one ⟨_, ps_if pt_w pss_w pss_w, not_caught (PL := PL) (qn := lamQ) FA.bl FC.cw rfl rfl (fun Q hQ => Er.caught_we (X := (cxOf CX0 P w K mg base NL "law" (defScope sLaw) f cdv A outer s H0 E).nox) (P0 := P) (w := w) (K := K) (mg := mg) (base := base) (T := T) (C := CW) (CB := CB) (g := gg) (c := cL) (P := PL) (k := 8) (i := 8) (d := bd) (v := vb) (f := f1) (fd := fd1) (B := B9) rfl rfl rfl rfl rfl rfl mgc F.kp lk hcg bi scCaught mB hexW FC.tb hcd (hr.mono (by omega)) (by omega)
    ⟨rfl, rfl, rfl, by decide +kernel, (show ∀ y ∈ ([("bad", NameKind.free), ("least", NameKind.globalImplicit)] : List (Str × NameKind)), y.2 = NameKind.free → List.lookup y.1 (defScope sLaw).names = some NameKind.cell ∨ List.lookup y.1 (defScope sLaw).names = some NameKind.free from by decide +kernel)⟩ rfl (fun _ _ _ _ _ => rfl) N.ok N.m N.k N.b rfl rfl rfl rfl db kb.2 (bno kb.1) u9.s hB9 FC.is (t9.le u9.s) hT9 hQ) fun H10 lc10 tb10 => ?_⟩
  show (if false = true then _ else WB _ [] _ _ H10)
  rw [if_neg Bool.false_ne_true]
  refine wb_nil ?_
  exact q _ _ _ _ _ _ B9 H10 (((((u1.b.trans u2.b).trans u4.b).trans u7.b).trans u9.b)) (lc_le u9.s lc10 hB9) ap9 hB9 (lc_dj j9 lc10 hT9) tb10
end
end K0


set_option Elab.async false
set_option linter.all false
set_option maxRecDepth 100000
set_option maxHeartbeats 2000000
/-! C0: the end of a law whose own body must know that nothing is being shown around it (repr): its run is asked at the caller alone. -/
namespace Cg
open PySem PySem.Spec PyProof.Rows L2
/-- what may be tracked where a law begins: an empty table of code, or a list as it stands -/
def Kind (h : Heap) (H : Hp) (b : Addr) : Prop :=
  (H b = some (.tbl #[]) ∧ h.get? b = some { cls := .none, data := .fields #[] } ∧ isCodeTable h b) ∨ ∃ o xs its n, H b = some (.frz o (.lst xs)) ∧ h.get? b = some o ∧ o.data = .seq its n
section
variable {P : Program} {w : World} {K : PySem.W.Frag} {mg mb : Str → Option Value} {H : Hp} {s : Shared}
/-- what was there is there still -/
theorem old_of {Q : VK} {u : Value} {s' : Shared} (kind : ∀ b, H b ≠ none → Kind s.heap H b) (c : CE [] P w H s Q u s') : OldK s.heap s'.heap := by
  obtain ⟨v, H2, _, _, un, ok2, _, _⟩ := c
  have still : ∀ b o, s.heap.get? b = some o → asItWas s.heap s'.heap b o := by
    intro b o at_b
    cases tr : H b with
    | none => exact .inl (un.keep b o at_b tr (fun z => by cases z) fun z => by cases z)
    | some u =>
      rcases kind b (by rw [tr]; simp) with ⟨k1, k2, k3⟩ | ⟨o', xs, its, n, k1, k2, _⟩
      · obtain ⟨more, g⟩ := un.tbls b _ k1
        have now := ok2 b _ g
        rw [k2] at at_b
        cases at_b
        exact .inr (.inl ⟨k3, rfl, #[], _, rfl, now⟩)
      · have now := (ok2 b _ (un.frzs b _ _ k1)).1
        rw [k2] at at_b
        cases at_b
        exact .inl now
  refine ⟨still, fun b o at_b => ?_⟩
  rcases still b o at_b with z | ⟨_, _, _, _, _, z⟩ | ⟨_, _, ⟨o', es, n, z, _⟩, _⟩
  · exact ⟨o, z⟩
  · exact ⟨_, z⟩
  · exact ⟨o', z⟩
/-- what is no table and no list is not tracked -/
theorem not_tr {b : Addr} {o : Obj} (kind : ∀ b, H b ≠ none → Kind s.heap H b) (e : s.heap.get? b = some o) (n1 : o.data ≠ .fields #[]) (n2 : ∀ its n, o.data ≠ .seq its n) : H b = none := by
  cases tr : H b with
  | none => rfl
  | some u =>
    exfalso
    rcases kind b (by rw [tr]; simp) with ⟨_, k2, _⟩ | ⟨o', xs, its, n, _, k2, k3⟩
    · rw [k2] at e
      cases e
      exact n1 rfl
    · rw [k2] at e
      cases e
      exact n2 _ _ k3
theorem ns_kept {b : Addr} {m : Str → Option Value} (kind : ∀ b, H b ≠ none → Kind s.heap H b) (x : s.heap.Ns b m) : (hidT s.heap H).Ns b m := by
  obtain ⟨o, es, ep, e, d, r⟩ := x
  have free := not_tr kind e (by rw [d]; simp) fun its n => by rw [d]; simp
  exact ⟨o, es, ep, hidT_get e free, d, r⟩
theorem env_at (kin : K.In s.heap) (kinH : ∀ b, H b ≠ none → K.lookup b = none) (kind : ∀ b, H b ≠ none → Kind s.heap H b) (hok : HOk P w H s.heap) (g1 : s.heap.Ns mainGlobals mg) (g2 : s.heap.Ns builtinsNs mb) (g3 : ∀ x : Str, x ≠ "__name__" → mb x = bootBuiltins x) (g4 : s.heap.NoLimit) (g5 : s.gens = #[]) :
    Env0 P w K mg (hidT s.heap H) callerA [] s H := by
  have inK : K.In (hidT s.heap H) := by
    intro b o e
    refine hidT_get (kin b o e) ?_
    cases tr : H b with
    | none => rfl
    | some u =>
      rw [kinH b (by rw [tr]; simp)] at e
      cases e
  obtain ⟨mc, c1, c2⟩ := g4
  exact
    { frames := rfl
      mod := ⟨inK, ns_kept kind g1, ⟨mb, ns_kept kind g2, g3⟩, ⟨mc, ns_kept kind c1, c2⟩⟩
      bs := fun b o e => of_hidT e
      bsz := Nat.le_of_eq (hidT_size _ _)
      funs := trivial
      frf := fun b hb => by cases hb
      hok := hok
      bare := .of_eq g5 }
theorem tab_at {c Pt : Addr} (kind : ∀ b, H b ≠ none → Kind s.heap H b) (g1 : s.heap.Ns mainGlobals mg) (C : PySem.W.CodeHd s.heap c Pt) (T : s.heap.get? Pt = some { cls := .none, data := .fields #[] })
    (bm : ∃ (m : Addr) (ob : Obj), mg "__builtins__" = some (.ref m) ∧ m ≠ builtinsNs ∧ s.heap.get? m = some ob ∧ ob.cls = .type "module" ∧ ob.dict = some builtinsNs ∧ ob.data = .plain) : LamX.TabB (hidT s.heap H) mg c Pt := by
  obtain ⟨og, es, ep, atG, dG, _⟩ := g1
  have gP : mainGlobals ≠ Pt := fun z => by
    rw [z, T] at atG
    cases atG
    cases dG
  refine ⟨?_, ?_, gP⟩
  · obtain ⟨o, vs, file, tf, flags, tg, inF, text, tt, r1, r2, r3, r4, r5, r6, r7, r8, r9⟩ := C
    refine ⟨o, vs, file, tf, flags, tg, inF, text, tt, hidT_get r1 (not_tr kind r1 (fun z => ?_) fun its n z => ?_), r2, r3, r4, r5, r6, r7, r8, r9⟩
    · rw [r3] at z
      cases z
      simp at r4
    · rw [r3] at z
      cases z
  · obtain ⟨m, ob, a1, a2, a3, a4, a5, a6⟩ := bm
    refine ⟨m, ob, a1, a2, fun z => ?_, fun z => ?_, hidT_get a3 (not_tr kind a3 (by rw [a6]; simp) fun its n => by rw [a6]; simp), a4, a5, a6⟩
    · rw [z, atG] at a3
      cases a3
      rw [dG] at a6
      cases a6
    · rw [z, T] at a3
      cases a3
      cases a6
end
end Cg


set_option Elab.async false
set_option linter.all false
set_option maxRecDepth 100000
set_option maxHeartbeats 2000000
namespace Cg
open PySem PySem.Spec PyProof.Rows L2
/-- what is asked of a law: its run from the caller -/
def RunAt (P : Program) (w : World) (K : PySem.W.Frag) (mg : Str → Option Value) (base : Heap) (fa : Addr) (fd : FuncData) (x : Str) (sp : Sp) : Prop :=
  ∀ (H : Hp) (s : Shared) (us : List Value) (vs : List V) (Q : VK) (E : XK), Env0 P w K mg base callerA [] s H → BindsTo s fd ⟨us, []⟩ ([x].zip us) → Vals vs us → sp vs H Q E → codeAny (model P w) callerA (.call (.ref fa) ⟨us, []⟩) (CR C8.CX0 [] P w H s Q E) s
theorem law_call {P : Program} {w : World} {K : PySem.W.Frag} {mg mb : Str → Option Value} {fa a : Addr} {cs : List (Addr × Addr)} {fd : FuncData} {x : Str} {sp : Sp} {s : Shared} {vs : List Value} {ns : List Int}
    (kin : K.In s.heap) (g1 : s.heap.Ns mainGlobals mg) (g2 : s.heap.Ns builtinsNs mb) (g3 : ∀ x : Str, x ≠ "__name__" → mb x = bootBuiltins x) (g4 : s.heap.NoLimit) (g5 : s.gens = #[])
    (tabs : ∀ p ∈ cs, PySem.W.CodeHd s.heap p.1 p.2 ∧ s.heap.get? p.2 = some { cls := .none, data := .fields #[] }) (noK : ∀ p ∈ cs, K.lookup p.2 = none)
    (bm : ∃ (m : Addr) (ob : Obj), mg "__builtins__" = some (.ref m) ∧ m ≠ builtinsNs ∧ s.heap.get? m = some ob ∧ ob.cls = .type "module" ∧ ob.dict = some builtinsNs ∧ ob.data = .plain)
    (at_a : s.heap.get? a = some { cls := .type "list", data := .seq vs.toArray }) (are : IntsAre vs ns) (short : ns.length ≤ sizeLine)
    (F : ∀ base : Heap, K.In base → base.Ns mainGlobals mg → (∀ p ∈ cs, LamX.TabB base mg p.1 p.2) → RunAt P w K mg base fa fd x sp) (bind : ∀ (s : Shared) (u : Value), BindsTo s fd ⟨[u], []⟩ [(x, u)])
    (start : ∀ H : Hp, (∀ p ∈ cs, H p.2 = some (.tbl #[])) → SqL K H a (ns.map V.int) → sp [.ref a] H (fun v _ => v = .bl true) fun _ _ _ => False) :
    codeAny (model P w) callerA (.call (.ref fa) ⟨[.ref a], []⟩) (fun r s' => r = .ok (.ret (.bool true)) ∧ OldK s.heap s'.heap ∧ s'.os = s.os ∧ AllBare s'.gens) s := by
  have rv := vals_ints are
  have len := are.length
  have tabAt : ∀ b, b ∈ cs.map (·.2) → s.heap.get? b = some { cls := .none, data := .fields #[] } ∧ isCodeTable s.heap b ∧ K.lookup b = none := by
    intro b hb
    obtain ⟨p, hp, rfl⟩ := List.mem_map.mp hb
    obtain ⟨c1, c2⟩ := tabs p hp
    exact ⟨c2, (c1.tab c2).isCodeTable, noK p hp⟩
  have aNot : a ∉ cs.map (·.2) := fun z => by
    have e := (tabAt a z).1
    rw [at_a] at e
    cases congrArg Obj.data (Option.some.inj e)
  -- what is tracked from the beginning
  let H : Hp := fun b => if b ∈ cs.map (·.2) then some (.tbl #[]) else if b = a ∧ K.lookup a = none then some (.frz { cls := .type "list", data := .seq vs.toArray } (.lst (ns.map V.int))) else none
  have Htab : ∀ p ∈ cs, H p.2 = some (.tbl #[]) := fun p hp => if_pos (List.mem_map.mpr ⟨p, hp, rfl⟩)
  have cases3 : ∀ b, (b ∈ cs.map (·.2) ∧ H b = some (.tbl #[])) ∨ (b = a ∧ K.lookup a = none ∧ H b = some (.frz { cls := .type "list", data := .seq vs.toArray } (.lst (ns.map V.int)))) ∨ H b = none := by
    intro b
    by_cases h1 : b ∈ cs.map (·.2)
    · exact .inl ⟨h1, if_pos h1⟩
    · by_cases h2 : b = a ∧ K.lookup a = none
      · exact .inr (.inl ⟨h2.1, h2.2, (if_neg h1).trans (if_pos h2)⟩)
      · exact .inr (.inr ((if_neg h1).trans (if_neg h2)))
  have kind : ∀ b, H b ≠ none → Kind s.heap H b := by
    intro b hb
    rcases cases3 b with ⟨h1, h2⟩ | ⟨rfl, _, h2⟩ | h2
    · obtain ⟨t1, t2, _⟩ := tabAt b h1
      exact .inl ⟨h2, t1, t2⟩
    · exact .inr ⟨_, _, _, _, h2, at_a, rfl⟩
    · exact absurd h2 hb
  have kinH : ∀ b, H b ≠ none → K.lookup b = none := by
    intro b hb
    rcases cases3 b with ⟨h1, _⟩ | ⟨rfl, h1, _⟩ | h2
    · exact (tabAt b h1).2.2
    · exact h1
    · exact absurd h2 hb
  have hok : HOk P w H s.heap := by
    intro b u hu
    rcases cases3 b with ⟨h1, h2⟩ | ⟨rfl, _, h2⟩ | h2
    · rw [h2] at hu
      cases hu
      exact (tabAt b h1).1
    · rw [h2] at hu
      cases hu
      exact ⟨at_a, by rw [List.length_map]; exact short, vs, _, rv, at_a⟩
    · rw [h2] at hu
      cases hu
  have seq : SqL K H a (ns.map V.int) := by
    cases hk : K.lookup a with
    | none => exact .inl (.inr ⟨_, (if_neg aNot).trans (if_pos ⟨rfl, hk⟩)⟩)
    | some o =>
      have e := kin a o hk
      rw [at_a] at e
      cases e
      exact .inr ⟨_, vs.toArray, _, hk, rfl, rfl, rfl, by rw [List.size_toArray, len]; exact short, by simpa using rv⟩
  have env := env_at (P := P) (w := w) kin kinH kind hok g1 g2 g3 g4 g5
  have run := F (hidT s.heap H) env.mod.kin env.mod.glob (fun p hp => tab_at kind g1 (tabs p hp).1 (tabs p hp).2 bm) H s [.ref a] [.ref a] _ _ env (bind s (.ref a)) (.cons rfl .nil) (start H Htab seq)
  refine codeAny_mono run fun r s' h => ?_
  cases r with
  | error e => exact (show False from h).elim
  | ok fl =>
    cases fl with
    | ret u =>
      have c : CE [] P w H s _ u s' := h
      have old := old_of kind c
      obtain ⟨v, _, os, bare, _, _, ru, rfl⟩ := c
      obtain rfl : u = Value.bool true := ru
      exact ⟨rfl, old, os, bare⟩
    | next => exact False.elim h
    | brk => exact False.elim h
    | cont => exact False.elim h
/-- the end, told of each def of the view whose code it is and that its table is empty -/
theorem walk_at {l : PySem.W.OpenLaw} {n : Nat} {q : Program} {loose : List Str} {XP : (Str → Option Value) → Heap → Prop} {YP : World → Heap → Prop} {dl : DefRec}
    {K : Params → PySem.W.Frag} {x : Str} (m1 : l.most = some n) (m2 : n ≤ sizeLine) (nd : dl.params.defaults = [])
    (inY : ∀ (w : World) (h : Heap), YP w h → (K w.params).In h)
    (F : ∀ (w : World) (mg : Str → Option Value) (fa : Addr) (h : Heap), YP w h → (K w.params).In h → h.Ns mainGlobals mg → mg dl.name = some (.ref fa) →
      (∀ (y : Str) (c P : Addr) (d' : DefRec), ((recsOf q).find? fun e => e.name == y) = some d' → PySem.W.tabIn (K w.params) y = some (c, P) → PySem.W.CodeHd h c P ∧ h.get? P = some { cls := .none, data := .fields #[] }) →
      ∃ (fd : FuncData) (cs : List (Addr × Addr)) (sp : Sp), (∀ p ∈ cs, PySem.W.CodeHd h p.1 p.2 ∧ h.get? p.2 = some { cls := .none, data := .fields #[] }) ∧ (∀ p ∈ cs, (K w.params).lookup p.2 = none) ∧ (∀ (s : Shared) (u : Value), BindsTo s fd ⟨[u], []⟩ [(x, u)]) ∧
        (∀ (H : Hp) (a : Addr) (ns : List Int), ns.length ≤ n → (∀ p ∈ cs, H p.2 = some (.tbl #[])) → SqL (K w.params) H a (ns.map V.int) → sp [.ref a] H (fun v _ => v = .bl true) fun _ _ _ => False) ∧
        ∀ base : Heap, (K w.params).In base → base.Ns mainGlobals mg → (∀ p ∈ cs, LamX.TabB base mg p.1 p.2) → RunAt l.prog w (K w.params) mg base fa fd x sp) :
    PySem.W.WalkO q loose XP YP l.row.toRowW dl [] (fun f vs => PySem.call f vs) := by
  refine Att.attach_callB m1 nd ?_
  intro w sa sb mg mb fa o pm cd doc a vs ns GG YY ho hd hcd hmg hobj hints hlen hbits hgen
  have kin := inY w _ YY
  obtain ⟨fd, cs, sp, t1, t2, b, st, run⟩ := F w mg fa _ YY kin GG.T.g hmg fun y c P d' hr ht => PySem.W.tab_of GG.T kin hr ht
  exact law_call kin GG.T.g GG.T.b GG.T.builtins GG.T.nolimit hgen t1 t2 GG.T.bmain hobj hints (Nat.le_trans hlen m2) run b fun H z1 z2 => st H a ns hlen z1 z2
end Cg


set_option Elab.async false
set_option linter.all false
set_option maxRecDepth 100000
set_option maxHeartbeats 4000000
/-! P4: law. -/
namespace K0
open PySem PySem.Spec PyProof.Rows L2 GxR Tk
variable [LamTab]
theorem upto_get {n i : Nat} {d : PyData} (h : (upto n)[i]? = some d) : i < n ∧ d = .int (i : Int) := by
  unfold upto at h
  rw [List.getElem?_map] at h
  cases q : (List.range n)[i]? with
  | none => rw [q] at h; cases h
  | some k =>
    rw [q] at h
    obtain ⟨h1, h2⟩ := List.getElem?_eq_some_iff.mp q
    rw [List.getElem_range] at h2
    rw [List.length_range] at h1
    subst h2
    exact ⟨h1, (Option.some.inj h).symm⟩
theorem tyx_sql {K : PySem.W.Frag} {H : Hp} {a : Addr} {xs : List V} (h : SqL K H a xs) : TyX K H (.ref a) (.type "list") := by
  rcases h with (h | ⟨o, h⟩) | ⟨o, its, n, h, c, _⟩
  · exact .base (.lst h)
  · exact .base (.frz h)
  · exact .kList h c
theorem ds_of_ints {K : PySem.W.Frag} {H : Hp} : ∀ ns : List Int, Ds K H (ns.map V.int) (ns.map PyData.int)
  | [] => .nil
  | n :: ns => .cons (.int n) (ds_of_ints ns)
/-- all but the table at PL -/
def hide (PL : Addr) (H : Hp) : Hp := fun a => if a = PL then none else H a
theorem hide_le {PL : Addr} {H : Hp} : Le (hide PL H) H := ⟨fun a o q _ => by
    have q' : (if a = PL then none else H a) = some o := q
    by_cases z : a = PL
    · rw [if_pos z] at q'; cases q'
    · rw [if_neg z] at q'; exact q', fun P' ⟨ps, q, r⟩ => by
    have q' : (if P' = PL then none else H P') = _ := q
    by_cases z : P' = PL
    · rw [if_pos z] at q'; cases q'
    · rw [if_neg z] at q'; exact ⟨ps, q', r⟩, fun a q => by
    show (if a = PL then none else H a) = none
    rw [q]
    exact ite_self _⟩
theorem hide_at {PL : Addr} {H : Hp} : hide PL H PL = none := if_pos rfl
theorem hide_sql {K : PySem.W.Frag} {PL a : Addr} {H : Hp} {xs : List V} {ps : Array Value} (hP : H PL = some (.tbl ps)) (h : SqL K H a xs) : SqL K (hide PL H) a xs := by
  have off : ∀ {o : HO}, H a = some o → (∀ ps, o ≠ .tbl ps) → hide PL H a = some o := fun {o} e n => by
    show (if a = PL then none else H a) = some o
    rw [if_neg fun z => n ps (by rw [z, hP] at e; exact (Option.some.inj e).symm)]
    exact e
  rcases h with (h | ⟨o, h⟩) | h
  · exact .inl (.inl (off h fun _ z => by cases z))
  · exact .inl (.inr ⟨o, off h fun _ z => by cases z⟩)
  · exact .inr h
def spLaw (K : PySem.W.Frag) (T : List Addr) (PL : Addr) : Sp := fun vs H Q _ => ∃ (a : Addr) (ns : List Int), vs = [.ref a] ∧ ns.length ≤ 63 ∧ SqL K H a (ns.map V.int) ∧ Tbs T H ∧ H PL = some (.tbl #[]) ∧ ∀ H', Q (.bl true) H'
section
variable {P : Program} {w : World} {K : PySem.W.Frag} {mg : Str → Option Value} {base : Heap} {T : List Addr} {f f1 C CW CP CO cL PL : Addr} {fd fd1 : FuncData}
theorem law_body (FA : Facts P w K mg base T CW CP CO) (FC : FactsC K mg base CW cL PL) (NA : LsAt P w K mg base T CW f1 fd1) (FB : ∃ (fb : Addr) (fdb : FuncData), FnOk P w K mg base CX0 1 fb fdb ["script"] (spBegun K) ∧ mg "_law_begun" = some (.ref fb) ∧ PySem.W.keepIn K (.ref fb) = true ∧ Binds K fdb ["script"] [])
    {cdv : Value} {A : Around} {outer : List Env} {s : Shared} {H : Hp} {vs : List V} {Q : VK} {E : XK} {j : Nat} (hr : Room j (A.deeper (envOfC "law" (defScope sLaw) s.heap.objs.size f cdv))) (hj : 12 ≤ j) (hgd : (A.deeper (envOfC "law" (defScope sLaw) s.heap.objs.size f cdv)).guards = some []) (hcd : cdv = .ref cL) (h : spLaw K T PL vs H Q E) :
    WB (cxOf CX0 P w K mg base NL "law" (defScope sLaw) f cdv A outer s H E).nox (defBody sLaw) { nx := fun _ H' => Q .non H', rt := Q } (start NL vs) H := by
  obtain ⟨a, ns, rfl, hn, hS, t, hPL, q⟩ := h
  obtain ⟨fb, fdb, Gb, mb, kb, bb⟩ := FB
  have lB : Le (hide PL H) H := hide_le
  have da : Dt K (hide PL H) (.ref a) (.list (ns.map PyData.int)) := .lst (hide_sql hPL hS) (tyx_sql (hide_sql hPL hS)) (ds_of_ints ns)
  have tB : Tbs T (hide PL H) := fun P' hP' => by
    obtain ⟨⟨ps, e, r⟩, nz⟩ := t P' hP'
    refine ⟨⟨ps, ?_, r⟩, nz⟩
    show (if P' = PL then none else H P') = _
    rw [if_neg fun z => nz (by rw [z]; exact FC.is)]
    exact e
  have hT0 : LamX.TabS H PL lamQ := ⟨#[], hPL, trivial, fun p cv hc => by cases hc⟩
  refine wb_cons ⟨_, ps_set (i := 1) ndLaw rfl (by first | exact Or.inl rfl | exact Or.inr rfl) (pe_call (E := L2.E0) Gb (hr.mono (by omega)) rfl mb kb bb .nil pass0 (pa_cons (pe_var (i := 0) rfl (by first | exact Or.inl rfl | exact Or.inr (Or.inl rfl) | exact Or.inr (Or.inr rfl))) pa_nil) (by decide) rfl rfl) rfl (by first | exact Or.inl rfl | exact Or.inr rfl), .ref a, rfl, ?_⟩
  refine ⟨a, hide PL H, ns, rfl, lB, da, by omega, fun d lw lc H' lH hd hlw hlc hne jj => ?_⟩
  have nT : ∀ b, H b = none → b ∉ T := fun b e z => by
    obtain ⟨⟨ps, e2, _⟩, _⟩ := t b z
    rw [e] at e2
    cases e2
  have hTD : ∀ b ∈ [d, lw, lc], b ∉ T := fun b hb => by
    rcases List.mem_cons.mp hb with z | z
    · rw [z]; exact nT d hd
    rcases List.mem_cons.mp z with z | z
    · rw [z]; exact nT lw hlw
    · rw [List.mem_singleton.mp z]; exact nT lc hlc
  have ap : Apt [d, lw, lc] (hide PL H) := fun b hb => by
    have : H b = none := by
      rcases List.mem_cons.mp hb with z | z
      · rw [z]; exact hd
      rcases List.mem_cons.mp z with z | z
      · rw [z]; exact hlw
      · rw [List.mem_singleton.mp z]; exact hlc
    exact lB.there b this
  have hT1 : LamX.TabS H' PL lamQ := tabS_le lH FC.is hT0
  have l1 : Le (hide PL H) H' := lB.trans lH
  have hlen : ((ns.map PyData.int).length : Int) ≤ 63 := by rw [List.length_map]; omega
  refine wb_cons (ws_for (ds := upto (2 + (if (6 : Int) < ((ns.map PyData.int).length : Int) then 6 else ((ns.map PyData.int).length : Int))).toNat) (tjs := [2]) (pat := patN) l1 (ei_range FA.bl.range (ee_op op_add rr_add ee_int (ee_min2 rfl FA.mn (ee_len FA.bl (ee_var (i := 0) rfl da) rfl fun x z => by cases z) ee_int)) (by split <;> omega) (by split <;> omega)) (eg_name ndLaw) (fun d hd => ⟨[d], rfl⟩) PassesOwn.never rfl
    (fun i σ' B' H' => ∃ s2 s3 s4 s5 s6 s7 s8, σ' = [some (.ref a), some (.ref d), s2, s3, s4, s5, s6, s7, s8] ∧ Le (hide PL H) B' ∧ Apt [d, lw, lc] B' ∧ B' PL = none ∧ DJ d lw lc (100 + 320 * (8 - i)) H' ∧ LamX.TabS H' PL lamQ)
    (fun B' H2 u => ⟨none, none, none, none, none, none, none, rfl, u.b, (UpX.of u).apt cells_DJ jj ap, upx_pl (D := []) (.of u) hide_at hT1 FC.is, cells_DJ.less _ _ _ (cells_DJ.le _ _ _ jj u.h) (by decide), tabS_le u.h FC.is hT1⟩) (fun i x es us σ' B' H2 B'' H'' hi hd' lb hI u4 he dvs N hN => ?_) fun σ' B' H2 lb ls hI => ?_)
  · obtain ⟨s2, s3, s4, s5, s6, s7, s8, rfl, lB', ap', hB', j', hT'⟩ := hI
    have hi12 : i < 8 := by
      have : i < (2 + (if (6 : Int) < ((ns.map PyData.int).length : Int) then 6 else ((ns.map PyData.int).length : Int))).toNat := by
        have z := hi
        unfold upto at z
        rw [List.length_map, List.length_range] at z
        exact z
      split at this <;> omega
    cases he
    obtain ⟨y, rfl, hy⟩ := ds1 (K := K) dvs
    have ux : UpX [d, lw, lc] B' H2 B'' H'' := .of u4
    refine turn_ok FA FC NA (m := 100 + 320 * (8 - (i + 1))) (B := B'') hTD hne hr (by omega) hgd hcd u4.s (ux.apt cells_DJ j' ap') (upx_pl ux hB' hT' FC.is) ?_ (tB.le (lB'.trans u4.b)) (tabS_le u4.h FC.is hT') fun s3' s4' s5' s6' s7' s8' B3 H3 l3 l4 ap3 hB3 j3 hT3 => hN _ B3 H3 l3 l4 ⟨_, s3', s4', s5', s6', s7', s8', rfl, (lB'.trans u4.b).trans l3, ap3, hB3, j3, hT3⟩
    rw [show 100 + 320 * (8 - (i + 1)) + 320 = 100 + 320 * (8 - i) by omega]
    exact cells_DJ.le _ _ _ j' u4.h
  · obtain ⟨s2, s3, s4, s5, s6, s7, s8, rfl, lB', ap', hB', j', hT'⟩ := hI
    refine wb_one (ws_ret (d := .bool true) ls ee_bl fun v B4 H4 u4 dv => ?_)
    cases dv
    exact q H4
theorem law_run (FA : Facts P w K mg base T CW CP CO) (FC : FactsC K mg base CW cL PL) (NA : LsAt P w K mg base T CW f1 fd1) (FB : ∃ (fb : Addr) (fdb : FuncData), FnOk P w K mg base CX0 1 fb fdb ["script"] (spBegun K) ∧ mg "_law_begun" = some (.ref fb) ∧ PySem.W.keepIn K (.ref fb) = true ∧ Binds K fdb ["script"] [])
    (F : L2.Fun K "law" "law" sLaw f fd) (hc : fd.code = .ref cL) : Cg.RunAt P w K mg base f fd "script" (spLaw K T PL) := by
  obtain ⟨oc, od, kV, doc, pm, an, cdv, ct, osl, rfl, lk, hcd⟩ := F.ex
  intro H s us vs Q E I hb hv h
  refine LamX.run_ofS (k := 12) (N := NL) (ps := ["script"]) lk hcd scLaw ⟨rfl, by decide, by decide⟩ I hb hv (by obtain ⟨a, ns, rfl, _⟩ := h; rfl) fun hr' => ?_
  obtain ⟨t, t1, t2⟩ := law_body FA FC NA FB hr' (Nat.le_refl _) rfl hc h
  exact ⟨t, t1.nox, t2⟩
end
end K0


set_option Elab.async false
set_option linter.all false
set_option maxRecDepth 100000
set_option maxHeartbeats 4000000
/-! Pend: all of the program that law reaches keeps its promise. -/
namespace K0
open PySem PySem.Spec PyProof.Rows L2 GxR Tk
/-- where a def stands -/
structure DefAt (K : PySem.W.Frag) (x : Str) (st : Stmt) : Prop where
  ex : ∃ f fd, PySem.W.nsIn K mainGlobals x = some (some (.ref f)) ∧ L2.Fun K x x st f fd
/-- where a def stands whose code object, at c, has its table at Pt -/
structure TabAt (K : PySem.W.Frag) (x : Str) (st : Stmt) (c Pt : Addr) : Prop where
  ex : ∃ f fd, PySem.W.nsIn K mainGlobals x = some (some (.ref f)) ∧ L2.Fun K x x st f fd ∧ fd.code = .ref c
  tab : PySem.W.tabIn K x = some (c, Pt)
  no : K.lookup Pt = none
theorem defAt {K : PySem.W.Frag} {x : Str} {st : Stmt} {f : Addr} {od an : Option Addr} {sl : Array (Option Value)} {oc kV dc pm cd ct : Value}
    (a : PySem.W.nsIn K mainGlobals x = some (some (.ref f))) (l : K.lookup f = some ⟨oc, od, .func (PySem.W.fnOf x x (defArgs st) (defBody st) (defScope st) .none kV dc pm an cd ct), sl⟩) (c : PySem.W.codeIn K cd x = true) (k : PySem.W.keepIn K (.ref f) = true) : DefAt K x st :=
  ⟨_, _, a, fun_mk l c k⟩
theorem tabIn_of {K : PySem.W.Frag} {x : Str} {f cc Pt : Addr} {od dd : Option Addr} {sl sl2 : Array (Option Value)} {oc e : Value} {fd : FuncData} {vs : Array Value} (a : PySem.W.nsIn K mainGlobals x = some (some (.ref f)))
    (l : K.lookup f = some ⟨oc, od, .func fd, sl⟩) (hc : fd.code = .ref cc) (lc : K.lookup cc = some ⟨e, dd, .fields vs, sl2⟩) (v : vs[11]? = some (.ref Pt)) : PySem.W.tabIn K x = some (cc, Pt) := by
  unfold PySem.W.tabIn
  simp only [a, l, hc, lc, v]
theorem tabAt {K : PySem.W.Frag} {x : Str} {st : Stmt} {f cc Pt : Addr} {od an dd : Option Addr} {sl sl2 : Array (Option Value)} {oc kV dc pm ct e : Value} {vs : Array Value}
    (a : PySem.W.nsIn K mainGlobals x = some (some (.ref f))) (l : K.lookup f = some ⟨oc, od, .func (PySem.W.fnOf x x (defArgs st) (defBody st) (defScope st) .none kV dc pm an (.ref cc) ct), sl⟩) (c : PySem.W.codeIn K (.ref cc) x = true) (k : PySem.W.keepIn K (.ref f) = true) (lc : K.lookup cc = some ⟨e, dd, .fields vs, sl2⟩) (v : vs[11]? = some (.ref Pt)) (no : K.lookup Pt = none) : TabAt K x st cc Pt :=
  ⟨⟨_, _, a, fun_mk l c k, rfl⟩, tabIn_of a l rfl lc v, no⟩
/-- the classes of errors -/
structure ErrAt (K : PySem.W.Frag) (x : Str) (C CB : Addr) : Prop where
  gS : PySem.W.nsIn K mainGlobals x = some (some (.ref C))
  gB : PySem.W.nsIn K mainGlobals "BoughError" = some (some (.ref CB))
  xS : PySem.W.excIn K C [.type "ValueError", .type "Exception", .type "BaseException", .type "object"] "ValueError.__new__" = true
  kS : PySem.W.keepIn K (.ref C) = true
  bS : PySem.W.subIn K (.ref C) (.type "BaseException") = some true
  tS : PySem.W.typeIn K (.ref C) = some (.type "type")
  bB : PySem.W.subIn K (.ref CB) (.type "BaseException") = some true
  dB : PySem.W.hasDictIn K CB = true
  tB : PySem.W.typeIn K (.ref CB) = some (.type "type")
  sB : PySem.W.subIn K (.ref C) (.ref CB) = some true
  hg : PySem.W.findIn K (.ref C) "__getattribute__" = some (some (.builtin "BaseException.__getattribute__"))
  hk : PySem.W.findIn K (.ref C) "__getattr__" = some none
  hd : PySem.W.hasDictIn K C = true
  ha : PySem.W.findIn K (.ref C) "__class__" = some (some (.builtin "object.__class__"))
  hn : PySem.W.specialIn K (.builtin "object.__class__") "__get__" = some (some (.builtin "getset_descriptor.__get__"))
  ht : PySem.W.takesIn K (.builtin "object.__class__") = some true
  hm : PySem.W.mroIn K C (.type "object") = some true
structure FreeAt (K : PySem.W.Frag) : Prop where
  z1 : PySem.W.nsIn K mainGlobals "isinstance" = some none
  z2 : PySem.W.nsIn K mainGlobals "int" = some none
  z3 : PySem.W.nsIn K mainGlobals "bool" = some none
  z4 : PySem.W.nsIn K mainGlobals "str" = some none
  z5 : PySem.W.nsIn K mainGlobals "tuple" = some none
  z6 : PySem.W.nsIn K mainGlobals "list" = some none
  z7 : PySem.W.nsIn K mainGlobals "dict" = some none
  z8 : PySem.W.nsIn K mainGlobals "len" = some none
  z9 : PySem.W.nsIn K mainGlobals "all" = some none
  z10 : PySem.W.nsIn K mainGlobals "any" = some none
  z11 : PySem.W.nsIn K mainGlobals "range" = some none
  z12 : PySem.W.nsIn K mainGlobals "enumerate" = some none
  z13 : PySem.W.nsIn K mainGlobals "repr" = some none
  z14 : PySem.W.nsIn K mainGlobals "min" = some none
  z15 : PySem.W.nsIn K mainGlobals "sorted" = some none
  z16 : PySem.W.nsIn K mainGlobals "abs" = some none
structure AllAt (K : PySem.W.Frag) : Prop where
  num : DefAt K "is_number" sNum
  head : DefAt K "is_headed" sHead
  row : DefAt K "is_row" sRow
  name : DefAt K "is_name" sName
  letOf : DefAt K "letters_of" sLetOf
  node : DefAt K "is_node" sNode
  wood : DefAt K "is_wood" sWood
  ckW : DefAt K "check_wood" sCkW
  ckB : DefAt K "check_both" sCkB
  come : DefAt K "come_to" sCome
  walked : DefAt K "walked" sWalked
  within : DefAt K "within" sWithin
  wt : DefAt K "walked_together" sWt
  pt : DefAt K "parting" sPt
  sort : DefAt K "sorted_out" sSort
  lr : DefAt K "least_rows" sLr
  lst : DefAt K "least" sLst
  begun : DefAt K "_law_begun" sBegun
  mix : DefAt K "_law_mixed" sMix
  take : DefAt K "_law_take" sTake
  pick : DefAt K "_law_pick" sPick
  shuf : DefAt K "_law_shuffled" sShuf
  caught : DefAt K "_law_caught" t__law_caught
  names : DefAt K "_law_names" sNames
  lscope : DefAt K "_law_scope" sLScope
  llet : DefAt K "_law_letters" sLLet
  lwood : DefAt K "_law_wood" sLWood
  lnb : DefAt K "_law_numbered" sLNb
  met : DefAt K "_law_met" sMet
  lpt : DefAt K "_law_parting" sLpt
  pl : DefAt K "_law_place" sLPl
  tw : DefAt K "_law_twin" sTw
  bad : DefAt K "_law_bad_wood" sLBad
  le : DefAt K "_law_least" sLe
  c_MOST_NODES : ∃ t, PySem.W.nsIn K mainGlobals "MOST_NODES" = some (some (.int 400 t))
theorem keptAt {K : PySem.W.Frag} {mg : Str → Option Value} {a : Addr} {its : Array Value} {n : Nat} {sl : Array (Option Value)} {od : Option Addr} (m : mg "KEPT" = some (.ref a)) (l : K.lookup a = some ⟨.type "tuple", od, .seq its n, sl⟩) (h : Vals (keptS.map V.str) its.toList) : Kept K mg := by
  have hl := h.length
  rw [List.length_map] at hl
  refine ⟨a, m, fun H => .tup (.inr ⟨_, its, n, l, rfl, rfl, by rw [← Array.length_toList, ← hl]; decide, h⟩) (.kTuple l rfl) ?_⟩
  have : ∀ xs : List Str, Ds K H (xs.map V.str) (xs.map PyData.str) := fun xs => by
    induction xs with
    | nil => exact .nil
    | cons x xs ih => exact .cons (.str x) ih
  exact this keptS
/-- by name -/
theorem kb1 {K : PySem.W.Frag} {x : Str} {st : Stmt} {f : Addr} {fd : FuncData} (F : L2.Fun K x x st f fd)
    (hb : ∀ (kV doc pm : Value) (an : Option Addr) (cdv ct w : Value), bindArgs (PySem.W.fnOf x x (defArgs st) (defBody st) (defScope st) Value.none kV doc pm an cdv ct) { pos := [], kw := [("wood", w)] } = pure ([("wood", w)] : List (Str × Value))) :
    KBinds K fd ["wood"] ["wood"] gW gV := by
  obtain ⟨oc, od, kV, doc, pm, an, cdv, ct, osl, rfl, _, _⟩ := F.ex
  refine ⟨fun s us ws _ hl => ?_, fun {vs us zs ws} r1 r2 => ?_⟩
  · match us, ws, hl with
    | [], [w], _ => exact .of_eq (hb kV doc pm an cdv ct w)
    | [], [], hl => cases hl
    | [], _ :: _ :: _, hl => cases hl
    | _ :: _, _, hl => cases hl
  · match vs, us, r1, zs, ws, r2 with
    | [], [], _, [_], [_], .cons a .nil => exact .cons a .nil
    | [], [], _, [], [], _ => exact .nil
    | [], [], _, _ :: _ :: _, _ :: _ :: _, _ => exact .nil
    | _ :: _, _ :: _, _, _, _, _ => exact .nil
section
variable {l : PySem.W.OpenLaw} {w : World} {K : PySem.W.Frag} {h : Heap} {mg : Str → Option Value} {fa CB CW CP CO c1 c2 c3 cL P1 P2 P3 PL : Addr}
theorem err_of {x : Str} {C : Addr} (X : K.In h) (G : h.Ns mainGlobals mg) (er : ErrAt K x C CB) : ErrC K mg x C :=
  ⟨PySem.W.mg_of X G er.gS, ⟨er.hg, er.hk, er.bS, er.hd, er.ha, er.hn, er.ht, er.hm⟩, if_pos (by simp), CB, PySem.W.mg_of X G er.gB, PySem.W.exm_ref er.bB er.dB er.tB er.sB⟩
theorem law_at (X : K.In h) (G : h.Ns mainGlobals mg) (hfa : mg "law" = some (.ref fa)) (t1 : TabAt K "ascends" sAsc c1 P1) (t2 : TabAt K "is_scope" sScope c2 P2) (t3 : TabAt K "check_place" sCkP c3 P3) (tL : TabAt K "law" sLaw cL PL) 
    (D : AllAt K) (erW : ErrAt K "BadWood" CW CB) (erP : ErrAt K "BadPlace" CP CB) (erO : ErrAt K "OtherScope" CO CB) (fr : FreeAt K) (kp : Kept K mg) (ne : ∀ P ∈ [P1, P2, P3], P ≠ PL)
    (tabs : ∀ y ∈ (["ascends", "is_scope", "check_place", "law"] : List Str), ∀ c P, PySem.W.tabIn K y = some (c, P) → PySem.W.CodeHd h c P ∧ h.get? P = some { cls := .none, data := .fields #[] }) :
    ∃ (fd : FuncData) (cs : List (Addr × Addr)) (sp : Sp), (∀ p ∈ cs, PySem.W.CodeHd h p.1 p.2 ∧ h.get? p.2 = some { cls := .none, data := .fields #[] }) ∧ (∀ p ∈ cs, K.lookup p.2 = none) ∧ (∀ (s : Shared) (u : Value), BindsTo s fd ⟨[u], []⟩ [("script", u)]) ∧
      (∀ (H : Hp) (a : Addr) (ns : List Int), ns.length ≤ 63 → (∀ p ∈ cs, H p.2 = some (.tbl #[])) → SqL K H a (ns.map V.int) → sp [.ref a] H (fun v _ => v = .bl true) fun _ _ _ => False) ∧
      ∀ base : Heap, K.In base → base.Ns mainGlobals mg → (∀ p ∈ cs, LamX.TabB base mg p.1 p.2) → Cg.RunAt l.prog w K mg base fa fd "script" sp := by
  have hcs : ∀ p ∈ [(c1, P1), (c2, P2), (c3, P3), (cL, PL)], PySem.W.CodeHd h p.1 p.2 ∧ h.get? p.2 = some { cls := .none, data := .fields #[] } := fun p hp => by
    simp only [List.mem_cons, List.not_mem_nil, or_false] at hp
    rcases hp with rfl | rfl | rfl | rfl
    · exact tabs _ (by simp) _ _ t1.tab
    · exact tabs _ (by simp) _ _ t2.tab
    · exact tabs _ (by simp) _ _ t3.tab
    · exact tabs _ (by simp) _ _ tL.tab
  letI : LamTab := ⟨fun a => a = PL⟩
  obtain ⟨fL, fdL, nL, FL, hcL⟩ := tL.ex
  have eL := hfa.symm.trans (PySem.W.mg_of X G nL)
  cases eL
  have mgd : ∀ {x : Str} {st : Stmt}, DefAt K x st → ∃ f fd, mg x = some (.ref f) ∧ L2.Fun K x x st f fd := fun d => by
    obtain ⟨f, fd, a, F⟩ := d.ex
    exact ⟨f, fd, PySem.W.mg_of X G a, F⟩
  have mgt : ∀ {x : Str} {st : Stmt} {c Pt : Addr}, TabAt K x st c Pt → ∃ f fd, mg x = some (.ref f) ∧ L2.Fun K x x st f fd ∧ fd.code = .ref c := fun d => by
    obtain ⟨f, fd, a, F, e⟩ := d.ex
    exact ⟨f, fd, PySem.W.mg_of X G a, F, e⟩
  have BL : Blt mg := ⟨PySem.W.mg_none_of X G fr.z1, PySem.W.mg_none_of X G fr.z2, PySem.W.mg_none_of X G fr.z3, PySem.W.mg_none_of X G fr.z4, PySem.W.mg_none_of X G fr.z5, PySem.W.mg_none_of X G fr.z6, PySem.W.mg_none_of X G fr.z7, PySem.W.mg_none_of X G fr.z8, PySem.W.mg_none_of X G fr.z9, PySem.W.mg_none_of X G fr.z10, PySem.W.mg_none_of X G fr.z11, PySem.W.mg_none_of X G fr.z12⟩
  have h_repr : mg "repr" = none := PySem.W.mg_none_of X G fr.z13
  have h_min : mg "min" = none := PySem.W.mg_none_of X G fr.z14
  have h_sorted : mg "sorted" = none := PySem.W.mg_none_of X G fr.z15
  have h_abs : mg "abs" = none := PySem.W.mg_none_of X G fr.z16
  have g_MOST_NODES : ∃ t, mg "MOST_NODES" = some (.int 400 t) := by
    obtain ⟨t, e⟩ := D.c_MOST_NODES
    exact ⟨t, PySem.W.mg_of X G e⟩
  have eW := err_of X G erW
  have eP := err_of X G erP
  have eO := err_of X G erO
  obtain ⟨f_num, d_num, m_num, F_num⟩ := mgd D.num
  obtain ⟨f_head, d_head, m_head, F_head⟩ := mgd D.head
  obtain ⟨f_row, d_row, m_row, F_row⟩ := mgd D.row
  obtain ⟨f_name, d_name, m_name, F_name⟩ := mgd D.name
  obtain ⟨f_letOf, d_letOf, m_letOf, F_letOf⟩ := mgd D.letOf
  obtain ⟨f_node, d_node, m_node, F_node⟩ := mgd D.node
  obtain ⟨f_wood, d_wood, m_wood, F_wood⟩ := mgd D.wood
  obtain ⟨f_ckW, d_ckW, m_ckW, F_ckW⟩ := mgd D.ckW
  obtain ⟨f_ckB, d_ckB, m_ckB, F_ckB⟩ := mgd D.ckB
  obtain ⟨f_come, d_come, m_come, F_come⟩ := mgd D.come
  obtain ⟨f_walked, d_walked, m_walked, F_walked⟩ := mgd D.walked
  obtain ⟨f_within, d_within, m_within, F_within⟩ := mgd D.within
  obtain ⟨f_wt, d_wt, m_wt, F_wt⟩ := mgd D.wt
  obtain ⟨f_pt, d_pt, m_pt, F_pt⟩ := mgd D.pt
  obtain ⟨f_sort, d_sort, m_sort, F_sort⟩ := mgd D.sort
  obtain ⟨f_lr, d_lr, m_lr, F_lr⟩ := mgd D.lr
  obtain ⟨f_lst, d_lst, m_lst, F_lst⟩ := mgd D.lst
  obtain ⟨f_begun, d_begun, m_begun, F_begun⟩ := mgd D.begun
  obtain ⟨f_mix, d_mix, m_mix, F_mix⟩ := mgd D.mix
  obtain ⟨f_take, d_take, m_take, F_take⟩ := mgd D.take
  obtain ⟨f_pick, d_pick, m_pick, F_pick⟩ := mgd D.pick
  obtain ⟨f_shuf, d_shuf, m_shuf, F_shuf⟩ := mgd D.shuf
  obtain ⟨f_caught, d_caught, m_caught, F_caught⟩ := mgd D.caught
  obtain ⟨f_names, d_names, m_names, F_names⟩ := mgd D.names
  obtain ⟨f_lscope, d_lscope, m_lscope, F_lscope⟩ := mgd D.lscope
  obtain ⟨f_llet, d_llet, m_llet, F_llet⟩ := mgd D.llet
  obtain ⟨f_lwood, d_lwood, m_lwood, F_lwood⟩ := mgd D.lwood
  obtain ⟨f_lnb, d_lnb, m_lnb, F_lnb⟩ := mgd D.lnb
  obtain ⟨f_met, d_met, m_met, F_met⟩ := mgd D.met
  obtain ⟨f_lpt, d_lpt, m_lpt, F_lpt⟩ := mgd D.lpt
  obtain ⟨f_pl, d_pl, m_pl, F_pl⟩ := mgd D.pl
  obtain ⟨f_tw, d_tw, m_tw, F_tw⟩ := mgd D.tw
  obtain ⟨f_bad, d_bad, m_bad, F_bad⟩ := mgd D.bad
  obtain ⟨f_le, d_le, m_le, F_le⟩ := mgd D.le
  obtain ⟨f_asc, d_asc, m_asc, F_asc, k_asc⟩ := mgt t1
  obtain ⟨f_scope, d_scope, m_scope, F_scope, k_scope⟩ := mgt t2
  obtain ⟨f_ckP, d_ckP, m_ckP, F_ckP, k_ckP⟩ := mgt t3
  have b_num := F_num.binds (ps := ["thing", "limit"]) fun _ _ _ _ _ _ us hl => match us, hl with | [_, _], _ => rfl
  have b_head := F_head.binds (ps := ["thing", "word", "size"]) fun _ _ _ _ _ _ us hl => match us, hl with | [_, _, _], _ => rfl
  have b_row := F_row.binds (ps := ["thing", "least", "most"]) fun _ _ _ _ _ _ us hl => match us, hl with | [_, _, _], _ => rfl
  have b_name := F_name.binds (ps := ["thing"]) fun _ _ _ _ _ _ us hl => match us, hl with | [_], _ => rfl
  have b_letOf := F_letOf.binds (ps := ["scope"]) fun _ _ _ _ _ _ us hl => match us, hl with | [_], _ => rfl
  have b_node := F_node.binds (ps := ["thing", "known", "many"]) fun _ _ _ _ _ _ us hl => match us, hl with | [_, _, _], _ => rfl
  have b_wood := F_wood.binds (ps := ["thing"]) fun _ _ _ _ _ _ us hl => match us, hl with | [_], _ => rfl
  have b_ckW := F_ckW.binds (ps := ["wood"]) fun _ _ _ _ _ _ us hl => match us, hl with | [_], _ => rfl
  have b_ckB := F_ckB.binds (ps := ["one", "other"]) fun _ _ _ _ _ _ us hl => match us, hl with | [_, _], _ => rfl
  have b_come := F_come.binds (ps := ["rows", "place"]) fun _ _ _ _ _ _ us hl => match us, hl with | [_, _], _ => rfl
  have b_walked := F_walked.binds (ps := ["rows", "start"]) fun _ _ _ _ _ _ us hl => match us, hl with | [_, _], _ => rfl
  have b_within := F_within.binds (ps := ["wood", "place"]) fun _ _ _ _ _ _ us hl => match us, hl with | [_, _], _ => rfl
  have b_wt := F_wt.binds (ps := ["mine", "theirs"]) fun _ _ _ _ _ _ us hl => match us, hl with | [_, _], _ => rfl
  have b_pt := F_pt.binds (ps := ["one", "other"]) fun _ _ _ _ _ _ us hl => match us, hl with | [_, _], _ => rfl
  have b_sort := F_sort.binds (ps := ["rows", "most"]) fun _ _ _ _ _ _ us hl => match us, hl with | [_, _], _ => rfl
  have b_lr := F_lr.binds (ps := ["rows", "most"]) fun _ _ _ _ _ _ us hl => match us, hl with | [_, _], _ => rfl
  have b_lst := F_lst.binds (ps := ["wood"]) fun _ _ _ _ _ _ us hl => match us, hl with | [_], _ => rfl
  have b_begun := F_begun.binds (ps := ["script"]) fun _ _ _ _ _ _ us hl => match us, hl with | [_], _ => rfl
  have b_mix := F_mix.binds (ps := ["draw"]) fun _ _ _ _ _ _ us hl => match us, hl with | [_], _ => rfl
  have b_take := F_take.binds (ps := ["draw", "many"]) fun _ _ _ _ _ _ us hl => match us, hl with | [_, _], _ => rfl
  have b_pick := F_pick.binds (ps := ["draw", "some"]) fun _ _ _ _ _ _ us hl => match us, hl with | [_, _], _ => rfl
  have b_shuf := F_shuf.binds (ps := ["draw", "some"]) fun _ _ _ _ _ _ us hl => match us, hl with | [_, _], _ => rfl
  have b_caught := F_caught.binds (ps := ["work"]) fun _ _ _ _ _ _ us hl => match us, hl with | [_], _ => rfl
  have b_names := F_names.binds (ps := ["draw", "many"]) fun _ _ _ _ _ _ us hl => match us, hl with | [_, _], _ => rfl
  have b_lscope := F_lscope.binds (ps := ["draw", "most"]) fun _ _ _ _ _ _ us hl => match us, hl with | [_, _], _ => rfl
  have b_llet := F_llet.binds (ps := ["scope"]) fun _ _ _ _ _ _ us hl => match us, hl with | [_], _ => rfl
  have b_lwood := F_lwood.binds (ps := ["draw", "scope", "most"]) fun _ _ _ _ _ _ us hl => match us, hl with | [_, _, _], _ => rfl
  have b_lnb := F_lnb.binds (ps := ["scope", "first", "rows"]) fun _ _ _ _ _ _ us hl => match us, hl with | [_, _, _], _ => rfl
  have b_met := F_met.binds (ps := ["one", "other"]) fun _ _ _ _ _ _ us hl => match us, hl with | [_, _], _ => rfl
  have b_lpt := F_lpt.binds (ps := ["one", "other"]) fun _ _ _ _ _ _ us hl => match us, hl with | [_, _], _ => rfl
  have b_pl := F_pl.binds (ps := ["draw", "most"]) fun _ _ _ _ _ _ us hl => match us, hl with | [_, _], _ => rfl
  have b_tw := F_tw.binds (ps := ["draw", "wood"]) fun _ _ _ _ _ _ us hl => match us, hl with | [_, _], _ => rfl
  have b_bad := F_bad.binds (ps := ["draw"]) fun _ _ _ _ _ _ us hl => match us, hl with | [_], _ => rfl
  have b_le := F_le.binds (ps := ["wood"]) fun _ _ _ _ _ _ us hl => match us, hl with | [_], _ => rfl
  have b_asc := F_asc.binds (ps := ["items"]) fun _ _ _ _ _ _ us hl => match us, hl with | [_], _ => rfl
  have b_scope := F_scope.binds (ps := ["thing"]) fun _ _ _ _ _ _ us hl => match us, hl with | [_], _ => rfl
  have b_ckP := F_ckP.binds (ps := ["place"]) fun _ _ _ _ _ _ us hl => match us, hl with | [_], _ => rfl
  have bL := FL.binds (ps := ["script"]) fun _ _ _ _ _ _ us hl => match us, hl with | [_], _ => rfl
  have kbL := kb1 F_lst fun _ _ _ _ _ _ _ => rfl
  refine ⟨fdL, [(c1, P1), (c2, P2), (c3, P3), (cL, PL)], spLaw K [P1, P2, P3] PL, hcs, fun p hp => ?_, fun s u => ?_, fun H a ns hl hH hS => ⟨a, ns, rfl, hl, hS, fun P hP => ?_, hH (cL, PL) (by simp), fun _ => rfl⟩, fun base kin gn TB => ?_⟩
  · simp only [List.mem_cons, List.not_mem_nil, or_false] at hp
    rcases hp with rfl | rfl | rfl | rfl
    · exact t1.no
    · exact t2.no
    · exact t3.no
    · exact tL.no
  · obtain ⟨oc, od, kV, doc, pm, an, cdv, ct, osl, rfl, _, _⟩ := FL.ex
    exact .of_eq rfl
  · refine ⟨⟨#[], ?_, trivial⟩, ne P hP⟩
    simp only [List.mem_cons, List.not_mem_nil, or_false] at hP
    rcases hP with rfl | rfl | rfl
    · exact hH (c1, P) (by simp)
    · exact hH (c2, P) (by simp)
    · exact hH (c3, P) (by simp)
  · have tb : ∀ {c Pt : Addr}, (c, Pt) ∈ [(c1, P1), (c2, P2), (c3, P3), (cL, PL)] → GxR.TabB base mg c Pt := fun {c Pt} hm => by
      have z := TB (c, Pt) hm
      exact ⟨z.code, z.bm, z.gP⟩
    have K_num : Kn l.prog w K mg base 1 "is_number" ["thing", "limit"] (spF K [P1, P2, P3] 2 numP numF) := Kn.mk' F_num m_num (ok_num BL F_num) b_num
    have K_head : Kn l.prog w K mg base 1 "is_headed" ["thing", "word", "size"] (spF K [P1, P2, P3] 3 headP headF) := Kn.mk' F_head m_head (ok_head BL F_head) b_head
    have K_row : Kn l.prog w K mg base 1 "is_row" ["thing", "least", "most"] (spF K [P1, P2, P3] 3 rowP rowF) := Kn.mk' F_row m_row (ok_row BL F_row) b_row
    have K_asc : Kn l.prog w K mg base 2 "ascends" ["items"] (spF K [P1, P2, P3] 1 ascP ascF) := Kn.mk' F_asc m_asc (ok_asc BL F_asc k_asc (tb (c := c1) (Pt := P1) (by simp)) (by simp)) b_asc
    have K_name : Kn l.prog w K mg base 2 "is_name" ["thing"] (spF K [P1, P2, P3] 1 nameP nameF) := Kn.mk' F_name m_name (ok_name BL kp F_name) b_name
    have K_scope : Kn l.prog w K mg base 4 "is_scope" ["thing"] (spF K [P1, P2, P3] 1 nameP scopeF) := Kn.mk' F_scope m_scope (ok_scope BL K_row K_name K_asc F_scope k_scope (tb (c := c2) (Pt := P2) (by simp)) (by simp)) b_scope
    have K_letOf : Kn l.prog w K mg base 2 "letters_of" ["scope"] (spF K [P1, P2, P3] 1 letOfP letOfF) := Kn.mk' F_letOf m_letOf (ok_letOf BL F_letOf) b_letOf
    have K_node : Kn l.prog w K mg base 2 "is_node" ["thing", "known", "many"] (spF K [P1, P2, P3] 3 nodeP nodeF) := Kn.mk' F_node m_node (ok_node BL K_num F_node) b_node
    have K_wood : Kn l.prog w K mg base 5 "is_wood" ["thing"] (spF K [P1, P2, P3] 1 nameP woodF) := Kn.mk' F_wood m_wood (ok_wood BL g_MOST_NODES K_row K_head K_scope K_letOf K_node F_wood) b_wood
    have ok_CW : FnOk l.prog w K mg base (L2.CX l.prog w) 6 f_ckW d_ckW ["wood"] (spChk K [P1, P2, P3] woodB CW) := ok_ckW K_wood erW.xS eW.m erW.kS erW.bS erW.tS F_ckW
    have ok_CP : FnOk l.prog w K mg base (L2.CX l.prog w) 6 f_ckP d_ckP ["place"] (spChk K [P1, P2, P3] placeB CP) := ok_ckP BL K_num erP.xS eP.m erP.kS erP.bS erP.tS F_ckP k_ckP (tb (c := c3) (Pt := P3) (by simp)) (by simp)
    have K_come : Kn l.prog w K mg base 1 "come_to" ["rows", "place"] (spF K [P1, P2, P3] 2 comeP comeF) := Kn.mk' F_come m_come (ok_come F_come) b_come
    have K_walked : Kn l.prog w K mg base 1 "walked" ["rows", "start"] (spF K [P1, P2, P3] 2 walkP walkF) := Kn.mk' F_walked m_walked (ok_walked BL F_walked) b_walked
    have K_walkedD : Kn l.prog w K mg base 1 "walked" ["rows", "start"] (spWD K [P1, P2, P3]) := Kn.mk' F_walked m_walked (ok_walkedD BL F_walked) b_walked
    have okI : FnOk l.prog w K mg base (L2.CX l.prog w) 7 f_within d_within ["wood", "place"] (spTwo K [P1, P2, P3] CW CP wthF) := ok_within ok_CW m_ckW F_ckW.kp b_ckW ok_CP m_ckP F_ckP.kp b_ckP K_come K_walked F_within
    have KSo : Kn l.prog w K mg base 1 "sorted_out" ["rows", "most"] (spF K [P1, P2, P3] 2 srtP srtF) := Kn.mk' F_sort m_sort (ok_sort BL F_sort) b_sort
    have KLr : Kn l.prog w K mg base 2 "least_rows" ["rows", "most"] (spF K [P1, P2, P3] 2 srtP lrF) := Kn.mk' F_lr m_lr (ok_lr BL K_walked K_walkedD KSo F_lr) b_lr
    have okL : FnOk l.prog w K mg base (L2.CX l.prog w) 7 f_lst d_lst ["wood"] (spOneW K [P1, P2, P3] CW lstF) := ok_least ok_CW m_ckW F_ckW.kp b_ckW g_MOST_NODES KLr F_lst
    have NL1 : LsAt l.prog w K mg base [P1, P2, P3] CW f_lst d_lst := ⟨okL, m_lst, F_lst.kp, b_lst, kbL⟩
    have CBA : CbAt l.prog w K mg base [P1, P2, P3] CW CO := ⟨f_ckB, d_ckB, ok_ckB ok_CW m_ckW F_ckW.kp b_ckW erO.xS eO.m erO.kS erO.bS erO.tS F_ckB, m_ckB, F_ckB.kp, b_ckB⟩
    have WTA : WtAt l.prog w K mg base [P1, P2, P3] := ⟨f_wt, d_wt, ok_wt BL F_wt, m_wt, F_wt.kp, b_wt⟩
    have MTA : MetAt l.prog w K mg base [P1, P2, P3] := ⟨f_met, d_met, ok_met BL F_met, m_met, F_met.kp, b_met⟩
    have KNd : Kn l.prog w K mg base 1 "_law_numbered" ["scope", "first", "rows"] (spND K [P1, P2, P3]) := Kn.mk' F_lnb m_lnb (ok_lnbD BL F_lnb) b_lnb
    have K_llet : KnLet l.prog w K mg base [P1, P2, P3] := Kn.mk' F_llet m_llet (ok_llet F_llet) b_llet
    have Jt : ∀ d lw lc, (∀ a ∈ [d, lw, lc], a ∉ [P1, P2, P3]) → lw ≠ lc → KnTake l.prog w K mg base [P1, P2, P3] d lw lc := fun d lw lc hTD hne => Kn.mk' F_take m_take (ok_take BL hTD hne (Kn.mk' F_mix m_mix (ok_mix BL hTD F_mix) b_mix) F_take) b_take
    have Jp : ∀ d lw lc, (∀ a ∈ [d, lw, lc], a ∉ [P1, P2, P3]) → lw ≠ lc → KnPick l.prog w K mg base [P1, P2, P3] d lw lc := fun d lw lc hTD hne => Kn.mk' F_pick m_pick (ok_pick BL hTD (Jt d lw lc hTD hne) F_pick) b_pick
    have Js : ∀ d lw lc, (∀ a ∈ [d, lw, lc], a ∉ [P1, P2, P3]) → lw ≠ lc → KnShuf l.prog w K mg base [P1, P2, P3] d lw lc := fun d lw lc hTD hne => Kn.mk' F_shuf m_shuf (ok_shuf BL hTD (Jt d lw lc hTD hne) F_shuf) b_shuf
    have Jn : ∀ d lw lc, (∀ a ∈ [d, lw, lc], a ∉ [P1, P2, P3]) → lw ≠ lc → KnNames l.prog w K mg base [P1, P2, P3] d lw lc := fun d lw lc hTD hne => Kn.mk' F_names m_names (ok_names BL hTD (Js d lw lc hTD hne) (Jp d lw lc hTD hne) F_names) b_names
    have FA : Facts l.prog w K mg base [P1, P2, P3] CW CP CO :=
      { bl := BL, rp := h_repr, mn := h_min, isW := K_wood
        lpt := Kn.mk' F_lpt m_lpt (ok_lpt BL h_min MTA F_lpt) b_lpt
        le := Kn.mk' F_le m_le (ok_le BL h_min KNd F_le) b_le
        wi := ⟨f_within, d_within, okI, m_within, F_within.kp, b_within⟩
        pt := ⟨f_pt, d_pt, ok_parting BL CBA WTA F_pt, m_pt, F_pt.kp, b_pt⟩
        scope := fun d lw lc hTD hne => Kn.mk' F_lscope m_lscope (ok_lscope BL h_sorted hTD (Jt d lw lc hTD hne) (Jn d lw lc hTD hne) F_lscope) b_lscope
        wood := fun d lw lc hTD hne => Kn.mk' F_lwood m_lwood (ok_lwood BL hTD (Jt d lw lc hTD hne) (Jp d lw lc hTD hne) K_llet F_lwood) b_lwood
        bad := fun d lw lc hTD hne => Kn.mk' F_bad m_bad (ok_lbad BL hTD (Jp d lw lc hTD hne) F_bad) b_bad
        pl := fun d lw lc hTD hne => Kn.mk' F_pl m_pl (ok_lpl BL hTD (Jt d lw lc hTD hne) F_pl) b_pl
        tw := fun d lw lc hTD hne => Kn.mk' F_tw m_tw (ok_tw BL hTD (Jt d lw lc hTD hne) (Js d lw lc hTD hne) F_tw) b_tw }
    have FC : FactsC K mg base CW cL PL := ⟨⟨f_caught, d_caught, F_caught, m_caught, b_caught⟩, eW, TB (cL, PL) (by simp), rfl⟩
    exact law_run FA FC NL1 ⟨f_begun, d_begun, ok_begun BL h_abs F_begun, m_begun, F_begun.kp, b_begun⟩ FL hcL
end
end K0


set_option Elab.async false
set_option linter.all false
set_option maxRecDepth 100000
open PySem PySem.W PyProof.Rows
set_option maxRecDepth 100000 in
set_option maxHeartbeats 0 in
theorem PySem.Challenge.cw_allboughs_k03_whole_least_woods_holds : PySem.Challenge.rw_allboughs_k03_whole_least_woods.Holds := by
  w_on; o_law; k_head; (case hw => w_witness2)
  k_fill
  refine Cg.walk_at (l := PySem.Challenge.rw_allboughs_k03_whole_least_woods) (n := 63) (x := "script") rfl (by decide) rfl (fun w h Y => PySem.W.km_in_of Y) ?F
  case F =>
    intro w mg fa h Y KX G hmg tabs
    refine' K0.law_at KX G hmg ?t1 ?t2 ?t3 ?tL ?D ?erW ?erP ?erO ?fr ?kp ?ne ?tabs
    case t1 => (refine' K0.tabAt ?a ?l ?c ?k ?lc ?v ?no; (case a => k_is); (case l => k_is); (case c => k_is); (case k => k_is); (case lc => k_is); (case v => rfl); (case no => first | k_is | kernel_rfl))
    case t2 => (refine' K0.tabAt ?a ?l ?c ?k ?lc ?v ?no; (case a => k_is); (case l => k_is); (case c => k_is); (case k => k_is); (case lc => k_is); (case v => rfl); (case no => first | k_is | kernel_rfl))
    case t3 => (refine' K0.tabAt ?a ?l ?c ?k ?lc ?v ?no; (case a => k_is); (case l => k_is); (case c => k_is); (case k => k_is); (case lc => k_is); (case v => rfl); (case no => first | k_is | kernel_rfl))
    case tL => (refine' K0.tabAt ?a ?l ?c ?k ?lc ?v ?no; (case a => k_is); (case l => k_is); (case c => k_is); (case k => k_is); (case lc => k_is); (case v => rfl); (case no => first | k_is | kernel_rfl))
    case ne => decide
    case D =>
      refine ⟨?_, ?_, ?_, ?_, ?_, ?_, ?_, ?_, ?_, ?_, ?_, ?_, ?_, ?_, ?_, ?_, ?_, ?_, ?_, ?_, ?_, ?_, ?_, ?_, ?_, ?_, ?_, ?_, ?_, ?_, ?_, ?_, ?_, ?_, ?c_MOST_NODES⟩
      case c_MOST_NODES => exact ⟨_, by k_is⟩
      all_goals (refine' K0.defAt ?a ?l ?c ?k; (case a => k_is); (case l => k_is); (case c => k_is); (case k => k_is))
    case erW =>
      refine' ⟨?gS, ?gB, ?xS, ?kS, ?bS, ?tS, ?bB, ?dB, ?tB, ?sB, ?hg, ?hk, ?hd, ?ha, ?hn, ?ht, ?hm⟩
      (case gS => k_is); (case gB => k_is); (case xS => k_exc); (case kS => k_is); (case bS => k_is); (case tS => k_is); (case bB => k_is); (case dB => k_is); (case tB => k_is); (case sB => k_is)
      (case hg => k_is); (case hk => k_is); (case hd => k_is); (case ha => k_is); (case hn => k_is); (case ht => k_is); (case hm => k_is)
    case erP =>
      refine' ⟨?gS, ?gB, ?xS, ?kS, ?bS, ?tS, ?bB, ?dB, ?tB, ?sB, ?hg, ?hk, ?hd, ?ha, ?hn, ?ht, ?hm⟩
      (case gS => k_is); (case gB => k_is); (case xS => k_exc); (case kS => k_is); (case bS => k_is); (case tS => k_is); (case bB => k_is); (case dB => k_is); (case tB => k_is); (case sB => k_is)
      (case hg => k_is); (case hk => k_is); (case hd => k_is); (case ha => k_is); (case hn => k_is); (case ht => k_is); (case hm => k_is)
    case erO =>
      refine' ⟨?gS, ?gB, ?xS, ?kS, ?bS, ?tS, ?bB, ?dB, ?tB, ?sB, ?hg, ?hk, ?hd, ?ha, ?hn, ?ht, ?hm⟩
      (case gS => k_is); (case gB => k_is); (case xS => k_exc); (case kS => k_is); (case bS => k_is); (case tS => k_is); (case bB => k_is); (case dB => k_is); (case tB => k_is); (case sB => k_is)
      (case hg => k_is); (case hk => k_is); (case hd => k_is); (case ha => k_is); (case hn => k_is); (case ht => k_is); (case hm => k_is)
    case fr => refine ⟨?_, ?_, ?_, ?_, ?_, ?_, ?_, ?_, ?_, ?_, ?_, ?_, ?_, ?_, ?_, ?_⟩ <;> k_is
    case kp =>
      refine' K0.keptAt (PySem.W.mg_of KX G ?m) ?l ?h
      (case m => k_is); (case l => k_is)
      case h => repeat (first | exact .nil | refine .cons ⟨_, rfl⟩ ?_)
    case tabs =>
      intro y hy c P ht
      simp only [List.mem_cons, List.not_mem_nil, or_false] at hy
      rcases hy with rfl | rfl | rfl | rfl
      · exact tabs _ c P _ rfl ht
      · exact tabs _ c P _ rfl ht
      · exact tabs _ c P _ rfl ht
      · exact tabs _ c P _ rfl ht


