import PyProof.Rows.All
import Wide.All
import OpenK.AllK
import Wide.FinOn
import HandS.AnyAll
import HandS.GenList
import HandS.Words
import HandS.ForMost
import HandS.IsInst
import HandS.Deep
import HandS.TupAny
import HandS.TupMul
import KE.GoesEnum
import HandS.StrMore
import HandS.Set
import HandS.SetFor
import HandS.SetTxt0
import HandS.ForExc
import HandS.ExcIs
import HandS.Lambda
import HandS.TupLe
import KE.KNestM
import HandS.HeadWalk
import PySem.Challenge.RW_allboughs_k00_woods_and_letters_judged
set_option Elab.async false
set_option linter.all false
set_option maxRecDepth 100000
set_option maxHeartbeats 1000000
/-! Gx0: the frame of a generator expression as a context of its own. -/
namespace Gx
open PySem PySem.Spec PyProof.Rows L2 GenW

/-- the code of the expression behind its start -/
abbrev loopOf (tg iter elt : Expr) (scope : Scope) (pos : Pos) (it : Addr) (env : Env) : Code :=
  .compLoop (.GeneratorExp elt [⟨tg, iter, [], 0⟩] scope pos) 0 (.ref it) .none env
abbrev beginOf (tg iter elt : Expr) (scope : Scope) (pos : Pos) (it : Addr) (env : Env) : Code :=
  .compStart (.GeneratorExp elt [⟨tg, iter, [], 0⟩] scope pos) 0 (.ref it) .none env
abbrev caught (X : Cx) (scope : Scope) : List (Str × Addr) := cloFrom X.env.cells scope.names []

def inner (X : Cx) (scope : Scope) (code : Value) (N : List Str) (A : Around) (s : Shared) (H : Hp) (ex : List Addr) : Cx where
  prog := X.prog
  w := X.w
  K := X.K
  mg := X.mg
  base := X.base
  A := A
  N := N
  s_0 := s
  H_0 := H
  env := genEnv scope (caught X scope) s.heap.objs.size code builtinsNs X.env
  outer := X.stack
  stack := genEnv scope (caught X scope) s.heap.objs.size code builtinsNs X.env :: X.stack
  ex := ex
  fn := fun _ => false
  calm := true
  pn := []
  xe := fun _ _ => False

/-- what is written of the expression's scope; js: for each of its names the place in the def's names, if it is caught there -/
structure ScopeOk (X : Cx) (scope : Scope) (N : List Str) (js : List (Option Nat)) : Prop where
  kind : scope.kind = .function
  co : scope.isCoroutine = false
  cell : ∀ y ∈ scope.names, y.2 ≠ .cell
  dot : scope.names.lookup (".0" : Str) = some NameKind.local
  free : ∀ y ∈ scope.names, y.2 = .free → ∃ c, X.env.cells.lookup y.1 = some c
  len : js.length = N.length
  cap : ∀ (i j : Nat), js[i]? = some (some j) → ∃ x, N[i]? = some x ∧ X.N[j]? = some x ∧ scope.names.lookup x = some .free ∧ (X.env.scope.names.lookup x = some .cell ∨ X.env.scope.names.lookup x = some .free)
/-- the expression's own slots at its start -/
def begun (js : List (Option Nat)) (σ : L2.St) : L2.St := js.map fun o => o.bind fun j => (σ[j]?).join

theorem caught_get {X : Cx} {scope : Scope} {x : Str} {c : Addr} (S : ∀ y ∈ scope.names, y.2 = .free → ∃ c, X.env.cells.lookup y.1 = some c) (h : (caught X scope).lookup x = some c) : X.env.cells.lookup x = some c := by
  rcases cloFrom_mem (PySem.mem_of_lookup h) with z | ⟨z, e⟩
  · cases z
  · obtain ⟨c', hc⟩ := S _ z rfl
    have hc2 : X.env.cells.lookup x = some c' := hc
    rw [e, hc2]
    rfl
theorem caught_has {X : Cx} {scope : Scope} {x : Str} (S : ∀ y ∈ scope.names, y.2 = .free → ∃ c, X.env.cells.lookup y.1 = some c) (h : scope.names.lookup x = some .free) : ∃ c, (caught X scope).lookup x = some c ∧ X.env.cells.lookup x = some c := by
  obtain ⟨c, hc⟩ := mem_lookup (cloFrom_has (cells := X.env.cells) (acc := []) (PySem.mem_of_lookup h))
  exact ⟨c, hc, caught_get S hc⟩

section
variable {X : Cx} {pins : List (Addr × Obj)} {σ : L2.St} {H : Hp} {s s5 : Shared} {scope : Scope} {N : List Str} {js : List (Option Nat)} {A : Around} {fp : List Addr} {a : Addr} {go : Obj} {code : Value}

theorem fp_apart (I : Inv X pins σ H s) (hf : ∀ b ∈ fp, FpOk X pins H b) : ∀ b ∈ fp, b ∉ frs X.stack := fun b hb hm => by
  obtain ⟨_, h2, h3, _⟩ := hf b hb
  rcases List.mem_cons.mp (I.stkSub b hm) with z | z
  · exact h2 z
  · exact h3 z

theorem start_inv (S : ScopeOk X scope N js) (I : Inv X pins σ H s) (hA : A.handled = none) (hfr : A.frames = some (genEnv scope (caught X scope) s.heap.objs.size code builtinsNs X.env :: X.stack))
    (hf : ∀ b ∈ fp, FpOk X pins H b) (hlt : ∀ b ∈ fp, b < s.heap.objs.size) (keep : ∀ b o, s.heap.get? b = some o → s5.heap.get? b = some o) (hos : s5.os = s.os) (hba : AllBare s5.gens)
    (m : Str → Option Value) (hns : s5.heap.Ns s.heap.objs.size m) (ha : s.heap.objs.size < a) (hgo : s5.heap.get? a = some go) (hgc : ∀ v, go.data ≠ .cell v) :
    Inv (inner X scope code N A s H fp) [(a, go)] (begun js σ) H s5 := by
  have cg := fun {x : Str} {c : Addr} (h : (caught X scope).lookup x = some c) => caught_get S.free h
  refine ⟨⟨I.ok.mod, S.kind, I.ok.glob, rfl, Nat.le_refl _, fun x y c h1 h2 => I.ok.inj x y c (cg h1) (cg h2), fun x hx => ?_, fun x c h _ => ?_, fun _ => hA, hfr, .inr ⟨rfl, rfl⟩, fun b hb => ⟨Nat.ne_of_lt (hlt b hb), fun x c h => (hf b hb).2.2.2.2.1 x c (cg h)⟩,
    I.bs, Nat.le_trans I.ok.bsz I.sz, fun b o e hb => ?_, fun b hb => fp_apart I hf b hb, I.stack, I.stkFree⟩,
    hos, hba, Un.kept keep, ⟨m, hns, fun i x v h1 h2 h3 => ?_⟩, fun x c h => ?_, I.hok.fresh (Nat.le_refl _), fun x c h => I.freeC x c (cg h), fun p hp => ?_, I.hok.kept keep, ?_⟩
  · have hx' : scope.names.lookup x = some .cell ∨ scope.names.lookup x = some .free := hx
    rcases hx' with z | z
    · exact absurd rfl (S.cell _ (PySem.mem_of_lookup z))
    · obtain ⟨c, hc, _⟩ := caught_has S.free z
      exact ⟨c, hc⟩
  · cases h
  · obtain ⟨_, _, _, h4, _⟩ := hf b hb
    rcases h4 with z | z
    · exact I.ok.noex b o e z
    · exact absurd (Nat.lt_of_lt_of_le (Heap.lt_size e) (Nat.le_trans I.ok.bsz z)) (Nat.lt_irrefl _)
  · have h1 : N[i]? = some x := h1
    unfold begun at h2
    rw [List.getElem?_map] at h2
    cases hj : js[i]? with
    | none => rw [hj] at h2; cases h2
    | some o =>
      cases o with
      | none => rw [hj] at h2; cases h2
      | some j =>
        rw [hj] at h2
        have h2 : (σ[j]?).join = some v := Option.some.inj h2
        obtain ⟨x', e1, e2, e3, e4⟩ := S.cap i j hj
        rw [h1] at e1
        cases e1
        have hσ : σ[j]? = some (some v) := by
          cases q : σ[j]? with
          | none => rw [q] at h2; cases h2
          | some o2 =>
            cases o2 with
            | none => rw [q] at h2; cases h2
            | some v2 => rw [q] at h2; cases h2; rfl
        obtain ⟨mo, _, look⟩ := I.loc
        obtain ⟨u, ru, lk⟩ := look j x v e2 hσ (e4.elim (fun z => .inr (.inl z)) fun z => .inr (.inr z))
        refine ⟨u, ru, .inr ⟨.inr e3, ?_⟩⟩
        rcases lk with ⟨z, _⟩ | ⟨_, c, hc, cell⟩
        · have z : X.env.scope.names.lookup x = some .local := z
          rcases e4 with w | w
          · rw [w] at z; cases z
          · rw [w] at z; cases z
        · obtain ⟨c', hc', hx'⟩ := caught_has S.free e3
          rw [hc] at hx'
          cases hx'
          obtain ⟨ob, ho, hd⟩ := cell
          exact ⟨c, hc', ob, keep _ _ ho, hd⟩
  · obtain ⟨v, ob, ho, hd⟩ := I.cell x c (cg h)
    exact ⟨v, ob, keep _ _ ho, hd⟩
  · have hp' : p ∈ ([] : List (Addr × Obj)) ++ [(a, go)] := hp
    rw [List.nil_append] at hp'
    rw [List.mem_singleton.mp hp']
    refine ⟨hgo, I.hok.fresh (Nat.le_of_lt ha), Nat.ne_of_gt ha, fun hm => ?_, hgc⟩
    have hm' : a ∈ frs X.stack := hm
    rcases List.mem_cons.mp (I.stkSub a hm') with z | z
    · exact absurd (Nat.lt_trans I.lt (by rw [← z]; exact ha)) (Nat.lt_irrefl _)
    · exact I.nofs (Nat.le_of_lt ha) z
  · show (begun js σ).length = N.length
    unfold begun
    rw [List.length_map]
    exact S.len

/-- the iterator's objects, in the expression's own frame -/
theorem start_fp (S : ScopeOk X scope N js) (I : Inv X pins σ H s) (hf : ∀ b ∈ fp, FpOk X pins H b) (hlt : ∀ b ∈ fp, b < s.heap.objs.size) (ha : s.heap.objs.size < a) {H' : Hp} (hn : ∀ b ∈ fp, H' b = none) : ∀ b ∈ fp, FpOk (inner X scope code N A s H fp) [(a, go)] H' b := fun b hb =>
  ⟨hn b hb, Nat.ne_of_lt (hlt b hb), fp_apart I hf b hb, .inl hb, fun x c h => (hf b hb).2.2.2.2.1 x c (caught_get S.free h), fun p hp => by
    have hp' : p ∈ ([] : List (Addr × Obj)) ++ [(a, go)] := hp
    rw [List.nil_append] at hp'
    rw [List.mem_singleton.mp hp']
    exact Nat.ne_of_gt (Nat.lt_trans (hlt b hb) ha)⟩

/-- back in the def -/
theorem back_inv {σ' : L2.St} {H' : Hp} {s' : Shared} {gp : List (Addr × Obj)} (I : Inv X pins σ H s) (hf : ∀ b ∈ fp, FpOk X pins H b) (J : Inv (inner X scope code N A s H fp) gp σ' H' s') : Inv X pins σ H' s' :=
  I.call' (ch := fp) J.os J.base J.hok J.bare fun b hb => let ⟨_, h2, _, h4, h5, h6⟩ := hf b hb; ⟨h4, h2, h5, h6⟩
end
end Gx


set_option Elab.async false
set_option linter.all false
set_option maxRecDepth 100000
set_option maxHeartbeats 1000000
/-! Gx1: all and any over a generator expression whose elements may call. -/
namespace Gx
open PySem PySem.Spec PyProof.Rows L2 GenW

/-- what the consumer does while the generator sleeps -/
structure Idle (s s' : Shared) : Prop where
  os : s'.os = s.os
  bare : AllBare s'.gens
  keep : ∀ b o, s.heap.get? b = some o → s'.heap.get? b = some o
theorem Idle.refl {s : Shared} (h : AllBare s.gens) : Idle s s := ⟨rfl, h, fun _ _ e => e⟩

section
variable {Y : Cx} {a : Addr} {go : Obj}
def At (Y : Cx) (a : Addr) (go : Obj) (R : Hp → Prop) (s : Shared) : Prop := ∃ σ H, Inv Y [(a, go)] σ H s ∧ R H
theorem inv_idle {pins : List (Addr × Obj)} {σ : L2.St} {H : Hp} {s s' : Shared} (I : Inv Y pins σ H s) (z : Idle s s') : Inv Y pins σ H s' :=
  I.call' (ch := []) z.os (Un.kept z.keep) (I.hok.kept z.keep) z.bare fun b hb => by simp at hb
theorem At.idle {R : Hp → Prop} {s s' : Shared} (h : At Y a go R s) (z : Idle s s') : At Y a go R s' := by
  obtain ⟨σ, H, I, q⟩ := h
  exact ⟨σ, H, inv_idle I z, q⟩
theorem pin_go {σ : L2.St} {H : Hp} {s : Shared} (I : Inv Y [(a, go)] σ H s) : s.heap.get? a = some go :=
  (I.pin (a, go) (List.mem_append_right _ (List.mem_singleton.mpr rfl))).1

/-- the protocol: truths go out; behind the one that stops nothing more is asked -/
def Says (Y : Cx) (a : Addr) (go : Obj) (z : Bool) (QZ : Hp → Prop) : Protocol := fun n s₀ v s kap =>
  ∃ b, v = .bool b ∧ (∃ σ H, Inv Y [(a, go)] σ H s ∧ (b = z → QZ H)) ∧ (b ≠ z → ∀ s', Idle s s' → kap (.send .none) s')
def Ends (Y : Cx) (a : Addr) (go : Obj) (QT : Hp → Prop) : GenEnd := fun n s₀ r s₁ =>
  ((r = .ok (.ret .none) ∨ r = .ok .next) ∧ At Y a go QT s₁) ∨ ∃ e, r = .error e ∧ False
end

section
variable {Y : Cx} {tg iter elt : Expr} {scope : Scope} {pos : Pos} {it a : Addr} {go : Obj} {B : Around} {g : TG} {te : TE} {J : It} {fp : List Addr} {tn : Nat → Heap → Prop} {z : Bool} {QZ QT : Hp → Prop} {W : Nat → Nat → L2.St → Hp → Prop}

theorem seg_loop (hA : Y.A = B.over (loopOf tg iter elt scope pos it Y.env) []) (hco : Y.env.scope.isCoroutine = false) (hcalm : Y.calm = true) (hxe : Y.xe = fun _ _ => False)
    (hg : PG Y tg g) (he : PE Y elt te) (T : Turn Y.prog Y.w Y.K tg J fp it tn) (hf : ∀ {H' : Hp}, (∀ b ∈ fp, H' b = none) → ∀ b ∈ fp, FpOk Y [(a, go)] H' b)
    (turn : ∀ i m σ H, W i m σ H → (J.stop i H ∧ QT H) ∨ (J.go i H ∧ ∀ x H', J.yld i H x H' → g x σ H' fun σ2 H2 => te σ2 H2 fun v H3 => ∃ b, v = .bl b ∧ (b = z → QZ H3) ∧ (b ≠ z → ∃ m', m' < m ∧ W (i + 1) m' σ2 H3))) :
    ∀ (m i n : Nat) (s₀ s : Shared) (σ : L2.St) (H : Hp), m < n → Inv Y [(a, go)] σ H s → tn i s.heap → (∀ b ∈ fp, H b = none) → W i m σ H →
      Seg (model Y.prog Y.w) B (Ends Y a go QT) (Says Y a go z QZ) n s₀ (loopOf tg iter elt scope pos it Y.env) ((model Y.prog Y.w).den (loopOf tg iter elt scope pos it Y.env)) [] s := by
  have no : ∀ {e : Value} {s : Shared}, Y.xe e s → False := fun {e s} h => by rw [hxe] at h; exact h
  intro m
  induction m using Nat.strongRecOn with
  | ind m ih =>
    intro i n s₀ s σ H hn I st hfn w
    obtain ⟨n, rfl⟩ : ∃ k, n = k + 1 := ⟨n - 1, by omega⟩
    show Seg _ B _ _ _ s₀ _ ((compTurn (.GeneratorExp elt [⟨tg, iter, [], 0⟩] scope pos) 0 (.ref it) .none Y.env).onRaise (leaving Y.env)) [] s
    rw [compTurn_gen, Sem.onRaise_eq_wrap]
    refine seg_bind_wrap (wpAny_standAt ?_)
    rcases turn i m σ H w with ⟨stop, qt⟩ | ⟨goes, step⟩
    · refine seg_bind_wrap ?_
      rw [← hA]
      refine wpAny_mono (T.done Y rfl rfl rfl hcalm i _ s σ H (fun _ _ => False) I (hf hfn) st stop) (fun r s1 ⟨hr, I1⟩ => ?_) fun _ _ q => q.elim
      subst hr
      exact seg_end (.ok .next) (.inl ⟨.inr rfl, σ, H, I1, qt⟩)
    · refine seg_bind_wrap ?_
      rw [← hA]
      refine wpAny_mono (T.item Y rfl rfl rfl hcalm i _ s σ H (fun _ _ => False) I (hf hfn) st goes) (fun r s1 ⟨u, hr, h1⟩ => ?_) fun _ _ q => q.elim
      subst hr
      refine seg_bind_wrap ?_
      rw [← hA]
      refine wpAny_mono h1 (fun _ s2 ⟨x, H2, I2, rx, yx, st2, fn2⟩ => ?_) fun _ _ q => q.elim
      have I2' := I2.pinned (hf fn2) (T.obj _ _ st2)
      refine seg_bind_wrap ?_
      rw [← hA]
      refine wpAny_mono (hg.run _ s2 σ H2 x u _ I2' rx (step x H2 yx)) (fun _ s3 ⟨σ3, H3, I3, q3⟩ => ?_) fun _ _ q => (no q).elim
      refine seg_bind_wrap ?_
      simp only [List.forIn_nil]
      refine wpAny_pure ?_
      simp only [if_true]
      have hy : ∀ v, yieldOut Y.env v = yieldValue v := fun v => by simp only [yieldOut, hco, Bool.false_eq_true, if_false]
      simp only [hy]
      rw [Sem.bind_eq_wrap', Sem.bind_eq_wrap', Sem.wrap_wrap, Sem.wrap_wrap]
      refine seg_wrap ?_
      rw [← hA]
      refine wpAny_mono (he.run _ s3 σ3 H3 _ I3 q3) (fun y s4 ⟨v, H4, I4, rv, b, ev, qz, qn⟩ => ?_) fun _ _ q => (no q).elim
      subst ev
      have ey : y = Value.bool b := rv
      subst ey
      have tn4 : ∀ {s' : Shared}, (∀ b o, s4.heap.get? b = some o → s'.heap.get? b = some o) → tn (i + 1) s'.heap := fun {s'} k => T.keep _ _ _ st2 fun b hb o e =>
        k b o (I4.pin (b, o) (List.mem_append_right _ (List.mem_append_right _ (mem_pinsAt hb e)))).1
      have fn4 : ∀ b ∈ fp, H4 b = none := fun b hb => by
        obtain ⟨o, e, d⟩ := T.obj _ _ st2 b hb
        exact (I4.pin (b, o) (List.mem_append_right _ (List.mem_append_right _ (mem_pinsAt hb e)))).2.1
      refine seg_at (seg_yield rfl rfl rfl ⟨b, rfl, ⟨σ3, H4, I4.unpinned, qz⟩, fun hb s' zz => ?_⟩)
      obtain ⟨m', hm, w'⟩ := qn hb
      exact seg_again rfl (ih m' hm (i + 1) n s' s' σ3 H4 (by omega) (inv_idle I4.unpinned zz) (tn4 zz.keep) fn4 w')

theorem seg_begin {n : Nat} {s₀ s : Shared} (htn : tn 0 s.heap) (T : Turn Y.prog Y.w Y.K tg J fp it tn)
    (loop : Seg (model Y.prog Y.w) B (Ends Y a go QT) (Says Y a go z QZ) n s₀ (loopOf tg iter elt scope pos it Y.env) ((model Y.prog Y.w).den (loopOf tg iter elt scope pos it Y.env)) [] s) :
    Seg (model Y.prog Y.w) B (Ends Y a go QT) (Says Y a go z QZ) n s₀ (beginOf tg iter elt scope pos it Y.env) ((model Y.prog Y.w).den (beginOf tg iter elt scope pos it Y.env)) [] s := by
  show Seg _ B _ _ _ s₀ _ ((compStart (.GeneratorExp elt [⟨tg, iter, [], 0⟩] scope pos) 0 (.ref it) .none Y.env).onRaise (leaving Y.env)) [] s
  unfold compStart
  rw [Sem.onRaise_eq_wrap]
  show Seg _ B _ _ _ s₀ _ ((ask >>= _).wrap _ _ _ _) [] s
  refine seg_bind_wrap (wpAny_askSetting ?_)
  split
  · exact seg_again rfl loop
  · first
      | exact seg_bind_wrap (wpAny_rule (seg_bind_wrap (wpAny_standAt (seg_bind_wrap (T.self _ 0 s _ _ htn (seg_again rfl loop))))))
      | (refine seg_bind_wrap (wpAny_rule ?_); show Seg _ B _ _ _ s₀ _ ((standAt iter.pos >>= _).wrap _ _ _ _) [] s; exact seg_bind_wrap (wpAny_standAt (seg_bind_wrap (T.self _ 0 s _ _ htn (seg_again rfl loop)))))

/-- all's loop over it -/
theorem drain_all {A : Around} {R : Result → Shared → Prop} {gi : Nat} (hh : A.handled = none) (hd : A.depth < recursionLimit) (hgo : ∀ h : Heap, h.get? a = some go → h.IsGen a gi)
    (hend : ∀ s s', At Y a go QT s → Idle s s' → R (.ok (.ret (.bool true))) s') (hstop : ∀ s s', At Y a go QZ s → Idle s s' → R (.ok (.ret (.bool false))) s') :
    ∀ (n : Nat) (s : Shared), s.heap.IsGen a gi → s.heap.NoLimit → AllBare s.gens → (∃ gs, s.gens[gi]? = some gs ∧ gs.Goes (model Y.prog Y.w) A.in1.in1 (Ends Y a go QT) (Says Y a go false QZ) n (.send .none) (s.setGen gi .running)) →
      codeAny (model Y.prog Y.w) A (.builtin "all.loop" ⟨[.ref a], []⟩) R s := by
  intro n
  induction n with
  | zero =>
    intro s hg hl hb ⟨gs, hgs, hgoes⟩
    refine codeAny_builtin F.entry_all_loop ?_
    rw [Around.under_plainId F.plain_all_loop _]
    show wpAny _ A.in1 (pyNext (.ref a) >>= _) _ _ s
    refine wpAny_bind (next_genG (A := A.in1) (F := fun _ _ s₁ => At Y a go QT s₁) (Er := fun _ _ => False) hh hl hd hg hgs hgoes (fun v s₁ gs' hbare hv => ?_) (fun s₁ hp h' hk => ?_) fun e s₁ he => he.elim)
    · obtain ⟨b, rfl, ⟨σ, H, I, qz⟩, hk⟩ := hv
      cases b with
      | true => exact (hk (by decide) s₁ (Idle.refl I.bare)).elim
      | false =>
        refine wpAny_bind (wpAny_holding (wpAny_truthy_bool ?_))
        refine wpAny_bind (wpAny_letGo ?_)
        simp only [Bool.false_eq_true, if_false]
        refine wpAny_bind (wpAny_rule (wpAny_pure ?_))
        exact hstop s₁ _ ⟨σ, H, I, qz rfl⟩ ⟨rfl, allBare_setGen I.bare hbare, fun _ _ e => e⟩
    · have hb1 : AllBare s₁.gens := let ⟨_, _, I, _⟩ := hp; I.bare
      refine wpAny_bind (wpAny_rule (wpAny_pure ?_))
      exact hend s₁ _ hp ⟨rfl, allBare_setGen hb1 rfl, hk⟩
  | succ n ih =>
    intro s hg hl hb ⟨gs, hgs, hgoes⟩
    have hgl : gi < s.gens.size := (Array.getElem?_eq_some_iff.mp hgs).1
    refine codeAny_builtin F.entry_all_loop ?_
    rw [Around.under_plainId F.plain_all_loop _]
    show wpAny _ A.in1 (pyNext (.ref a) >>= _) _ _ s
    refine wpAny_bind (wpAny_gsz (n := gi + 1) hgl (next_genG (A := A.in1) (F := fun _ _ s₁ => At Y a go QT s₁) (Er := fun _ _ => False) hh hl hd hg hgs hgoes (fun v s₁ gs' hbare hv => ?_) (fun s₁ hp h' hk => ?_) fun e s₁ he => he.elim))
    · intro hsz
      obtain ⟨b, rfl, ⟨σ, H, I, qz⟩, hk⟩ := hv
      refine wpAny_bind (wpAny_holding (wpAny_truthy_bool ?_))
      refine wpAny_bind (wpAny_letGo ?_)
      have hsz1 : gi < s₁.gens.size := by
        have q : (s₁.setGen gi gs').gens.size = s₁.gens.size := setGen_size _ _ _
        have hsz' : gi + 1 ≤ (s₁.setGen gi gs').gens.size := hsz
        omega
      cases b with
      | true =>
        simp only [if_true]
        refine wpAny_pure ⟨plainId_quiet F.plain_all_loop _, ih (s₁.setGen gi gs') (hgo s₁.heap (pin_go I)) I.nolimit (allBare_setGen I.bare hbare) ⟨gs', setGen_at hsz1, ?_⟩⟩
        exact hk (by decide) _ ⟨rfl, allBare_setGen (s := s₁.setGen gi gs') (allBare_setGen I.bare hbare) rfl, fun _ _ e => e⟩
      | false =>
        simp only [Bool.false_eq_true, if_false]
        refine wpAny_bind (wpAny_rule (wpAny_pure ?_))
        exact hstop s₁ _ ⟨σ, H, I, qz rfl⟩ ⟨rfl, allBare_setGen I.bare hbare, fun _ _ e => e⟩
    · intro hsz
      have hb1 : AllBare s₁.gens := let ⟨_, _, I, _⟩ := hp; I.bare
      refine wpAny_bind (wpAny_rule (wpAny_pure ?_))
      exact hend s₁ _ hp ⟨rfl, allBare_setGen hb1 rfl, hk⟩

/-- any's loop over it -/
theorem drain_any {A : Around} {R : Result → Shared → Prop} {gi : Nat} (hh : A.handled = none) (hd : A.depth < recursionLimit) (hgo : ∀ h : Heap, h.get? a = some go → h.IsGen a gi)
    (hend : ∀ s s', At Y a go QT s → Idle s s' → R (.ok (.ret (.bool false))) s') (hstop : ∀ s s', At Y a go QZ s → Idle s s' → R (.ok (.ret (.bool true))) s') :
    ∀ (n : Nat) (s : Shared), s.heap.IsGen a gi → s.heap.NoLimit → AllBare s.gens → (∃ gs, s.gens[gi]? = some gs ∧ gs.Goes (model Y.prog Y.w) A.in1.in1 (Ends Y a go QT) (Says Y a go true QZ) n (.send .none) (s.setGen gi .running)) →
      codeAny (model Y.prog Y.w) A (.builtin "any.loop" ⟨[.ref a], []⟩) R s := by
  intro n
  induction n with
  | zero =>
    intro s hg hl hb ⟨gs, hgs, hgoes⟩
    refine codeAny_builtin F.entry_any_loop ?_
    rw [Around.under_plainId F.plain_any_loop _]
    show wpAny _ A.in1 (pyNext (.ref a) >>= _) _ _ s
    refine wpAny_bind (next_genG (A := A.in1) (F := fun _ _ s₁ => At Y a go QT s₁) (Er := fun _ _ => False) hh hl hd hg hgs hgoes (fun v s₁ gs' hbare hv => ?_) (fun s₁ hp h' hk => ?_) fun e s₁ he => he.elim)
    · obtain ⟨b, rfl, ⟨σ, H, I, qz⟩, hk⟩ := hv
      cases b with
      | false => exact (hk (by decide) s₁ (Idle.refl I.bare)).elim
      | true =>
        refine wpAny_bind (wpAny_holding (wpAny_truthy_bool ?_))
        refine wpAny_bind (wpAny_letGo ?_)
        simp only [if_true]
        refine wpAny_bind (wpAny_rule (wpAny_pure ?_))
        exact hstop s₁ _ ⟨σ, H, I, qz rfl⟩ ⟨rfl, allBare_setGen I.bare hbare, fun _ _ e => e⟩
    · have hb1 : AllBare s₁.gens := let ⟨_, _, I, _⟩ := hp; I.bare
      refine wpAny_bind (wpAny_rule (wpAny_pure ?_))
      exact hend s₁ _ hp ⟨rfl, allBare_setGen hb1 rfl, hk⟩
  | succ n ih =>
    intro s hg hl hb ⟨gs, hgs, hgoes⟩
    have hgl : gi < s.gens.size := (Array.getElem?_eq_some_iff.mp hgs).1
    refine codeAny_builtin F.entry_any_loop ?_
    rw [Around.under_plainId F.plain_any_loop _]
    show wpAny _ A.in1 (pyNext (.ref a) >>= _) _ _ s
    refine wpAny_bind (wpAny_gsz (n := gi + 1) hgl (next_genG (A := A.in1) (F := fun _ _ s₁ => At Y a go QT s₁) (Er := fun _ _ => False) hh hl hd hg hgs hgoes (fun v s₁ gs' hbare hv => ?_) (fun s₁ hp h' hk => ?_) fun e s₁ he => he.elim))
    · intro hsz
      obtain ⟨b, rfl, ⟨σ, H, I, qz⟩, hk⟩ := hv
      refine wpAny_bind (wpAny_holding (wpAny_truthy_bool ?_))
      refine wpAny_bind (wpAny_letGo ?_)
      have hsz1 : gi < s₁.gens.size := by
        have q : (s₁.setGen gi gs').gens.size = s₁.gens.size := setGen_size _ _ _
        have hsz' : gi + 1 ≤ (s₁.setGen gi gs').gens.size := hsz
        omega
      cases b with
      | false =>
        simp only [Bool.false_eq_true, if_false]
        refine wpAny_pure ⟨plainId_quiet F.plain_any_loop _, ih (s₁.setGen gi gs') (hgo s₁.heap (pin_go I)) I.nolimit (allBare_setGen I.bare hbare) ⟨gs', setGen_at hsz1, ?_⟩⟩
        exact hk (by decide) _ ⟨rfl, allBare_setGen (s := s₁.setGen gi gs') (allBare_setGen I.bare hbare) rfl, fun _ _ e => e⟩
      | true =>
        simp only [if_true]
        refine wpAny_bind (wpAny_rule (wpAny_pure ?_))
        exact hstop s₁ _ ⟨σ, H, I, qz rfl⟩ ⟨rfl, allBare_setGen I.bare hbare, fun _ _ e => e⟩
    · intro hsz
      have hb1 : AllBare s₁.gens := let ⟨_, _, I, _⟩ := hp; I.bare
      refine wpAny_bind (wpAny_rule (wpAny_pure ?_))
      exact hend s₁ _ hp ⟨rfl, allBare_setGen hb1 rfl, hk⟩
end
end Gx


set_option Elab.async false
set_option linter.all false
set_option maxRecDepth 100000
set_option maxHeartbeats 1000000
/-! Gx2: the rules pe_allG, pe_anyG. -/
namespace Gx
open PySem PySem.Spec PyProof.Rows L2 GenW GxR

/-- what all (z = false) and any (z = true) of a generator expression ask -/
def tQuant (z : Bool) (P : Addr) (js : List (Option Nat)) (wi : TI) (g : TG) (te : TE) : TE := fun σ H Q => wi σ H fun J H1 => TabG H1 P ∧ ∀ H2, Tabbed P H1 H2 →
  ∃ W : Nat → Nat → L2.St → Hp → Prop, (∃ m, W 0 m (begun js σ) H2) ∧ ∀ i m σ' H', W i m σ' H' → (J.stop i H' ∧ Q (.bl (!z)) H') ∨
    (J.go i H' ∧ ∀ x H3, J.yld i H' x H3 → g x σ' H3 fun σ2 H4 => te σ2 H4 fun v H5 => ∃ b, v = .bl b ∧ (b = z → Q (.bl z) H5) ∧ (b ≠ z → ∃ m', m' < m ∧ W (i + 1) m' σ2 H5))

section
variable {X : Cx} {pins : List (Addr × Obj)} {σ : L2.St} {H : Hp} {s : Shared} {scope : Scope} {N : List Str} {js : List (Option Nat)} {tg iter elt : Expr} {gpos : Pos} {wi : TI} {g : TG} {te : TE} {k : Nat} {c P : Addr}

theorem room_in {A : Around} {k : Nat} {cd : Code} (r : Room (k + 1) A) (h1 : cd.weight ≤ 1) (h2 : cd.cUnits ≤ 3) : Room k (A.in1.in1.over cd []) :=
  ⟨r.hd, by
    have := r.dp
    show A.depth + 0 + cd.weight + 3 * k + 5 < recursionLimit
    omega, by
    have := r.un
    show A.units + 1 + 1 + 0 + cd.cUnits + 16 * k + 200 < cLine
    omega⟩

/-- the generator stands, ready to be drained -/
theorem made_all {z : Bool} {Q : VK} {Q' : Value → Shared → Prop}
    (hr : Room (k + 1) X.A) (TB : TabB X.base X.mg c P) (hcode : X.env.code = .ref c) (S : ScopeOk X scope N js) (hi : PI X tg iter wi)
    (hb : ∀ (code : Value) (A : Around) (s : Shared) (H : Hp) (ex : List Addr), Room k A → PG (inner X scope code N A s H ex) tg g ∧ PE (inner X scope code N A s H ex) elt te)
    (hs : ∀ v, genFold iter X.env v = pure v) (I : Inv X pins σ H s) (h : tQuant z P js wi g te σ H Q)
    (hQ : ∀ (a gi : Nat) (s5 : Shared) (Y : Cx) (go : Obj) (n : Nat), Y.prog = X.prog → Y.w = X.w → s5.heap.IsGen a gi → s5.heap.NoLimit → AllBare s5.gens → (∀ h : Heap, h.get? a = some go → h.IsGen a gi) →
      (∀ s6, Idle s5 s6 → ∃ gs, s6.gens[gi]? = s5.gens[gi]? → s6.gens[gi]? = some gs ∧ gs.Goes (model X.prog X.w) X.A.in1.in1 (Ends Y a go fun H' => Q (.bl (!z)) H') (Says Y a go z fun H' => Q (.bl z) H') n (.send .none) (s6.setGen gi .running)) →
      (∀ (R : Hp → Prop) s1 s2, At Y a go R s1 → Idle s1 s2 → ∃ H', Inv X pins σ H' s2 ∧ R H') → Q' (.ref a) s5) :
    wpAny (model X.prog X.w) X.A (eval (.GeneratorExp elt [⟨tg, iter, [], 0⟩] scope gpos) X.env) Q' X.xe s := by
  refine wpAny_GeneratorExp_make S.co (closure_ok S.free) S.cell S.dot S.kind (by have := hr.dp; omega) ?_ hs
  refine thn (hi.run pins s σ H _ I h) fun xv s1 h1 => thn h1 fun itv s2 h2 => ?_
  obtain ⟨it, fp, tn, J, H2, e, I2, T, st2, f2, ⟨ps, hP, ht⟩, q⟩ := h2
  subst e
  have hPs : s2.heap.get? P = some { cls := .none, data := .fields ps } := I2.hok P _ hP
  have lim2 : s2.heap.NoLimit := I2.nolimit
  refine ⟨lim2, ?_⟩
  have fpP : ∀ b ∈ fp, b ≠ P := fun b hb e => by
    have := (f2 b hb).1
    rw [e, hP] at this
    cases this
  have cont : ∀ (code : Value) (h3 : Heap) (tk : Nat) (ps' : Array Value), Heap.ExtBut P s2.heap h3 → h3.get? P = some { cls := .none, data := .fields ps' } → (∃ more, ps' = ps ++ more) → TriplesOk ps'.toList →
      wpAny (model X.prog X.w) X.A (builtinsFor X.env.globals X.env.builtins) (fun bi s₄ =>
        ∀ h', h'.Ns s₄.heap.objs.size (fun y => if y = ".0" then some (Value.ref it) else none) → Heap.SameBut s₄.heap.objs.size (s₄.heap.push { cls := .type "frame", data := .dict #[] }) h' →
          Q' (.ref h'.objs.size) { s₄ with
            gens := s₄.gens.push (.fresh (.compStart (.GeneratorExp elt [⟨tg, iter, [], 0⟩] scope gpos) 0 (.ref it) .none (genEnv scope (caught X scope) s₄.heap.objs.size code bi X.env))),
            toks := s₄.toks + 1 + 1 + 1,
            heap := h'.push { cls := .type "generator", data := .fields #[.int s₄.gens.size 0, .str "<genexpr>" (s₄.toks + 1), .str (X.env.qual ++ "<genexpr>") (s₄.toks + 1 + 1)] } }) X.xe { s2 with heap := h3, toks := tk } := by
    intro code h3 tk ps' hx hP3 hmore ht3
    obtain ⟨more, rfl⟩ := hmore
    obtain ⟨bm, ob, e1, e2, e3, e4, e5, e6, e7, e8⟩ := TB.bm
    have keep3 : ∀ b u, b ≠ P → s2.heap.get? b = some u → h3.get? b = some u := fun b u hb e => hx b u hb e
    have I3 : Inv X pins σ (upd H2 P (.tbl (ps ++ more))) { s2 with heap := h3, toks := tk } := inv_tab (more := more) (h' := h3) (g' := s2.gens) (d' := s2.drawn) (t' := tk) I2 hP keep3 hP3 I2.bare
    refine wpAny_builtinsFor (m := X.mg) (by rw [I2.ok.glob]; exact (I2.mod.glob.keeps I2.bk).extBut hx TB.gP) e1 e2 (keep3 _ _ e4 (I2.bk _ _ e5)) e6 e7 e8 ?_
    intro h' hns' hsb
    have sz' : h'.objs.size = h3.objs.size + 1 := by rw [hsb.1, Heap.size_push]
    have kp' : ∀ b o, h3.get? b = some o → h'.get? b = some o := fun b o e => hsb.extBut b o (Nat.ne_of_lt (Heap.lt_size e)) (Heap.get?_push_of_some _ e)
    have main : ∀ (go : Obj) (nm qn : Value) (tk2 : Nat), go.cls = .type "generator" → go.data = .fields #[.int s2.gens.size 0, nm, qn] → go.slots = #[] → (∀ h : Heap, (h.push go).get? h.objs.size = some go) →
        Q' (.ref h'.objs.size) { s2 with gens := s2.gens.push (.fresh (.compStart (.GeneratorExp elt [⟨tg, iter, [], 0⟩] scope gpos) 0 (.ref it) .none (genEnv scope (caught X scope) h3.objs.size code builtinsNs X.env))), toks := tk2, heap := h'.push go } := by
      intro go nm qn tk2 hgc hgd hgs hgp
      have hgen : ∀ h : Heap, h.get? h'.objs.size = some go → h.IsGen h'.objs.size s2.gens.size := fun h e => ⟨go, nm, qn, e, hgc, hgd, hgs⟩
      have hpushed : (h'.push go).get? h'.objs.size = some go := hgp _
      have kp5 : ∀ b o, h3.get? b = some o → (h'.push go).get? b = some o := fun b o e => Heap.get?_push_of_some _ (kp' b o e)
      have hlt : ∀ b ∈ fp, b < h3.objs.size := fun b hb => by
        obtain ⟨o, eo, _⟩ := T.obj _ _ st2 b hb
        exact Heap.lt_size (keep3 b o (fpP b hb) eo)
      have f3 : ∀ b ∈ fp, FpOk X pins (upd H2 P (.tbl (ps ++ more))) b := fun b hb => ⟨by rw [upd_ne (fpP b hb)]; exact (f2 b hb).1, (f2 b hb).2⟩
      have halt : h3.objs.size < h'.objs.size := by rw [sz']; exact Nat.lt_succ_self _
      have ab5 : AllBare (s2.gens.push (.fresh (.compStart (.GeneratorExp elt [⟨tg, iter, [], 0⟩] scope gpos) 0 (.ref it) .none (genEnv scope (caught X scope) h3.objs.size code builtinsNs X.env)))) := AllBare.push I2.bare rfl
      let B : Around := X.A.in1.in1
      let cd : Code := loopOf tg iter elt scope gpos it (genEnv scope (caught X scope) h3.objs.size code builtinsNs X.env)
      let A5 : Around := B.over cd []
      let s3 : Shared := { s2 with heap := h3, toks := tk }
      have rm : Room k A5 := room_in hr (Nat.le_refl _) (Nat.le_refl _)
      have hfr : A5.frames = some (genEnv scope (caught X scope) h3.objs.size code builtinsNs X.env :: X.stack) := by
        show pushEnvs cd.envs (pushEnvs [] X.A.frames) = _
        rw [I2.ok.frames]
        rfl
      obtain ⟨hPG, hPE⟩ := hb code A5 s3 (upd H2 P (.tbl (ps ++ more))) fp rm
      let Y : Cx := inner X scope code N A5 s3 (upd H2 P (.tbl (ps ++ more))) fp
      obtain ⟨W, ⟨m0, w0⟩, turn⟩ := q _ ⟨⟨ps ++ more, upd_same, ht3⟩, fun b hb => upd_ne hb⟩
      refine hQ h'.objs.size s2.gens.size _ Y go (m0 + 1) rfl rfl (hgen _ hpushed) (lim2.extBut hx (fun e => ?_) |>.keeps kp5) ab5 hgen (fun s6 z6 => ⟨.fresh (.compStart (.GeneratorExp elt [⟨tg, iter, [], 0⟩] scope gpos) 0 (.ref it) .none (genEnv scope (caught X scope) h3.objs.size code builtinsNs X.env)), fun hsame => ?_⟩) fun R s1' s2' hAt hz => ?_
      · obtain ⟨_, hns0, _⟩ := lim2
        obtain ⟨o', es, ep, ho, hd, _⟩ := hns0
        rw [e, hPs] at ho
        cases ho
        cases hd
      · refine ⟨hsame.trans (Array.getElem?_push_size ..), rfl, ?_⟩
        have z7 : Idle { s2 with gens := s2.gens.push (.fresh (.compStart (.GeneratorExp elt [⟨tg, iter, [], 0⟩] scope gpos) 0 (.ref it) .none (genEnv scope (caught X scope) h3.objs.size code builtinsNs X.env))), toks := tk2, heap := h'.push go } (s6.setGen s2.gens.size .running) :=
          ⟨z6.os, allBare_setGen z6.bare rfl, z6.keep⟩
        have J5 : Inv Y [(h'.objs.size, go)] (begun js σ) (upd H2 P (.tbl (ps ++ more))) { s2 with gens := s2.gens.push (.fresh (.compStart (.GeneratorExp elt [⟨tg, iter, [], 0⟩] scope gpos) 0 (.ref it) .none (genEnv scope (caught X scope) h3.objs.size code builtinsNs X.env))), toks := tk2, heap := h'.push go } :=
          start_inv (s := s3) S I3 rm.hd hfr f3 hlt kp5 rfl ab5 _ (hns'.push go) halt hpushed (fun v e => by rw [hgd] at e; cases e)
        have J6 := inv_idle J5 z7
        have st6 : tn 0 (s6.setGen s2.gens.size .running).heap := T.keep _ _ _ st2 fun b hb o e => z7.keep b o (kp5 b o (keep3 b o (fpP b hb) e))
        refine seg_begin (Y := Y) (J := J) (fp := fp) (tn := tn) st6 T ?_
        exact seg_loop (Y := Y) (W := W) rfl S.co rfl rfl hPG hPE T (fun hn => start_fp (s := s3) S I3 f3 hlt halt hn) turn m0 0 (m0 + 1) _ _ _ _ (Nat.lt_succ_self _) J6 st6 (fun b hb => (f3 b hb).1) w0
      · obtain ⟨σ', H', J', r⟩ := hAt
        have J'' := inv_idle J' hz
        exact ⟨H', back_inv (s := s3) I3 f3 J'', r⟩
    exact main _ _ _ _ rfl rfl rfl fun h => Heap.get?_push_size _ rfl
  have cd : PySem.W.CodeHd s2.heap c P := TB.code.keeps fun b u e => I2.bk b u e
  cases hf : codeAmong gpos ps.toList with
  | none =>
    refine wpAny_genexprCodeX hcode (cd.code hPs ht) (cd.tab hPs) hf fun c' h' tk hx hge hlt hco' _ htab' _ => ?_
    obtain ⟨o1, vs, f1, tf, fl, tg', inF, tx, tt, op, _, _, _, _, _, _, _, _, _, htr, _⟩ := hco'
    exact cont _ h' tk _ hx htab'.2 ⟨_, rfl⟩ htr
  | some cv =>
    refine wpAny_genexprCode_hit hcode (cd.code hPs ht) hf ?_
    exact cont cv s2.heap s2.toks ps (Heap.ExtBut.refl _ _) hPs ⟨#[], by simp⟩ ht

theorem pe_allG {p pos : Pos}
    (hr : Room (k + 1) X.A) (hg : Gl X "all") (hm : X.mg "all" = none) (hbt : bootBuiltins "all" = some (.builtin "all")) (TB : TabB X.base X.mg c P) (hcode : X.env.code = .ref c) (S : ScopeOk X scope N js) (hi : PI X tg iter wi)
    (hb : ∀ (code : Value) (A : Around) (s : Shared) (H : Hp) (ex : List Addr), Room k A → PG (inner X scope code N A s H ex) tg g ∧ PE (inner X scope code N A s H ex) elt te)
    (hs : ∀ v, genFold iter X.env v = pure v)
    (he : starEach [.GeneratorExp elt [⟨tg, iter, [], 0⟩] scope gpos] X.env = (false, eval (.GeneratorExp elt [⟨tg, iter, [], 0⟩] scope gpos) X.env) :: starEach [] X.env := by rfl) :
    PE X (.Call (.Name "all" p) [.GeneratorExp elt [⟨tg, iter, [], 0⟩] scope gpos] [] pos) (tQuant false P js wi g te) := by
  refine ⟨fun pins s σ H Q I h => ?_⟩
  refine wpAny_Call_Name_kw (ld_blt I hg hm hbt ?_)
  refine PyProof.Rows.callWith_builtin1 ?_ he (by rfl)
  rw [he]
  show wpAny _ _ (spliced ((false, eval (.GeneratorExp elt [⟨tg, iter, [], 0⟩] scope gpos) X.env) :: backTo pos (starEach [] X.env))) _ _ s
  refine Calls.spliced_cons (made_all hr TB hcode S hi hb hs I h fun a gi s5 Y go n e1 e2 hgen hlim hbare hgo hgoes hback => ?_)
  refine Calls.spliced_nil ?_
  refine call_function_tree F.kind_all F.plain_all F.entry_all (F.args_all1 _) ?_
  unfold Builtin.«all»
  refine wpAny_bind (m := oneArg "all" _) (wpAny_pure ?_)
  refine wpAny_bind (wpAny_pyIter_gen hgen ?_)
  obtain ⟨gs, hgs⟩ := hgoes s5 (Idle.refl hbare)
  obtain ⟨hg1, hg2⟩ := hgs rfl
  refine wpAny_pure ⟨plainId_quiet F.plain_all_loop _, ?_⟩
  rw [← e1, ← e2] at hg2 ⊢
  refine drain_all (Y := Y) hr.hd (by have := hr.dp; omega) hgo (fun s1 s2 hAt hz => ?_) (fun s1 s2 hAt hz => ?_) n s5 hgen hlim hbare ⟨gs, hg1, hg2⟩
  · obtain ⟨H', J, q⟩ := hback _ s1 s2 hAt hz
    exact ⟨.bl true, H', J, rfl, q⟩
  · obtain ⟨H', J, q⟩ := hback _ s1 s2 hAt hz
    exact ⟨.bl false, H', J, rfl, q⟩

theorem pe_anyG {p pos : Pos}
    (hr : Room (k + 1) X.A) (hg : Gl X "any") (hm : X.mg "any" = none) (hbt : bootBuiltins "any" = some (.builtin "any")) (TB : TabB X.base X.mg c P) (hcode : X.env.code = .ref c) (S : ScopeOk X scope N js) (hi : PI X tg iter wi)
    (hb : ∀ (code : Value) (A : Around) (s : Shared) (H : Hp) (ex : List Addr), Room k A → PG (inner X scope code N A s H ex) tg g ∧ PE (inner X scope code N A s H ex) elt te)
    (hs : ∀ v, genFold iter X.env v = pure v)
    (he : starEach [.GeneratorExp elt [⟨tg, iter, [], 0⟩] scope gpos] X.env = (false, eval (.GeneratorExp elt [⟨tg, iter, [], 0⟩] scope gpos) X.env) :: starEach [] X.env := by rfl) :
    PE X (.Call (.Name "any" p) [.GeneratorExp elt [⟨tg, iter, [], 0⟩] scope gpos] [] pos) (tQuant true P js wi g te) := by
  refine ⟨fun pins s σ H Q I h => ?_⟩
  refine wpAny_Call_Name_kw (ld_blt I hg hm hbt ?_)
  refine PyProof.Rows.callWith_builtin1 ?_ he (by rfl)
  rw [he]
  show wpAny _ _ (spliced ((false, eval (.GeneratorExp elt [⟨tg, iter, [], 0⟩] scope gpos) X.env) :: backTo pos (starEach [] X.env))) _ _ s
  refine Calls.spliced_cons (made_all hr TB hcode S hi hb hs I h fun a gi s5 Y go n e1 e2 hgen hlim hbare hgo hgoes hback => ?_)
  refine Calls.spliced_nil ?_
  refine call_function_tree F.kind_any F.plain_any F.entry_any (F.args_any1 _) ?_
  unfold Builtin.«any»
  refine wpAny_bind (m := oneArg "any" _) (wpAny_pure ?_)
  refine wpAny_bind (wpAny_pyIter_gen hgen ?_)
  obtain ⟨gs, hgs⟩ := hgoes s5 (Idle.refl hbare)
  obtain ⟨hg1, hg2⟩ := hgs rfl
  refine wpAny_pure ⟨plainId_quiet F.plain_any_loop _, ?_⟩
  rw [← e1, ← e2] at hg2 ⊢
  refine drain_any (Y := Y) hr.hd (by have := hr.dp; omega) hgo (fun s1 s2 hAt hz => ?_) (fun s1 s2 hAt hz => ?_) n s5 hgen hlim hbare ⟨gs, hg1, hg2⟩
  · obtain ⟨H', J, q⟩ := hback _ s1 s2 hAt hz
    exact ⟨.bl false, H', J, rfl, q⟩
  · obtain ⟨H', J, q⟩ := hback _ s1 s2 hAt hz
    exact ⟨.bl true, H', J, rfl, q⟩
end
end Gx


set_option Elab.async false
set_option linter.all false
set_option maxRecDepth 100000
set_option maxHeartbeats 1000000
/-! Tk0: what an expression is worth, as data: EE, ET, EA; heaps that grow, tables that may change. -/
namespace Tk
open PySem PySem.Spec PyProof.Rows L2 GxR

/-- the tables that nobody but their own def writes -/
class LamTab where
  is : Addr → Prop
variable [LamTab]
/-- the heap has grown; tables of code objects may be others, but those that LamTab names stay -/
structure Le (H H' : Hp) : Prop where
  keep : ∀ a o, H a = some o → (∀ ps, o = .tbl ps → LamTab.is a) → H' a = some o
  tab : ∀ P, TabG H P → TabG H' P
  there : ∀ a, H' a = none → H a = none
theorem Le.refl (H : Hp) : Le H H := ⟨fun _ _ h _ => h, fun _ h => h, fun _ h => h⟩
theorem Le.trans {H H1 H2 : Hp} (a : Le H H1) (b : Le H1 H2) : Le H H2 :=
  ⟨fun x o h n => b.keep x o (a.keep x o h n) n, fun P h => b.tab P (a.tab P h), fun x h => a.there x (b.there x h)⟩
theorem Le.new {H : Hp} {p : Addr} {o : HO} (h : H p = none) : Le H (upd H p o) :=
  ⟨fun a u e _ => by rw [upd_ne (ne_of_none e h)]; exact e, fun P ⟨ps, e, t⟩ => ⟨ps, by rw [upd_ne (ne_of_none e h)]; exact e, t⟩,
   fun a e => by
    by_cases z : a = p
    · rw [z]; exact h
    · rw [upd_ne z] at e; exact e⟩
/-- an object that H does not know may change -/
theorem Le.mut {H H' : Hp} {p : Addr} {o : HO} (e : Le H H') (h : H p = none) : Le H (upd H' p o) :=
  ⟨fun a u q n => by rw [upd_ne (ne_of_none q h)]; exact e.keep a u q n, fun P t => by
    obtain ⟨ps, q, r⟩ := e.tab P t
    have hP : P ≠ p := by
      obtain ⟨ps0, q0, _⟩ := t
      exact ne_of_none q0 h
    exact ⟨ps, by rw [upd_ne hP]; exact q, r⟩, fun a q => by
    by_cases z : a = p
    · rw [z]; exact h
    · rw [upd_ne z] at q; exact e.there a q⟩
theorem Le.tabbed {P : Addr} {H H' : Hp} (g : TabG H P) (t : Tabbed P H H') (hs : ¬ LamTab.is P) : Le H H' := by
  obtain ⟨ps, e, _⟩ := g
  obtain ⟨t1, t2⟩ := t
  refine ⟨fun a o q n => ?_, fun Q hQ => ?_, fun a q => ?_⟩
  · rw [t2 a fun z => hs (by rw [← z]; exact n ps (by rw [z, e] at q; exact (Option.some.inj q).symm))]
    exact q
  · by_cases z : Q = P
    · rw [z]; exact t1
    · obtain ⟨ps', q, r⟩ := hQ
      exact ⟨ps', by rw [t2 Q z]; exact q, r⟩
  · by_cases z : a = P
    · rw [z] at q
      obtain ⟨ps', q', _⟩ := t1
      rw [q] at q'
      cases q'
    · rw [← t2 a z]; exact q

def Tbs (T : List Addr) (H : Hp) : Prop := ∀ P ∈ T, TabG H P ∧ ¬ LamTab.is P
theorem Tbs.le {T : List Addr} {H H' : Hp} (t : Tbs T H) (e : Le H H') : Tbs T H' := fun P hP => ⟨e.tab P (t P hP).1, (t P hP).2⟩

theorem Rd.le {H H' : Hp} {a : Addr} {u : HO} (e : Le H H') (n : ∀ ps, u ≠ .tbl ps) (h : Rd H a u) : Rd H' a u := by
  rcases h with h | ⟨o, h⟩
  · exact .inl (e.keep a _ h fun ps z => (n ps z).elim)
  · exact .inr ⟨o, e.keep a _ h fun ps z => by cases z⟩
theorem sqL_le {K : PySem.W.Frag} {H H' : Hp} {a : Addr} {xs : List V} (e : Le H H') (h : SqL K H a xs) : SqL K H' a xs := by
  rcases h with h | h
  · exact .inl (Rd.le e (fun ps z => by cases z) h)
  · exact .inr h
theorem sqT_le {K : PySem.W.Frag} {H H' : Hp} {a : Addr} {xs : List V} (e : Le H H') (h : SqT K H a xs) : SqT K H' a xs := by
  rcases h with h | h
  · exact .inl (Rd.le e (fun ps z => by cases z) h)
  · exact .inr h

/-! ### data -/
mutual
inductive Dt (K : PySem.W.Frag) (H : Hp) : V → PyData → Prop
  | non : Dt K H .non .none
  | bl (b : Bool) : Dt K H (.bl b) (.bool b)
  | int (i : Int) : Dt K H (.int i) (.int i)
  | str (x : Str) : Dt K H (.str x) (.str x)
  | lst {a : Addr} {xs : List V} {ds : List PyData} : SqL K H a xs → TyX K H (.ref a) (.type "list") → Ds K H xs ds → Dt K H (.ref a) (.list ds)
  | tup {a : Addr} {xs : List V} {ds : List PyData} : SqT K H a xs → TyX K H (.ref a) (.type "tuple") → Ds K H xs ds → Dt K H (.ref a) (.tuple ds)
  | dct {a : Addr} : H a = some (.dK []) → Dt K H (.ref a) (.dict [])
inductive Ds (K : PySem.W.Frag) (H : Hp) : List V → List PyData → Prop
  | nil : Ds K H [] []
  | cons {v : V} {vs : List V} {d : PyData} {ds : List PyData} : Dt K H v d → Ds K H vs ds → Ds K H (v :: vs) (d :: ds)
end

section
variable {K : PySem.W.Frag} {H H' : Hp}
theorem tyX_le {v : V} {t : Value} (e : Le H H') (h : TyX K H v t) : TyX K H' v t := by
  have k := fun a o (q : H a = some o) n => e.keep a o q n
  cases h with
  | base h =>
    refine .base ?_
    cases h with
    | non => exact .non
    | bl x => exact .bl x
    | int i => exact .int i
    | str x => exact .str x
    | flt x => exact .flt x
    | lst q => exact .lst (k _ _ q fun ps z => by cases z)
    | frz q => exact .frz (k _ _ q fun ps z => by cases z)
    | tup q => exact .tup (k _ _ q fun ps z => by cases z)
    | dK q => exact .dK (k _ _ q fun ps z => by cases z)
    | dT q => exact .dT (k _ _ q fun ps z => by cases z)
    | ins q a b c d f => exact .ins (k _ _ q fun ps z => by cases z) a b c d f
  | byt b => exact .byt b
  | set q => exact .set (k _ _ q fun ps z => by cases z)
  | kList a b => exact .kList a b
  | kTuple a b => exact .kTuple a b
  | kDict a b => exact .kDict a b
  | fTuple q => exact .fTuple (k _ _ q fun ps z => by cases z)
  | fDict q => exact .fDict (k _ _ q fun ps z => by cases z)
mutual
theorem Dt.le (e : Le H H') : ∀ {v : V} {d : PyData}, Dt K H v d → Dt K H' v d
  | _, _, .non => .non
  | _, _, .bl b => .bl b
  | _, _, .int i => .int i
  | _, _, .str x => .str x
  | _, _, .lst s t h => .lst (sqL_le e s) (tyX_le e t) (Ds.le e h)
  | _, _, .tup s t h => .tup (sqT_le e s) (tyX_le e t) (Ds.le e h)
  | _, _, .dct h => .dct (e.keep _ _ h fun ps z => by cases z)
theorem Ds.le (e : Le H H') : ∀ {vs : List V} {ds : List PyData}, Ds K H vs ds → Ds K H' vs ds
  | _, _, .nil => .nil
  | _, _, .cons h t => .cons (Dt.le e h) (Ds.le e t)
end
theorem Ds.length : ∀ {vs : List V} {ds : List PyData}, Ds K H vs ds → vs.length = ds.length
  | _, _, .nil => rfl
  | _, _, .cons _ t => congrArg Nat.succ t.length
theorem Ds.get : ∀ {vs : List V} {ds : List PyData}, Ds K H vs ds → ∀ {i : Nat} {d : PyData}, ds[i]? = some d → ∃ v, vs[i]? = some v ∧ Dt K H v d
  | _, _, .cons h t, 0, d, e => by
    rw [List.getElem?_cons_zero] at e
    cases e
    exact ⟨_, rfl, h⟩
  | _, _, .cons h t, i + 1, d, e => by
    rw [List.getElem?_cons_succ] at e
    obtain ⟨v, h1, h2⟩ := t.get e
    exact ⟨v, by rw [List.getElem?_cons_succ]; exact h1, h2⟩
theorem Ds.getV : ∀ {vs : List V} {ds : List PyData}, Ds K H vs ds → ∀ {i : Nat} {v : V}, vs[i]? = some v → ∃ d, ds[i]? = some d ∧ Dt K H v d
  | _, _, .cons h t, 0, d, e => by
    rw [List.getElem?_cons_zero] at e
    cases e
    exact ⟨_, rfl, h⟩
  | _, _, .cons h t, i + 1, d, e => by
    rw [List.getElem?_cons_succ] at e
    obtain ⟨v, h1, h2⟩ := t.getV e
    exact ⟨v, by rw [List.getElem?_cons_succ]; exact h1, h2⟩
theorem Ds.append : ∀ {vs ws : List V} {ds es : List PyData}, Ds K H vs ds → Ds K H ws es → Ds K H (vs ++ ws) (ds ++ es)
  | _, _, _, _, .nil, s => s
  | _, _, _, _, .cons h t, s => .cons h (t.append s)
theorem Ds.take : ∀ {vs : List V} {ds : List PyData} (n : Nat), Ds K H vs ds → Ds K H (vs.take n) (ds.take n)
  | _, _, 0, _ => by rw [List.take_zero, List.take_zero]; exact .nil
  | _, _, _ + 1, .nil => by rw [List.take_nil, List.take_nil]; exact .nil
  | _, _, n + 1, .cons h t => by rw [List.take_succ_cons, List.take_succ_cons]; exact .cons h (t.take n)
theorem Ds.drop : ∀ {vs : List V} {ds : List PyData} (n : Nat), Ds K H vs ds → Ds K H (vs.drop n) (ds.drop n)
  | _, _, 0, h => h
  | _, _, _ + 1, .nil => by rw [List.drop_nil, List.drop_nil]; exact .nil
  | _, _, n + 1, .cons h t => by rw [List.drop_succ_cons, List.drop_succ_cons]; exact t.drop n
theorem Ds.snoc {vs : List V} {ds : List PyData} {v : V} {d : PyData} (h : Ds K H vs ds) (h2 : Dt K H v d) : Ds K H (vs ++ [v]) (ds ++ [d]) := h.append (.cons h2 .nil)
theorem Dt.new_lst {a : Addr} {xs : List V} {ds : List PyData} (h : H a = some (.lst xs)) (d : Ds K H xs ds) : Dt K H (.ref a) (.list ds) := .lst (.inl (.inl h)) (.base (.lst h)) d
theorem Dt.new_tup {a : Addr} {xs : List V} {ds : List PyData} (h : H a = some (.tup xs)) (d : Ds K H xs ds) : Dt K H (.ref a) (.tuple ds) := .tup (.inl (.inl h)) (.base (.tup h)) d

mutual
def noDict : PyData → Bool
  | .dict _ => false
  | .list xs => noDicts xs
  | .tuple xs => noDicts xs
  | _ => true
def noDicts : List PyData → Bool
  | [] => true
  | x :: xs => noDict x && noDicts xs
end
mutual
theorem Dt.toDp : ∀ {v : V} {d : PyData}, Dt K H v d → noDict d = true → Dp K H v d
  | _, _, .non, _ => .non
  | _, _, .bl b, _ => .bl b
  | _, _, .int i, _ => .int i
  | _, _, .str x, _ => .str x
  | _, _, .lst s _ h, n => .lst s (Ds.toDp h n)
  | _, _, .tup s _ h, n => .tup s (Ds.toDp h n)
theorem Ds.toDp : ∀ {vs : List V} {ds : List PyData}, Ds K H vs ds → noDicts ds = true → DpAll K H vs ds
  | _, _, .nil, _ => .nil
  | _, _, .cons h t, n => by
    have n' := (Bool.and_eq_true _ _).mp n
    exact .cons (Dt.toDp h n'.1) (Ds.toDp t n'.2)
end
end

/-! ### what an expression, a test, arguments, statements do: the weakest reading -/
/-- B: the part of the heap H that data may lean on; what is made goes into both -/
structure Up (B H B2 H2 : Hp) : Prop where
  h : Le H H2
  b : Le B B2
  s : Le B2 H2
  n : ∀ a, B2 a ≠ none → B a ≠ none ∨ H a = none ∨ ((∃ ps, H a = some (.tbl ps)) ∧ ¬ LamTab.is a)
theorem Up.refl {B H : Hp} (l : Le B H) : Up B H B H := ⟨Le.refl H, Le.refl B, l, fun a h => .inl h⟩
theorem Up.trans {B H B1 H1 B2 H2 : Hp} (a : Up B H B1 H1) (b : Up B1 H1 B2 H2) : Up B H B2 H2 :=
  ⟨a.h.trans b.h, a.b.trans b.b, b.s, fun x h => by
    rcases b.n x h with z | z | ⟨⟨ps, z⟩, ny⟩
    · exact a.n x z
    · exact .inr (.inl (a.h.there x z))
    · refine .inr ?_
      cases q : H x with
      | none => exact .inl rfl
      | some o =>
        refine .inr ?_
        by_cases y : ∃ qs, o = .tbl qs
        · obtain ⟨qs, rfl⟩ := y
          exact ⟨⟨qs, rfl⟩, ny⟩
        · have e := a.h.keep x o q fun qs e => (y ⟨qs, e⟩).elim
          rw [z] at e
          exact absurd ⟨ps, (Option.some.inj e).symm⟩ y⟩
theorem Up.new {B H B1 H1 : Hp} (u : Up B H B1 H1) {p : Addr} {o : HO} (hp : H1 p = none) (ho : ∀ ps, o ≠ .tbl ps) : Up B H (upd B1 p o) (upd H1 p o) := by
  have bp : B1 p = none := u.s.there p hp
  refine ⟨u.h.trans (Le.new hp), u.b.trans (Le.new bp), ⟨fun a v q n => ?_, fun P t => ?_, fun a q => ?_⟩, fun a q => ?_⟩
  · by_cases z : a = p
    · rw [z, upd_same] at q
      rw [z, upd_same]
      exact q
    · rw [upd_ne z] at q ⊢
      exact u.s.keep a v q n
  · obtain ⟨ps, q, r⟩ := t
    by_cases z : P = p
    · rw [z, upd_same] at q
      exact absurd (Option.some.inj q) (ho ps)
    · rw [upd_ne z] at q
      obtain ⟨ps', q', r'⟩ := u.s.tab P ⟨ps, q, r⟩
      exact ⟨ps', by rw [upd_ne z]; exact q', r'⟩
  · by_cases z : a = p
    · rw [z, upd_same] at q
      cases q
    · rw [upd_ne z] at q ⊢
      exact u.s.there a q
  · by_cases z : a = p
    · rw [z]
      exact .inr (.inl (u.h.there p hp))
    · rw [upd_ne z] at q
      exact u.n a q
/-- a table of H has changed -/
theorem Up.tab {B H B1 H1 H2 : Hp} (u : Up B H B1 H1) (l : Le H1 H2) : Up B H B1 H2 := ⟨u.h.trans l, u.b, u.s.trans l, u.n⟩
/-- leaning on more -/
theorem Up.join {B B' H B2 H2 : Hp} (u : Up B H B2 H2) (l : Le B B') (l2 : Le B' H) : ∃ B3, Up B' H B3 H2 ∧ Le B2 B3 := by
  refine ⟨fun a => if B' a = none ∧ B2 a = none then none else H2 a, ⟨u.h, ⟨fun a o q n => ?_, fun P t => ?_, fun a q => ?_⟩, ⟨fun a o q n => ?_, fun P t => ?_, fun a q => ?_⟩, fun a q => ?_⟩, ⟨fun a o q n => ?_, fun P t => ?_, fun a q => ?_⟩⟩
  · show (if B' a = none ∧ B2 a = none then none else H2 a) = some o
    rw [if_neg fun z => by rw [z.1] at q; cases q]
    exact (l2.trans u.h).keep a o q n
  · obtain ⟨ps, q, r⟩ := t
    obtain ⟨ps', q', r'⟩ := (l2.trans u.h).tab P ⟨ps, q, r⟩
    refine ⟨ps', ?_, r'⟩
    show (if B' P = none ∧ B2 P = none then none else H2 P) = _
    rw [if_neg fun z => by rw [z.1] at q; cases q]
    exact q'
  · have q' : (if B' a = none ∧ B2 a = none then none else H2 a) = none := q
    by_cases z : B' a = none ∧ B2 a = none
    · exact z.1
    · rw [if_neg z] at q'
      exact (l2.trans u.h).there a q'
  · have q' : (if B' a = none ∧ B2 a = none then none else H2 a) = some o := q
    by_cases z : B' a = none ∧ B2 a = none
    · rw [if_pos z] at q'
      cases q'
    · rw [if_neg z] at q'
      exact q'
  · obtain ⟨ps, q, r⟩ := t
    have q' : (if B' P = none ∧ B2 P = none then none else H2 P) = _ := q
    by_cases z : B' P = none ∧ B2 P = none
    · rw [if_pos z] at q'
      cases q'
    · rw [if_neg z] at q'
      exact ⟨ps, q', r⟩
  · show (if B' a = none ∧ B2 a = none then none else H2 a) = none
    rw [q]
    exact ite_self _
  · have q' : (if B' a = none ∧ B2 a = none then none else H2 a) ≠ none := q
    by_cases z : B' a = none
    · by_cases z2 : B2 a = none
      · rw [if_pos ⟨z, z2⟩] at q'
        exact absurd rfl q'
      · rcases u.n a z2 with y | y
        · exact absurd (l.there a z) y
        · exact .inr y
    · exact .inl z
  · show (if B' a = none ∧ B2 a = none then none else H2 a) = some o
    rw [if_neg fun z => by rw [z.2] at q; cases q]
    exact u.s.keep a o q n
  · obtain ⟨ps, q, r⟩ := t
    obtain ⟨ps', q', r'⟩ := u.s.tab P ⟨ps, q, r⟩
    refine ⟨ps', ?_, r'⟩
    show (if B' P = none ∧ B2 P = none then none else H2 P) = _
    rw [if_neg fun z => by rw [z.2] at q; cases q]
    exact q'
  · have q' : (if B' a = none ∧ B2 a = none then none else H2 a) = none := q
    by_cases z : B' a = none ∧ B2 a = none
    · exact z.2
    · rw [if_neg z] at q'
      exact u.s.there a q'

section
variable (X : Cx)
def WE (e : Expr) : TE := fun σ H Q => ∃ t, PE X e t ∧ t σ H Q
def WT (e : Expr) : TT := fun σ H Q => ∃ t, PT X e t ∧ t σ H Q
def WA (es : List Expr) : TA := fun σ H Q => ∃ t, PA X es t ∧ t σ H Q
def WG (g : Expr) : TG := fun v σ H Q => ∃ t, PG X g t ∧ t v σ H Q
def WI (tg iter : Expr) : TI := fun σ H R => ∃ t, PI X tg iter t ∧ t σ H R
def WS (st : Stmt) : TS := fun D σ H => ∃ t, PS X st t ∧ t D σ H
def WB (sts : List Stmt) : TS := fun D σ H => ∃ t, PSs X sts t ∧ t D σ H
def WW (e : Expr) : TT := fun σ H Q => ∃ t, PW X e t ∧ t σ H Q
def EE (e : Expr) (σ : L2.St) (B : Hp) (d : PyData) : Prop := ∀ H1, Le B H1 → ∀ Q : VK, (∀ v B2 H2, Up B H1 B2 H2 → Dt X.K B2 v d → Q v H2) → WE X e σ H1 Q
def ET (e : Expr) (σ : L2.St) (B : Hp) (b : Bool) : Prop := ∀ H1, Le B H1 → ∀ Q : Bool → Hp → Prop, (∀ H2, Le H1 H2 → Q b H2) → WT X e σ H1 Q
def EW (e : Expr) (σ : L2.St) (B : Hp) (b : Bool) : Prop := ∀ H1, Le B H1 → ∀ Q : Bool → Hp → Prop, (∀ H2, Le H1 H2 → Q b H2) → WW X e σ H1 Q
def EA (es : List Expr) (σ : L2.St) (B : Hp) (ds : List PyData) : Prop := ∀ H1, Le B H1 → ∀ Q : List V → Hp → Prop, (∀ vs B2 H2, Up B H1 B2 H2 → Ds X.K B2 vs ds → Q vs H2) → WA X es σ H1 Q
end
section
variable {X : Cx} {e a b c : Expr} {es : List Expr} {σ : L2.St} {H H' : Hp} {d d1 d2 d3 : PyData} {ds : List PyData}
theorem pe_w : PE X e (WE X e) := ⟨fun pins s σ H Q I ⟨t, h, q⟩ => h.run pins s σ H Q I q⟩
theorem pt_w : PT X e (WT X e) := ⟨fun pins s σ H Q I ⟨t, h, q⟩ => h.run pins s σ H Q I q⟩
theorem pa_w : PA X es (WA X es) := ⟨fun pos pins s σ H Q I ⟨t, h, q⟩ => h.run pos pins s σ H Q I q⟩
theorem pg_w : PG X e (WG X e) := ⟨fun pins s σ H v u Q I r ⟨t, h, q⟩ => h.run pins s σ H v u Q I r q⟩
theorem pi_w {tg : Expr} : PI X tg e (WI X tg e) := ⟨fun pins s σ H R I ⟨t, h, q⟩ => h.run pins s σ H R I q⟩
theorem ps_w {st : Stmt} : PS X st (WS X st) := ⟨fun pins s σ H D I ⟨t, h, q⟩ => h.run pins s σ H D I q⟩
theorem pss_w {sts : List Stmt} : PSs X sts (WB X sts) := ⟨fun pins s σ H D I ⟨t, h, q⟩ => h.run pins s σ H D I q⟩
theorem pw_w : PW X e (WW X e) := ⟨fun wh pins s σ H Q I ⟨t, h, q⟩ => h.run wh pins s σ H Q I q⟩
theorem EE.mono (h : EE X e σ H d) (l : Le H H') : EE X e σ H' d := fun H1 e1 Q q => h H1 (l.trans e1) Q fun v B2 H2 u dv => by
  obtain ⟨B3, u3, l3⟩ := u.join l e1
  exact q v B3 H2 u3 (Dt.le l3 dv)
theorem ET.mono {k : Bool} (h : ET X e σ H k) (l : Le H H') : ET X e σ H' k := fun H1 e1 Q q => h H1 (l.trans e1) Q q
theorem EA.mono (h : EA X es σ H ds) (l : Le H H') : EA X es σ H' ds := fun H1 e1 Q q => h H1 (l.trans e1) Q fun v B2 H2 u dv => by
  obtain ⟨B3, u3, l3⟩ := u.join l e1
  exact q v B3 H2 u3 (Ds.le l3 dv)
theorem EE.cast (h : EE X e σ H d) (q : d = d1) : EE X e σ H d1 := q ▸ h
theorem ET.cast {k k' : Bool} (h : ET X e σ H k) (q : k = k') : ET X e σ H k' := q ▸ h

/-! constants, names -/
theorem ee_v {v : V} (h : PE X e (tC v)) (hd : ∀ H', Dt X.K H' v d) : EE X e σ H d := fun H1 l Q q => ⟨_, h, q v H H1 (Up.refl l) (hd H)⟩
theorem ee_int {i : Int} {j : Nat} {pos : Pos} : EE X (.Constant (.int i) j pos) σ H (.int i) := ee_v pe_int fun _ => .int i
theorem ee_str {x : Str} {j : Nat} {pos : Pos} : EE X (.Constant (.str x) j pos) σ H (.str x) := ee_v pe_str fun _ => .str x
theorem ee_bl {k : Bool} {j : Nat} {pos : Pos} : EE X (.Constant (.bool k) j pos) σ H (.bool k) := ee_v pe_bl fun _ => .bl k
theorem ee_non {j : Nat} {pos : Pos} : EE X (.Constant .none j pos) σ H .none := ee_v pe_non fun _ => .non
theorem ee_var {v : V} {i : Nat} {x : Str} {pos : Pos} (hσ : σ[i]? = some (some v)) (hd : Dt X.K H v d) (hN : X.N[i]? = some x := by rfl) (hv : Vis X.env.scope x := by first | exact Or.inl rfl | exact Or.inr (Or.inl rfl) | exact Or.inr (Or.inr rfl))
    (hdb : (x == ("__debug__" : Str)) = false := by decide) (hcd : (x == ("__classdict__" : Str)) = false := by decide) : EE X (.Name x pos) σ H d := fun H1 l Q q =>
  ⟨_, pe_var hN hv hdb hcd, ⟨v, hσ, q v H H1 (Up.refl l) hd⟩⟩
theorem ee_glob {x : Str} {v : V} {u : Value} {pos : Pos} (hg : Gl X x) (hm : X.mg x = some u) (hr : RelV v u) (hd : ∀ H', Dt X.K H' v d) (hdb : (x == ("__debug__" : Str)) = false := by decide) : EE X (.Name x pos) σ H d := ee_v (pe_glob hg hm hr hdb) hd

/-! two operands -/
def RR (K : PySem.W.Frag) (r : R2) (H : Hp) (d1 d2 d3 : PyData) : Prop := ∀ B H1, Le H B → Le B H1 → ∀ x y, Dt K B x d1 → Dt K B y d2 → ∀ Q : VK, (∀ v B2 H2, Up B H1 B2 H2 → Dt K B2 v d3 → Q v H2) → r x y H1 Q
theorem two {r : R2} (hr : RR X.K r H d1 d2 d3) (ha : EE X a σ H d1) (hb : EE X b σ H d2) {H1 : Hp} (l : Le H H1) {Q : VK} (q : ∀ v B2 H2, Up H H1 B2 H2 → Dt X.K B2 v d3 → Q v H2) : tOp r (WE X a) (WE X b) σ H1 Q :=
  ha H1 l _ fun x B2 H2 u2 dx => hb.mono u2.b H2 u2.s _ fun y B3 H3 u3 dy => hr B3 H3 (u2.b.trans u3.b) u3.s x y (Dt.le u3.b dx) dy Q fun v B4 H4 u4 dv => q v B4 H4 ((u2.trans u3).trans u4) dv
theorem ee_op {op : Operator} {r : R2} {pos : Pos} (o : OpR X (binaryOp op) r) (hr : RR X.K r H d1 d2 d3) (ha : EE X a σ H d1) (hb : EE X b σ H d2) : EE X (.BinOp a op b pos) σ H d3 := fun H1 l Q q =>
  ⟨_, pe_op o pe_w pe_w, two hr ha hb l q⟩
theorem ee_cmp {op : CmpOp} {r : R2} {pos : Pos} (o : OpR X (compareOp op) r) (hr : RR X.K r H d1 d2 d3) (ha : EE X a σ H d1) (hb : EE X b σ H d2) (hm : behindInMarks op b = false := by rfl) : EE X (.Compare a [op] [b] pos) σ H d3 := fun H1 l Q q =>
  ⟨_, pe_cmpR o pe_w pe_w hm, two hr ha hb l q⟩
theorem ee_ix {r : R2} {pos : Pos} (o : IxR X r) (hr : RR X.K r H d1 d2 d3) (ha : EE X a σ H d1) (hb : EE X b σ H d2) (hp : PlainIx b := by intro _ _; rfl) : EE X (.Subscript a b pos) σ H d3 := fun H1 l Q q =>
  ⟨_, pe_ix o pe_w pe_w hp, two hr ha hb l q⟩
theorem ee_chain {op op' : CmpOp} {r r' : R2} {pos : Pos} {k1 k2 : Bool} (o : OpR X (compareOp op) r) (o' : OpR X (compareOp op') r') (hr : RR X.K r H d1 d2 (.bool k1)) (hr' : k1 = true → RR X.K r' H d2 d3 (.bool k2))
    (ha : EE X a σ H d1) (hb : EE X b σ H d2) (hc : k1 = true → EE X c σ H d3) (hm : lastMarks [op, op'] [b, c] = false := by rfl) : EE X (.Compare a [op, op'] [b, c] pos) σ H (.bool (k1 && k2)) := fun H1 l Q q =>
  ⟨_, pe_chain o o' pe_w pe_w pe_w hm, ha H1 l _ fun x B2 H2 u2 dx => hb.mono u2.b H2 u2.s _ fun y B3 H3 u3 dy => hr B3 H3 (u2.b.trans u3.b) u3.s x y (Dt.le u3.b dx) dy _ fun z B4 H4 u4 dz => by
    cases dz
    refine ⟨k1, rfl, ?_⟩
    have u := (u2.trans u3).trans u4
    cases k1 with
    | true =>
      rw [if_pos rfl]
      exact (hc rfl).mono u.b H4 u.s _ fun t B5 H5 u5 dt => hr' rfl B5 H5 (u.b.trans u5.b) u5.s y t (Dt.le (u4.b.trans u5.b) dy) dt Q fun v B6 H6 u6 dv => q v B6 H6 ((u.trans u5).trans u6) dv
    | false =>
      rw [if_neg Bool.false_ne_true]
      exact q _ B4 H4 u (.bl false)⟩

/-! truths -/
theorem ee_and {pos : Pos} {rest : List Expr} {p q : Bool} (ha : EE X a σ H (.bool p)) (hb : p = true → EE X (.BoolOp .And (b :: rest) pos) σ H (.bool q)) : EE X (.BoolOp .And (a :: b :: rest) pos) σ H (.bool (p && q)) := fun H1 l Q k =>
  ⟨_, pe_and pe_w pe_w, ha H1 l _ fun x B2 H2 u2 dx => by
    cases dx
    refine ⟨p, rfl, ?_⟩
    cases p with
    | true =>
      rw [if_pos rfl]
      exact (hb rfl).mono u2.b H2 u2.s Q fun v B3 H3 u3 dv => k v B3 H3 (u2.trans u3) dv
    | false =>
      rw [if_neg Bool.false_ne_true]
      exact k _ B2 H2 u2 (.bl false)⟩
theorem ee_or {pos : Pos} {rest : List Expr} {p q : Bool} (ha : EE X a σ H (.bool p)) (hb : p = false → EE X (.BoolOp .Or (b :: rest) pos) σ H (.bool q)) : EE X (.BoolOp .Or (a :: b :: rest) pos) σ H (.bool (p || q)) := fun H1 l Q k =>
  ⟨_, pe_or pe_w pe_w, ha H1 l _ fun x B2 H2 u2 dx => by
    cases dx
    refine ⟨p, rfl, ?_⟩
    cases p with
    | false =>
      rw [if_neg Bool.false_ne_true]
      exact (hb rfl).mono u2.b H2 u2.s Q fun v B3 H3 u3 dv => k v B3 H3 (u2.trans u3) dv
    | true =>
      rw [if_pos rfl]
      exact k _ B2 H2 u2 (.bl true)⟩
theorem ee_one {pos : Pos} {op : BoolOp} (ha : EE X a σ H d) : EE X (.BoolOp op [a] pos) σ H d := fun H1 l Q k => ⟨_, pe_one pe_w, ha H1 l Q k⟩
theorem ee_not {pos : Pos} {p : Bool} (ha : EE X a σ H (.bool p)) : EE X (.UnaryOp .Not a pos) σ H (.bool (!p)) := fun H1 l Q k =>
  ⟨_, pe_not pe_w, ha H1 l _ fun x B2 H2 u2 dx => by
    cases dx
    exact ⟨p, rfl, k _ B2 H2 u2 (.bl _)⟩⟩

/-! tests -/
theorem et_val {p : Bool} (ha : EE X e σ H (.bool p)) (hs : ∀ whole : Sem Value, PySem.isTrue e X.env whole = (do let v ← whole; standAt e.pos; holding [v] (truthy v)) := by intro _; rfl) : ET X e σ H p := fun H1 l Q k =>
  ⟨_, pt_val pe_w hs, ha H1 l _ fun x B2 H2 u2 dx => by
    cases dx
    exact ⟨p, rfl, k _ u2.h⟩⟩
theorem et_not {pos : Pos} {p : Bool} (ha : ET X a σ H p) : ET X (.UnaryOp .Not a pos) σ H (!p) := fun H1 l Q k => ⟨_, pt_not pt_w, ha H1 l _ fun H2 l2 => k _ l2⟩
theorem ew_one1 {pos : Pos} {p : Bool} (ha : ET X a σ H p) : EW X (.BoolOp .And [a] pos) σ H p := fun H1 l Q k => ⟨_, pw_and1 pt_w, ha H1 l Q k⟩
theorem ew_one2 {pos : Pos} {p : Bool} (ha : ET X a σ H p) : EW X (.BoolOp .Or [a] pos) σ H p := fun H1 l Q k => ⟨_, pw_or1 pt_w, ha H1 l Q k⟩
theorem ew_and {pos : Pos} {rest : List Expr} {p q : Bool} (ha : ET X a σ H p) (hb : p = true → EW X (.BoolOp .And (b :: rest) pos) σ H q) : EW X (.BoolOp .And (a :: b :: rest) pos) σ H (p && q) := fun H1 l Q k =>
  ⟨_, pw_and pt_w pw_w, ha H1 l _ fun H2 l2 => by
    cases p with
    | true =>
      rw [if_pos rfl]
      exact hb rfl H2 (l.trans l2) Q fun H3 l3 => k H3 (l2.trans l3)
    | false =>
      rw [if_neg Bool.false_ne_true]
      exact k _ l2⟩
theorem ew_or {pos : Pos} {rest : List Expr} {p q : Bool} (ha : ET X a σ H p) (hb : p = false → EW X (.BoolOp .Or (b :: rest) pos) σ H q) : EW X (.BoolOp .Or (a :: b :: rest) pos) σ H (p || q) := fun H1 l Q k =>
  ⟨_, pw_or pt_w pw_w, ha H1 l _ fun H2 l2 => by
    cases p with
    | false =>
      rw [if_neg Bool.false_ne_true]
      exact hb rfl H2 (l.trans l2) Q fun H3 l3 => k H3 (l2.trans l3)
    | true =>
      rw [if_pos rfl]
      exact k _ l2⟩
theorem et_w {p : Bool} (h : EW X e σ H p) : ET X e σ H p := fun H1 l Q k => by
  obtain ⟨t, h1, h2⟩ := h H1 l Q k
  exact ⟨t, PW.pt h1, h2⟩

/-! arguments -/
theorem ea_nil : EA X [] σ H [] := fun H1 l Q k => ⟨_, pa_nil, k [] H H1 (Up.refl l) .nil⟩
theorem ea_cons (ha : EE X e σ H d) (hb : EA X es σ H ds) (hs : starEach (e :: es) X.env = (false, eval e X.env) :: starEach es X.env := by rfl) : EA X (e :: es) σ H (d :: ds) := fun H1 l Q k =>
  ⟨_, pa_cons pe_w pa_w hs, ha H1 l _ fun v B2 H2 u2 dv => hb.mono u2.b H2 u2.s _ fun vs B3 H3 u3 dvs => k _ B3 H3 (u2.trans u3) (.cons (Dt.le u3.b dv) dvs)⟩

/-! displays -/
theorem ee_tup {pos : Pos} {n : Nat} (ha : EA X es σ H ds) (hl : ds.length ≤ sizeLine) : EE X (.Tuple es n pos) σ H (.tuple ds) := fun H1 l Q k =>
  ⟨_, pe_tup pa_w, ha H1 l _ fun vs B2 H2 u2 dv => ⟨by rw [dv.length]; exact hl, fun p hp => k _ _ _ (u2.new hp fun ps z => by cases z) (.new_tup upd_same (Ds.le (Le.new (u2.s.there p hp)) dv))⟩⟩
theorem ee_lst {pos : Pos} (ha : EA X es σ H ds) (hl : ds.length ≤ sizeLine) : EE X (.List es pos) σ H (.list ds) := fun H1 l Q k =>
  ⟨_, pe_lst pa_w, ha H1 l _ fun vs B2 H2 u2 dv => ⟨by rw [dv.length]; exact hl, fun p hp => k _ _ _ (u2.new hp fun ps z => by cases z) (.new_lst upd_same (Ds.le (Le.new (u2.s.there p hp)) dv))⟩⟩
theorem ee_if {pos : Pos} {p : Bool} (hc : ET X c σ H p) (h1 : p = true → EE X a σ H d) (h2 : p = false → EE X b σ H d) : EE X (.IfExp c a b pos) σ H d := fun H1 l Q k =>
  ⟨_, pe_ifExp pt_w pe_w pe_w, hc H1 l _ fun H2 l2 => by
    cases p with
    | true =>
      rw [if_pos rfl]
      exact h1 rfl H2 (l.trans l2) Q fun v B3 H3 u3 dv => k v B3 H3 ⟨l2.trans u3.h, u3.b, u3.s, fun a z => (Up.trans (Up.refl l) (⟨l2, Le.refl _, l.trans l2, fun a h => .inl h⟩ : Up H H1 H H2) |>.trans u3).n a z⟩ dv
    | false =>
      rw [if_neg Bool.false_ne_true]
      exact h2 rfl H2 (l.trans l2) Q fun v B3 H3 u3 dv => k v B3 H3 ⟨l2.trans u3.h, u3.b, u3.s, fun a z => (Up.trans (Up.refl l) (⟨l2, Le.refl _, l.trans l2, fun a h => .inl h⟩ : Up H H1 H H2) |>.trans u3).n a z⟩ dv⟩

/-! calls of built-ins -/
def RC1 (K : PySem.W.Frag) (r : List V → Hp → VK → Prop) (H : Hp) (ds : List PyData) (d : PyData) : Prop := ∀ B H1, Le H B → Le B H1 → ∀ vs, Ds K B vs ds → ∀ Q : VK, (∀ v B2 H2, Up B H1 B2 H2 → Dt K B2 v d → Q v H2) → r vs H1 Q
theorem ee_callB {x : Str} {p pos : Pos} {id : String} {r : List V → Hp → VK → Prop} (hc : CallR X (.builtin id) r) (hg : Gl X x) (hm : X.mg x = none) (hv : bootBuiltins x = some (.builtin id)) (hr : RC1 X.K r H ds d) (ha : EA X (e :: es) σ H ds)
    (h1 : x ≠ "__name__" := by decide) (h2 : (x == ("__debug__" : Str)) = false := by decide) (he : starEach (e :: es) X.env = (false, eval e X.env) :: starEach es X.env := by rfl) (hpl : (backTo pos (starEach es X.env)).any (·.1) = false := by rfl) :
    EE X (.Call (.Name x p) (e :: es) [] pos) σ H d := fun H1 l Q k =>
  ⟨_, pe_callB hc hg hm hv pa_w h1 h2 he hpl, ha H1 l _ fun vs B2 H2 u2 dv => hr B2 H2 u2.b u2.s vs dv Q fun v B3 H3 u3 d3 => k v B3 H3 (u2.trans u3) d3⟩
theorem ee_callTy {x : Str} {p pos : Pos} {T : String} {r : List V → Hp → VK → Prop} (hc : CallR X (.type T) r) (hg : Gl X x) (hm : X.mg x = none) (hv : bootBuiltins x = some (.type T)) (hr : RC1 X.K r H ds d) (ha : EA X (e :: es) σ H ds)
    (h1 : x ≠ "__name__" := by decide) (h2 : (x == ("__debug__" : Str)) = false := by decide) (he : starEach (e :: es) X.env = (false, eval e X.env) :: starEach es X.env := by rfl) (hpl : (backTo pos (starEach es X.env)).any (·.1) = false := by rfl) :
    EE X (.Call (.Name x p) (e :: es) [] pos) σ H d := fun H1 l Q k =>
  ⟨_, pe_callTy hc hg hm hv pa_w h1 h2 he hpl, ha H1 l _ fun vs B2 H2 u2 dv => hr B2 H2 u2.b u2.s vs dv Q fun v B3 H3 u3 d3 => k v B3 H3 (u2.trans u3) d3⟩
end
end Tk


set_option Elab.async false
set_option linter.all false
set_option maxRecDepth 100000
set_option maxHeartbeats 1000000
/-! Tk1: operators on data, statements, defs and their calls. -/
namespace Tk
open PySem PySem.Spec PyProof.Rows L2 GxR
variable [LamTab]

/-! ### kinds -/
def tyName : PyData → String
  | .none => "NoneType"
  | .bool _ => "bool"
  | .int _ => "int"
  | .str _ => "str"
  | .list _ => "list"
  | .tuple _ => "tuple"
  | .dict _ => "dict"
def isInt : PyData → Bool
  | .int _ => true
  | .bool _ => true
  | _ => false
def isBool : PyData → Bool
  | .bool _ => true
  | _ => false
def isStr : PyData → Bool
  | .str _ => true
  | _ => false
def isTup : PyData → Bool
  | .tuple _ => true
  | _ => false
def isLst : PyData → Bool
  | .list _ => true
  | _ => false
def isDct : PyData → Bool
  | .dict _ => true
  | _ => false
theorem kit_int : ∀ d : PyData, kitB (tyName d) "int" = some (isInt d)
  | .none => by decide +kernel
  | .bool _ => by show kitB "bool" "int" = some true; decide +kernel
  | .int _ => by show kitB "int" "int" = some true; decide +kernel
  | .str _ => by show kitB "str" "int" = some false; decide +kernel
  | .list _ => by show kitB "list" "int" = some false; decide +kernel
  | .tuple _ => by show kitB "tuple" "int" = some false; decide +kernel
  | .dict _ => by show kitB "dict" "int" = some false; decide +kernel
theorem kit_bool : ∀ d : PyData, kitB (tyName d) "bool" = some (isBool d)
  | .none => by decide +kernel
  | .bool _ => by show kitB "bool" "bool" = some true; decide +kernel
  | .int _ => by show kitB "int" "bool" = some false; decide +kernel
  | .str _ => by show kitB "str" "bool" = some false; decide +kernel
  | .list _ => by show kitB "list" "bool" = some false; decide +kernel
  | .tuple _ => by show kitB "tuple" "bool" = some false; decide +kernel
  | .dict _ => by show kitB "dict" "bool" = some false; decide +kernel
theorem kit_str : ∀ d : PyData, kitB (tyName d) "str" = some (isStr d)
  | .none => by decide +kernel
  | .bool _ => by show kitB "bool" "str" = some false; decide +kernel
  | .int _ => by show kitB "int" "str" = some false; decide +kernel
  | .str _ => by show kitB "str" "str" = some true; decide +kernel
  | .list _ => by show kitB "list" "str" = some false; decide +kernel
  | .tuple _ => by show kitB "tuple" "str" = some false; decide +kernel
  | .dict _ => by show kitB "dict" "str" = some false; decide +kernel
theorem kit_tup : ∀ d : PyData, kitB (tyName d) "tuple" = some (isTup d)
  | .none => by decide +kernel
  | .bool _ => by show kitB "bool" "tuple" = some false; decide +kernel
  | .int _ => by show kitB "int" "tuple" = some false; decide +kernel
  | .str _ => by show kitB "str" "tuple" = some false; decide +kernel
  | .list _ => by show kitB "list" "tuple" = some false; decide +kernel
  | .tuple _ => by show kitB "tuple" "tuple" = some true; decide +kernel
  | .dict _ => by show kitB "dict" "tuple" = some false; decide +kernel

section
variable {K : PySem.W.Frag} {H H' : Hp}
theorem Dt.ty : ∀ {v : V} {d : PyData}, Dt K H v d → TyX K H v (.type (tyName d))
  | _, _, .non => .base .non
  | _, _, .bl b => .base (.bl b)
  | _, _, .int i => .base (.int i)
  | _, _, .str x => .base (.str x)
  | _, _, .lst _ t _ => t
  | _, _, .tup _ t _ => t
  | _, _, .dct h => .base (.dK h)
/-! ### operators -/
theorem rr_lt {i j : Int} : RR K (rI0 fun i j => .bl (decide (i < j))) H (.int i) (.int j) (.bool (decide (i < j))) := fun B H1 l l1 x y hx hy Q q => by
  cases hx
  cases hy
  exact ⟨i, j, rfl, rfl, q _ B H1 (Up.refl l1) (.bl _)⟩
theorem rr_le {i j : Int} : RR K (rI0 fun i j => .bl (decide (i ≤ j))) H (.int i) (.int j) (.bool (decide (i ≤ j))) := fun B H1 l l1 x y hx hy Q q => by
  cases hx
  cases hy
  exact ⟨i, j, rfl, rfl, q _ B H1 (Up.refl l1) (.bl _)⟩
theorem rr_gt {i j : Int} : RR K (rI0 fun i j => .bl (decide (i > j))) H (.int i) (.int j) (.bool (decide (i > j))) := fun B H1 l l1 x y hx hy Q q => by
  cases hx
  cases hy
  exact ⟨i, j, rfl, rfl, q _ B H1 (Up.refl l1) (.bl _)⟩
theorem rr_add {i j : Int} : RR K (rI0 fun i j => .int (i + j)) H (.int i) (.int j) (.int (i + j)) := fun B H1 l l1 x y hx hy Q q => by
  cases hx
  cases hy
  exact ⟨i, j, rfl, rfl, q _ B H1 (Up.refl l1) (.int _)⟩
theorem rr_sub {i j : Int} : RR K (rI0 fun i j => .int (i - j)) H (.int i) (.int j) (.int (i - j)) := fun B H1 l l1 x y hx hy Q q => by
  cases hx
  cases hy
  exact ⟨i, j, rfl, rfl, q _ B H1 (Up.refl l1) (.int _)⟩
theorem rr_I {C : Int → Int → Prop} {f : Int → Int → Int} {i j : Int} (c : C i j) : RR K (rI C fun i j => .int (f i j)) H (.int i) (.int j) (.int (f i j)) := fun B H1 l l1 x y hx hy Q q => by
  cases hx
  cases hy
  exact ⟨i, j, rfl, rfl, c, q _ B H1 (Up.refl l1) (.int _)⟩
theorem rr_I0 {f : Int → Int → Int} {i j : Int} : RR K (rI0 fun i j => .int (f i j)) H (.int i) (.int j) (.int (f i j)) := fun B H1 l l1 x y hx hy Q q => by
  cases hx
  cases hy
  exact ⟨i, j, rfl, rfl, q _ B H1 (Up.refl l1) (.int _)⟩
def rLtS : R2 := fun x y H Q => ∃ i j, x = .str i ∧ y = .str j ∧ Q (.bl (decide (i.cps.toList < j.cps.toList))) H
def rLeS : R2 := fun x y H Q => ∃ i j, x = .str i ∧ y = .str j ∧ Q (.bl (!decide (j.cps.toList < i.cps.toList))) H
theorem o_ltS {X : Cx} : OpR X (compareOp .Lt) rLtS := op_lt_str
theorem o_leS {X : Cx} : OpR X (compareOp .LtE) rLeS := op_le_str
theorem rr_ltS {i j : Str} : RR K rLtS H (.str i) (.str j) (.bool (decide (i.cps.toList < j.cps.toList))) := fun B H1 l l1 x y hx hy Q q => by
  cases hx
  cases hy
  exact ⟨i, j, rfl, rfl, q _ B H1 (Up.refl l1) (.bl _)⟩
theorem rr_leS {i j : Str} : RR K rLeS H (.str i) (.str j) (.bool (!decide (j.cps.toList < i.cps.toList))) := fun B H1 l l1 x y hx hy Q q => by
  cases hx
  cases hy
  exact ⟨i, j, rfl, rfl, q _ B H1 (Up.refl l1) (.bl _)⟩
theorem rr_eqI {i j : Int} : RR K rEq H (.int i) (.int j) (.bool (decide (i = j))) := fun B H1 l l1 x y hx hy Q q => by
  cases hx
  cases hy
  refine ⟨rfl, ?_⟩
  have e : decide (V.int i = V.int j) = decide (i = j) := by
    by_cases h : i = j
    · rw [h, decide_eq_true rfl, decide_eq_true rfl]
    · rw [decide_eq_false h, decide_eq_false fun z => h (by cases z; rfl)]
  rw [e]
  exact q _ B H1 (Up.refl l1) (.bl _)
theorem rr_eqS {i j : Str} : RR K rEq H (.str i) (.str j) (.bool (decide (i = j))) := fun B H1 l l1 x y hx hy Q q => by
  cases hx
  cases hy
  refine ⟨rfl, ?_⟩
  have e : decide (V.str i = V.str j) = decide (i = j) := by
    by_cases h : i = j
    · rw [h, decide_eq_true rfl, decide_eq_true rfl]
    · rw [decide_eq_false h, decide_eq_false fun z => h (by cases z; rfl)]
  rw [e]
  exact q _ B H1 (Up.refl l1) (.bl _)
theorem rr_neS {i j : Str} : RR K rNe H (.str i) (.str j) (.bool (!decide (i = j))) := fun B H1 l l1 x y hx hy Q q => by
  cases hx
  cases hy
  refine ⟨rfl, ?_⟩
  have e : decide (V.str i = V.str j) = decide (i = j) := by
    by_cases h : i = j
    · rw [h, decide_eq_true rfl, decide_eq_true rfl]
    · rw [decide_eq_false h, decide_eq_false fun z => h (by cases z; rfl)]
  rw [e]
  exact q _ B H1 (Up.refl l1) (.bl _)
theorem rr_neI {i j : Int} : RR K rNe H (.int i) (.int j) (.bool (!decide (i = j))) := fun B H1 l l1 x y hx hy Q q => by
  cases hx
  cases hy
  refine ⟨rfl, ?_⟩
  have e : decide (V.int i = V.int j) = decide (i = j) := by
    by_cases h : i = j
    · rw [h, decide_eq_true rfl, decide_eq_true rfl]
    · rw [decide_eq_false h, decide_eq_false fun z => h (by cases z; rfl)]
  rw [e]
  exact q _ B H1 (Up.refl l1) (.bl _)
theorem rr_eqD {d e : PyData} (n1 : noDict d = true) (n2 : noDict e = true) (s1 : SeqAt.shaped d = true) (s2 : SeqAt.shaped e = true) : RR K (rEqD K) H d e (.bool (PyData.eqv d e)) := fun B H1 l l1 x y hx hy Q q =>
  ⟨d, e, (Dt.le l1 hx).toDp n1, (Dt.le l1 hy).toDp n2, s1, s2, q _ B H1 (Up.refl l1) (.bl _)⟩
theorem rr_neD {d e : PyData} (n1 : noDict d = true) (n2 : noDict e = true) (s1 : SeqAt.shaped d = true) (s2 : SeqAt.shaped e = true) : RR K (rNeD K) H d e (.bool (!PyData.eqv d e)) := fun B H1 l l1 x y hx hy Q q =>
  ⟨d, e, (Dt.le l1 hx).toDp n1, (Dt.le l1 hy).toDp n2, s1, s2, q _ B H1 (Up.refl l1) (.bl _)⟩

/-! items -/
theorem rr_ixT {ds : List PyData} {i : Int} {d : PyData} (h : atI ds i = some d) : RR K (rIxT K) H (.tuple ds) (.int i) d := fun B H1 l l1 x y hx hy Q q => by
  cases hy
  cases hx with
  | tup s t h0 =>
    rename_i a xs
    unfold atI at h
    have el := h0.length
    cases e : ixN ds.length i with
    | none => rw [e] at h; cases h
    | some j =>
      rw [e] at h
      obtain ⟨v, h1, h2⟩ := h0.get (show ds[j]? = some d from h)
      refine ⟨a, xs, i, v, rfl, rfl, sqT_le l1 s, ?_, q _ B H1 (Up.refl l1) h2⟩
      unfold atI
      rw [el, e]
      exact h1
theorem rr_ixL {ds : List PyData} {i : Int} {d : PyData} (h : atI ds i = some d) : RR K (rIxL K) H (.list ds) (.int i) d := fun B H1 l l1 x y hx hy Q q => by
  cases hy
  cases hx with
  | lst s t h0 =>
    rename_i a xs
    unfold atI at h
    have el := h0.length
    cases e : ixN ds.length i with
    | none => rw [e] at h; cases h
    | some j =>
      rw [e] at h
      obtain ⟨v, h1, h2⟩ := h0.get (show ds[j]? = some d from h)
      refine ⟨a, xs, i, v, rfl, rfl, sqL_le l1 s, ?_, q _ B H1 (Up.refl l1) h2⟩
      unfold atI
      rw [el, e]
      exact h1

/-! membership -/
def rInT (K : PySem.W.Frag) : R2 := fun x y H Q => ∃ d ds, Dp K H x d ∧ Dp K H y (.tuple ds) ∧ SeqAt.shaped d = true ∧ SeqAt.shaped (.tuple ds) = true ∧ Q (.bl (ds.any fun z => PyData.eqv z d)) H
def rNotInT (K : PySem.W.Frag) : R2 := fun x y H Q => ∃ d ds, Dp K H x d ∧ Dp K H y (.tuple ds) ∧ SeqAt.shaped d = true ∧ SeqAt.shaped (.tuple ds) = true ∧ Q (.bl (!ds.any fun z => PyData.eqv z d)) H
theorem room_tup {A : Around} {ds : List PyData} {d : PyData} (h : SeqAt.shaped d = true) (hu : A.units + 65 < cLine) : A.units + 1 + min (PyData.depthAll ds) d.depth < cLine := by
  have h1 := SeqAt.depth_of_shaped h
  have h2 : min (PyData.depthAll ds) d.depth ≤ d.depth := Nat.min_le_right _ _
  omega
theorem o_inT {X : Cx} (hu : X.A.units + 65 < cLine) : OpR X (compareOp .In) (rInT X.K) := by
  intro pins s σ H x y v u Q I rx ry h
  obtain ⟨d, ds, hd, he, sd, se, q⟩ := h
  obtain ⟨as, r1⟩ := Dp.reads I d x v hd rx
  obtain ⟨bs, r2⟩ := Dp.reads I (.tuple ds) y u he ry
  exact SeqAt.in_tuple_reads r2 r1 (SeqAt.canLay_of_shaped se) (SeqAt.canLay_of_shaped sd) (room_tup sd hu) ⟨.bl _, H, I, rfl, q⟩
theorem o_notInT {X : Cx} (hu : X.A.units + 65 < cLine) : OpR X (compareOp .NotIn) (rNotInT X.K) := by
  intro pins s σ H x y v u Q I rx ry h
  obtain ⟨d, ds, hd, he, sd, se, q⟩ := h
  obtain ⟨as, r1⟩ := Dp.reads I d x v hd rx
  obtain ⟨bs, r2⟩ := Dp.reads I (.tuple ds) y u he ry
  exact SeqAt.notIn_tuple_reads r2 r1 (SeqAt.canLay_of_shaped se) (SeqAt.canLay_of_shaped sd) (room_tup sd hu) ⟨.bl _, H, I, rfl, q⟩
theorem rr_inT {d : PyData} {ds : List PyData} (n1 : noDict d = true) (n2 : noDicts ds = true) (s1 : SeqAt.shaped d = true) (s2 : SeqAt.shaped (.tuple ds) = true) : RR K (rInT K) H d (.tuple ds) (.bool (ds.any fun z => PyData.eqv z d)) := fun B H1 l l1 x y hx hy Q q =>
  ⟨d, ds, (Dt.le l1 hx).toDp n1, (Dt.le l1 hy).toDp n2, s1, s2, q _ B H1 (Up.refl l1) (.bl _)⟩
theorem rr_notInT {d : PyData} {ds : List PyData} (n1 : noDict d = true) (n2 : noDicts ds = true) (s1 : SeqAt.shaped d = true) (s2 : SeqAt.shaped (.tuple ds) = true) : RR K (rNotInT K) H d (.tuple ds) (.bool (!ds.any fun z => PyData.eqv z d)) := fun B H1 l l1 x y hx hy Q q =>
  ⟨d, ds, (Dt.le l1 hx).toDp n1, (Dt.le l1 hy).toDp n2, s1, s2, q _ B H1 (Up.refl l1) (.bl _)⟩

/-! length -/
def dlen : PyData → Option Nat
  | .str x => some x.length
  | .list xs => some xs.length
  | .tuple xs => some xs.length
  | _ => none
def rLenD (K : PySem.W.Frag) : List V → Hp → VK → Prop := fun xs H Q => ∃ x n, xs = [x] ∧ LenV K x H n ∧ Q (.int (n : Int)) H
theorem c_len {X : Cx} : CallR X (.builtin "len") (rLenD X.K) := call_len
theorem rc_len {d : PyData} {n : Nat} (h : dlen d = some n) (hs : ∀ x, d = .str x → x.length ≤ sizeLine) : RC1 K (rLenD K) H [d] (.int (n : Int)) := fun B H1 l l1 vs hv Q q => by
  cases hv with
  | cons hx ht =>
    cases ht
    cases hx with
    | str x => cases h; exact ⟨_, _, rfl, ⟨hs x rfl, rfl⟩, q _ B H1 (Up.refl l1) (.int _)⟩
    | lst s t h0 => cases h; exact ⟨_, _, rfl, .inl ⟨_, sqL_le l1 s, h0.length.symm⟩, q _ B H1 (Up.refl l1) (.int _)⟩
    | tup s t h0 => cases h; exact ⟨_, _, rfl, .inr ⟨_, sqT_le l1 s, h0.length.symm⟩, q _ B H1 (Up.refl l1) (.int _)⟩
    | non => cases h
    | bl b => cases h
    | int i => cases h
    | dct h0 => cases h
/-! tuple(list), tuple(tuple), list(..) -/
def rTupD (K : PySem.W.Frag) : List V → Hp → VK → Prop := fun xs H Q => ∃ p ys, xs = [V.ref p] ∧ ((SqL K H p ys ∧ ∀ (l : Addr), H l = none → Q (.ref l) (upd H l (.tup ys))) ∨ SqT K H p ys ∧ Q (.ref p) H)
theorem c_tup {X : Cx} : CallR X (.type "tuple") (rTupD X.K) := call_tuple_of
theorem rc_tup {ds : List PyData} : RC1 K (rTupD K) H [.list ds] (.tuple ds) := fun B H1 l l1 vs hv Q q => by
  cases hv with
  | cons hx ht =>
    cases ht
    cases hx with
    | lst s t h0 => exact ⟨_, _, rfl, .inl ⟨sqL_le l1 s, fun p hp => q _ _ _ ((Up.refl l1).new hp fun ps z => by cases z) (.new_tup upd_same (Ds.le (Le.new (l1.there p hp)) h0))⟩⟩
theorem rc_tupT {ds : List PyData} : RC1 K (rTupD K) H [.tuple ds] (.tuple ds) := fun B H1 l l1 vs hv Q q => by
  cases hv with
  | cons hx ht =>
    cases ht
    cases hx with
    | tup s t h0 => exact ⟨_, _, rfl, .inr ⟨sqT_le l1 s, q _ B H1 (Up.refl l1) (.tup s t h0)⟩⟩
end

/-! ### the built-in names -/
structure Blt (mg : Str → Option Value) : Prop where
  isinstance : mg "isinstance" = none
  int : mg "int" = none
  bool : mg "bool" = none
  str : mg "str" = none
  tuple : mg "tuple" = none
  list : mg "list" = none
  dict : mg "dict" = none
  len : mg "len" = none
  all : mg "all" = none
  any : mg "any" = none
  range : mg "range" = none
  enumerate : mg "enumerate" = none
theorem boot_isi : bootBuiltins "isinstance" = some (.builtin "isinstance") := by decide +kernel
theorem boot_len' : bootBuiltins "len" = some (.builtin "len") := by decide +kernel
theorem boot_all' : bootBuiltins "all" = some (.builtin "all") := by decide +kernel
theorem boot_any' : bootBuiltins "any" = some (.builtin "any") := by decide +kernel
theorem boot_int' : bootBuiltins "int" = some (.type "int") := by decide +kernel
theorem boot_bool' : bootBuiltins "bool" = some (.type "bool") := by decide +kernel
theorem boot_str' : bootBuiltins "str" = some (.type "str") := by decide +kernel
theorem boot_tuple' : bootBuiltins "tuple" = some (.type "tuple") := by decide +kernel
theorem boot_list' : bootBuiltins "list" = some (.type "list") := by decide +kernel
theorem boot_dict' : bootBuiltins "dict" = some (.type "dict") := by decide +kernel

section
variable {X : Cx} {e a b c : Expr} {es : List Expr} {σ : L2.St} {H H' : Hp} {d d1 d2 d3 : PyData} {ds : List PyData}
theorem ee_isi {T : String} {xT : Str} {k : Bool} {p p2 pos : Pos} (B : Blt X.mg) (ha : EE X e σ H d) (hk : kitB (tyName d) T = some k) (hT : X.mg xT = none) (hb : bootBuiltins xT = some (.type T)) (hg : Gl X "isinstance" := by rfl) (hg2 : Gl X xT := by rfl)
    (h1 : xT ≠ "__name__" := by decide) (h2 : (xT == ("__debug__" : Str)) = false := by decide)
    (he : starEach [e, .Name xT p2] X.env = (false, eval e X.env) :: starEach [.Name xT p2] X.env := by rfl) (he2 : starEach [.Name xT p2] X.env = (false, eval (.Name xT p2) X.env) :: starEach [] X.env := by rfl)
    (hpl : (backTo pos (starEach [.Name xT p2] X.env)).any (·.1) = false := by rfl) : EE X (.Call (.Name "isinstance" p) [e, .Name xT p2] [] pos) σ H (.bool k) := fun H1 l Q q =>
  ⟨_, pe_callB call_isi hg B.isinstance boot_isi (pa_cons pe_w (pa_cons (pe_bltn (v := .ty T) hg2 hT hb rfl h1 h2) pa_nil he2) he) (by decide) (by decide) he hpl,
    ha H1 l _ fun x B2 H2 u2 dx => ⟨x, .ty T, .type (tyName d), .type T, k, rfl, .ty T, (Dt.le u2.s dx).ty, kit_ty hk, q _ B2 H2 u2 (.bl _)⟩⟩
theorem ee_isInt {p p2 pos : Pos} (B : Blt X.mg) (ha : EE X e σ H d) (hg : Gl X "isinstance" := by rfl) (hg2 : Gl X "int" := by rfl) (he : starEach [e, .Name "int" p2] X.env = (false, eval e X.env) :: starEach [.Name "int" p2] X.env := by rfl) :
    EE X (.Call (.Name "isinstance" p) [e, .Name "int" p2] [] pos) σ H (.bool (isInt d)) := ee_isi B ha (kit_int d) B.int boot_int' hg hg2 (by decide) (by decide) he rfl rfl
theorem ee_isBool {p p2 pos : Pos} (B : Blt X.mg) (ha : EE X e σ H d) (hg : Gl X "isinstance" := by rfl) (hg2 : Gl X "bool" := by rfl) (he : starEach [e, .Name "bool" p2] X.env = (false, eval e X.env) :: starEach [.Name "bool" p2] X.env := by rfl) :
    EE X (.Call (.Name "isinstance" p) [e, .Name "bool" p2] [] pos) σ H (.bool (isBool d)) := ee_isi B ha (kit_bool d) B.bool boot_bool' hg hg2 (by decide) (by decide) he rfl rfl
theorem ee_isStr {p p2 pos : Pos} (B : Blt X.mg) (ha : EE X e σ H d) (hg : Gl X "isinstance" := by rfl) (hg2 : Gl X "str" := by rfl) (he : starEach [e, .Name "str" p2] X.env = (false, eval e X.env) :: starEach [.Name "str" p2] X.env := by rfl) :
    EE X (.Call (.Name "isinstance" p) [e, .Name "str" p2] [] pos) σ H (.bool (isStr d)) := ee_isi B ha (kit_str d) B.str boot_str' hg hg2 (by decide) (by decide) he rfl rfl
theorem ee_isTup {p p2 pos : Pos} (B : Blt X.mg) (ha : EE X e σ H d) (hg : Gl X "isinstance" := by rfl) (hg2 : Gl X "tuple" := by rfl) (he : starEach [e, .Name "tuple" p2] X.env = (false, eval e X.env) :: starEach [.Name "tuple" p2] X.env := by rfl) :
    EE X (.Call (.Name "isinstance" p) [e, .Name "tuple" p2] [] pos) σ H (.bool (isTup d)) := ee_isi B ha (kit_tup d) B.tuple boot_tuple' hg hg2 (by decide) (by decide) he rfl rfl
theorem ee_len {p pos : Pos} {n : Nat} (B : Blt X.mg) (ha : EE X e σ H d) (h : dlen d = some n) (hs : ∀ x, d = .str x → x.length ≤ sizeLine) (hg : Gl X "len" := by rfl) (he : starEach [e] X.env = (false, eval e X.env) :: starEach [] X.env := by rfl) :
    EE X (.Call (.Name "len" p) [e] [] pos) σ H (.int (n : Int)) := ee_callB c_len hg B.len boot_len' (rc_len h hs) (ea_cons ha ea_nil he) (by decide) (by decide) he rfl
theorem ee_tuple {p pos : Pos} (B : Blt X.mg) (ha : EE X e σ H (.list ds)) (hg : Gl X "tuple" := by rfl) (he : starEach [e] X.env = (false, eval e X.env) :: starEach [] X.env := by rfl) :
    EE X (.Call (.Name "tuple" p) [e] [] pos) σ H (.tuple ds) := ee_callTy c_tup hg B.tuple boot_tuple' rc_tup (ea_cons ha ea_nil he) (by decide) (by decide) he rfl

/-! ### statements: B, what data leans on; H, the heap -/
variable {D : L2.Ends} {B : Hp}
theorem wb_nil (h : D.nx σ H) : WB X [] D σ H := ⟨_, pss_nil, h⟩
theorem wb_cons {st : Stmt} {rest : List Stmt} (h : WS X st { D with nx := fun σ' H' => WB X rest D σ' H' } σ H) : WB X (st :: rest) D σ H := ⟨_, pss_cons ps_w pss_w, h⟩
theorem wb_one {st : Stmt} (h : WS X st D σ H) : WB X [st] D σ H := ⟨_, pss_one ps_w, h⟩
theorem ws_ret {pos : Pos} (l : Le B H) (h : EE X e σ B d) (q : ∀ v B' H', Up B H B' H' → Dt X.K B' v d → D.rt v H') : WS X (.Return (some e) pos) D σ H := ⟨_, ps_ret pe_w, h H l _ fun v B' H' u dv => q v B' H' u dv⟩
theorem ws_if {pos : Pos} {sa sb : List Stmt} {k : Bool} (l : Le B H) (h : ET X c σ B k) (h1 : k = true → ∀ H', Le H H' → WB X sa D σ H') (h2 : k = false → ∀ H', Le H H' → WB X sb D σ H') : WS X (.If c sa sb pos) D σ H :=
  ⟨_, ps_if pt_w pss_w pss_w, h H l _ fun H' l => by
    cases k with
    | true =>
      show (if true = true then WB X sa D σ H' else _)
      rw [if_pos rfl]
      exact h1 rfl H' l
    | false =>
      show (if false = true then _ else WB X sb D σ H')
      rw [if_neg Bool.false_ne_true]
      exact h2 rfl H' l⟩
theorem ws_set {pos pos' : Pos} {i : Nat} {x : Str} (l : Le B H) (h : EE X e σ B d) (q : ∀ v B' H', Up B H B' H' → Dt X.K B' v d → D.nx (σ.set i (some v)) H') (nd : X.N.Nodup) (hN : X.N[i]? = some x := by rfl) (hx : L2.Loc X.env.scope x := by first | exact Or.inl rfl | exact Or.inr rfl)
    (hs : swapsWith e (some (.Name x pos')) pos.line X.env = pure false := by rfl) (hf : X.fn x = true ∨ X.env.scope.names.lookup x = some .local := by first | exact Or.inl rfl | exact Or.inr rfl) : WS X (.Assign [.Name x pos'] e pos) D σ H :=
  ⟨_, ps_set nd hN hx pe_w hs hf, h H l _ fun v B' H' u dv => q v B' H' u dv⟩
end

/-! ### defs -/
/-- a def that changes nothing but tables: what it asks of its arguments, what it is worth -/
def spF (K : PySem.W.Frag) (T : List Addr) (n : Nat) (pre : List PyData → Prop) (f : List PyData → PyData) : Sp := fun vs H Q _ => vs.length = n ∧ Tbs T H ∧ ∃ B ds, Le B H ∧ Ds K B vs ds ∧ pre ds ∧ ∀ v B' H', Up B H B' H' → Dt K B' v (f ds) → Q v H'
structure Kn (P : Program) (w : World) (K : PySem.W.Frag) (mg : Str → Option Value) (base : Heap) (k : Nat) (x : Str) (ps : List Str) (sp : Sp) : Prop where
  ex : ∃ (f : Addr) (fd : FuncData), mg x = some (.ref f) ∧ PySem.W.keepIn K (.ref f) = true ∧ FnOk P w K mg base CX0 k f fd ps sp ∧ Binds K fd ps []
section
variable {X : Cx} {e : Expr} {es : List Expr} {σ : L2.St} {H H' : Hp} {ds : List PyData} {T : List Addr} {n k : Nat} {pre : List PyData → Prop} {f : List PyData → PyData} {x : Str} {ps : List Str}
theorem ee_call {P : Program} {w : World} {K : PySem.W.Frag} {mg : Str → Option Value} {base : Heap} {p pos : Pos} {j : Nat} (F : Kn P w K mg base k x ps (spF K T n pre f)) (hr : Room j X.A) (hk : k ≤ j) (t : Tbs T H) (ha : EA X (e :: es) σ H ds) (hp : pre ds) {d : PyData} (hd : f ds = d := by rfl) (hl : ds.length = n := by rfl) (eP : X.prog = P := by rfl) (ew : X.w = w := by rfl) (eK : X.K = K := by rfl) (em : X.mg = mg := by rfl) (eb : X.base = base := by rfl) (hg : Gl X x := by rfl)
    (hdb : (x == ("__debug__" : Str)) = false := by decide) (he : starEach (e :: es) X.env = (false, eval e X.env) :: starEach es X.env := by rfl) (hpl : (backTo pos (starEach es X.env)).any (·.1) = false := by rfl) :
    EE X (.Call (.Name x p) (e :: es) [] pos) σ H d := fun H1 l Q q => by
  subst hd eP ew eK em eb
  obtain ⟨fa, fd, m1, m2, G, bi⟩ := F.ex
  refine ⟨_, pe_call (E := L2.E0) G (hr.mono hk) hg m1 m2 bi .nil pass0 pa_w hdb he hpl, ha H1 l _ fun vs B2 H2 u2 dv => ?_⟩
  rw [List.append_nil]
  exact ⟨by rw [dv.length, hl], (t.le l).le u2.h, B2, ds, u2.s, dv, hp, fun v B3 H3 u3 d3 => q v B3 H3 (u2.trans u3) d3⟩
end
/-- the part B and the tables T of H -/
theorem with_tables {T : List Addr} {B H : Hp} (t : Tbs T H) (l : Le B H) : ∃ B', Le B B' ∧ Le B' H ∧ Tbs T B' ∧ ∀ {B2 H2 : Hp}, Up B' H B2 H2 → Up B H B2 H2 := by
  have l1 : Le B (fun a => if B a = none ∧ a ∉ T then none else H a) := by
    refine ⟨fun a o q n => ?_, fun P tg => ?_, fun a q => ?_⟩
    · show (if B a = none ∧ a ∉ T then none else H a) = some o
      rw [if_neg fun z => by rw [z.1] at q; cases q]
      exact l.keep a o q n
    · obtain ⟨ps, q, r⟩ := tg
      obtain ⟨ps', q', r'⟩ := l.tab P ⟨ps, q, r⟩
      refine ⟨ps', ?_, r'⟩
      show (if B P = none ∧ P ∉ T then none else H P) = _
      rw [if_neg fun z => by rw [z.1] at q; cases q]
      exact q'
    · have q' : (if B a = none ∧ a ∉ T then none else H a) = none := q
      by_cases z : B a = none ∧ a ∉ T
      · exact z.1
      · rw [if_neg z] at q'
        exact l.there a q'
  have l2 : Le (fun a => if B a = none ∧ a ∉ T then none else H a) H := by
    refine ⟨fun a o q n => ?_, fun P tg => ?_, fun a q => ?_⟩
    · have q' : (if B a = none ∧ a ∉ T then none else H a) = some o := q
      by_cases z : B a = none ∧ a ∉ T
      · rw [if_pos z] at q'
        cases q'
      · rw [if_neg z] at q'
        exact q'
    · obtain ⟨ps, q, r⟩ := tg
      have q' : (if B P = none ∧ P ∉ T then none else H P) = _ := q
      by_cases z : B P = none ∧ P ∉ T
      · rw [if_pos z] at q'
        cases q'
      · rw [if_neg z] at q'
        exact ⟨ps, q', r⟩
    · show (if B a = none ∧ a ∉ T then none else H a) = none
      rw [q]
      exact ite_self _
  refine ⟨_, l1, l2, fun P hP => ?_, fun {B2 H2} u => ⟨u.h, l1.trans u.b, u.s, fun a h => ?_⟩⟩
  · obtain ⟨⟨ps, q, r⟩, ns⟩ := t P hP
    refine ⟨⟨ps, ?_, r⟩, ns⟩
    show (if B P = none ∧ P ∉ T then none else H P) = _
    rw [if_neg fun z => z.2 hP]
    exact q
  · rcases u.n a h with z | z | z
    · have z' : (if B a = none ∧ a ∉ T then none else H a) ≠ none := z
      by_cases y : B a = none
      · by_cases x : a ∈ T
        · obtain ⟨⟨ps, q, _⟩, ns⟩ := t a x
          exact .inr (.inr ⟨⟨ps, q⟩, ns⟩)
        · rw [if_pos ⟨y, x⟩] at z'
          exact absurd rfl z'
      · exact .inl y
    · exact .inr (.inl z)
    · exact .inr (.inr z)
/-- the rule for such a def -/
theorem fn_pure {P : Program} {w : World} {K : PySem.W.Frag} {mg : Str → Option Value} {base : Heap} {x qual : Str} {st : Stmt} {fa : Addr} {fd : FuncData} {N ps : List Str} {k n : Nat} {T : List Addr} {pre : List PyData → Prop} {f : List PyData → PyData}
    (F : L2.Fun K x qual st fa fd) (S : FnScope N ps (defScope st)) (hn : n = ps.length)
    (hbody : ∀ (cdv : Value) (A : Around) (outer : List Env) (s : Shared) (H : Hp) (vs : List V) (B : Hp) (ds : List PyData) (Q : VK) (E : XK), Room k (A.deeper (envOfC qual (defScope st) s.heap.objs.size fa cdv)) → fd.code = cdv → Tbs T B → Le B H → Ds K B vs ds → vs.length = n → pre ds →
      (∀ v B' H', Up B H B' H' → Dt K B' v (f ds) → Q v H') → WB (cxOf CX0 P w K mg base N qual (defScope st) fa cdv A outer s H E).nox (defBody st) { nx := fun _ H' => Q .non H', rt := Q } (start N vs) H) :
    FnOk P w K mg base CX0 (k + 1) fa fd ps (spF K T n pre f) := by
  obtain ⟨oc, od, kV, doc, pm, an, cdv, ct, osl, rfl, lk, hcd⟩ := F.ex
  refine fn_of lk hcd S (fun vs H Q E h => by rw [h.1, hn]) fun A outer s H vs Q E hr h => ?_
  obtain ⟨h1, h2, B, ds, l, h3, h4, h5⟩ := h
  obtain ⟨B', l1, l2, t', up⟩ := with_tables h2 l
  obtain ⟨t, t1, t2⟩ := hbody cdv A outer s H vs B' ds Q E hr rfl t' l2 (Ds.le l1 h3) h1 h4 fun v B2 H2 u dv => h5 v B2 H2 (up u) dv
  exact ⟨t, t1.nox, t2⟩
theorem Kn.mk' {P : Program} {w : World} {K : PySem.W.Frag} {mg : Str → Option Value} {base : Heap} {k : Nat} {x qual : Str} {st : Stmt} {fa : Addr} {fd : FuncData} {ps : List Str} {sp : Sp} (F : L2.Fun K x qual st fa fd) (m : mg x = some (.ref fa)) (G : FnOk P w K mg base CX0 k fa fd ps sp) (b : Binds K fd ps []) : Kn P w K mg base k x ps sp :=
  ⟨fa, fd, m, F.kp, G, b⟩
end Tk


set_option Elab.async false
set_option linter.all false
set_option maxRecDepth 100000
set_option maxHeartbeats 1000000
/-! Tk2: what is walked, targets, all and any of a generator expression, list comprehensions. -/
namespace Tk
open PySem PySem.Spec PyProof.Rows L2 GxR Gx
variable [LamTab]

/-! ### what is walked -/
def Walk (K : PySem.W.Frag) (J : It) (B : Hp) (ds : List PyData) : Prop := ∀ B' H', Le B B' → Le B' H' →
  (∀ i, i < ds.length → J.go i H') ∧ J.stop ds.length H' ∧ ∀ i x H'', i < ds.length → J.yld i H' x H'' → ∃ B'' d, Up B' H' B'' H'' ∧ ds[i]? = some d ∧ Dt K B'' x d
def EI (X : Cx) (tg iter : Expr) (σ : L2.St) (B : Hp) (ds : List PyData) : Prop := ∀ H1, Le B H1 → ∀ R : It → Hp → Prop, (∀ J B2 H2, Up B H1 B2 H2 → Walk X.K J B2 ds → R J H2) → WI X tg iter σ H1 R
section
variable {X : Cx} {tg e : Expr} {σ : L2.St} {B : Hp} {ds : List PyData}
theorem ei_tup (h : EE X e σ B (.tuple ds)) : EI X tg e σ B ds := fun H1 l R q => ⟨_, pi_tup pe_w, h H1 l _ fun v B2 H2 u dv => by
  cases dv with
  | tup s t h0 =>
    refine ⟨_, rfl, ⟨_, sqT_le u.s s⟩, q _ B2 H2 u fun B' H' l1 l2 => ⟨fun i hi => ?_, ⟨_, sqT_le (l1.trans l2) s, Nat.le_of_eq h0.length⟩, fun i x H'' hi hy => ?_⟩⟩
    · obtain ⟨v, h1, _⟩ := h0.get (List.getElem?_eq_getElem hi)
      exact ⟨_, v, sqT_le (l1.trans l2) s, h1⟩
    · obtain ⟨e1, hy⟩ := hy
      subst e1
      obtain ⟨d, h1, h2⟩ := h0.getV (hy _ (sqT_le (l1.trans l2) s))
      exact ⟨B', d, Up.refl l2, h1, Dt.le l1 h2⟩⟩
theorem ei_lst (h : EE X e σ B (.list ds)) : EI X tg e σ B ds := fun H1 l R q => ⟨_, pi_list pe_w, h H1 l _ fun v B2 H2 u dv => by
  cases dv with
  | lst s t h0 =>
    refine ⟨_, rfl, ⟨_, sqL_le u.s s⟩, q _ B2 H2 u fun B' H' l1 l2 => ⟨fun i hi => ?_, ⟨_, sqL_le (l1.trans l2) s, Nat.le_of_eq h0.length⟩, fun i x H'' hi hy => ?_⟩⟩
    · obtain ⟨v, h1, _⟩ := h0.get (List.getElem?_eq_getElem hi)
      exact ⟨_, v, sqL_le (l1.trans l2) s, h1⟩
    · obtain ⟨e1, hy⟩ := hy
      subst e1
      obtain ⟨d, h1, h2⟩ := h0.getV (hy _ (sqL_le (l1.trans l2) s))
      exact ⟨B', d, Up.refl l2, h1, Dt.le l1 h2⟩⟩
/-- the signs of a text -/
def signs (x : Str) : List PyData := x.cps.toList.map fun c => .str ⟨#[c]⟩
theorem signs_len (x : Str) : (signs x).length = x.cps.size := by unfold signs; rw [List.length_map]; simp
theorem ei_str {x : Str} (h : EE X e σ B (.str x)) : EI X tg e σ B (signs x) := fun H1 l R q => ⟨_, pi_str pe_w, h H1 l _ fun v B2 H2 u dv => by
  cases dv
  refine ⟨x, rfl, q _ B2 H2 u fun B' H' l1 l2 => ⟨fun i hi => ?_, ?_, fun i y H'' hi hy => ?_⟩⟩
  · have := signs_len x
    show i < x.cps.size
    omega
  · show x.cps.size ≤ _
    rw [signs_len]
    exact Nat.le_refl _
  · obtain ⟨e1, c, h1, h2⟩ := hy
    subst e1 h2
    refine ⟨B', _, Up.refl l2, ?_, .str _⟩
    unfold signs
    rw [List.getElem?_map, Array.getElem?_toList, h1]
    rfl⟩
def upto (n : Nat) : List PyData := (List.range n).map fun (i : Nat) => PyData.int (Int.ofNat i)
theorem ei_range {p pos : Pos} {a : Expr} {n : Int} (BL : X.mg "range" = none) (h : EE X a σ B (.int n)) (h0 : -(2 ^ 62) ≤ n) (h1 : n < 2 ^ 62) (hg : Gl X "range" := by rfl) (hs : starEach [a] X.env = [(false, eval a X.env)] := by rfl)
    (hs2 : starEach [a] X.env = (false, eval a X.env) :: starEach [] X.env := by rfl) : EI X tg (.Call (.Name "range" p) [a] [] pos) σ B (upto n.toNat) := fun H1 l R q => ⟨_, pi_range1 hg BL (pa_cons pe_w pa_nil hs2) hs, h H1 l _ fun v B2 H2 u dv => by
  cases dv
  refine ⟨n, rfl, h0, h1, q _ B2 H2 u fun B' H' l1 l2 => ⟨fun i hi => ?_, ?_, fun i y H'' hi hy => ?_⟩⟩
  · unfold upto at hi
    rw [List.length_map, List.length_range] at hi
    exact hi
  · unfold upto
    rw [List.length_map, List.length_range]
    exact Nat.le_refl _
  · obtain ⟨e1, h2⟩ := hy
    subst e1 h2
    refine ⟨B', _, Up.refl l2, ?_, .int _⟩
    unfold upto at hi ⊢
    rw [List.length_map, List.length_range] at hi
    rw [List.getElem?_map, List.getElem?_range hi, Int.zero_add]
    rfl⟩
end

/-! ### targets -/
def setsS : L2.St → List Nat → List V → L2.St
  | σ, j :: js, v :: vs => setsS (σ.set j (some v)) js vs
  | σ, _, _ => σ
theorem setsS_set : ∀ {js : List Nat} {vs : List V} {σ : L2.St} {j : Nat} {o : Option V}, j ∉ js → setsS (σ.set j o) js vs = (setsS σ js vs).set j o
  | [], _, _, _, _, _ => rfl
  | _ :: _, [], _, _, _, _ => rfl
  | i :: js, v :: vs, σ, j, o, h => by
    have hij : j ≠ i := fun z => h (by rw [z]; exact List.mem_cons_self)
    show setsS ((σ.set j o).set i (some v)) js vs = (setsS (σ.set i (some v)) js vs).set j o
    rw [List.set_comm o (some v) hij]
    exact setsS_set fun z => h (List.mem_cons_of_mem _ z)
theorem setsS_over : ∀ {js : List Nat} {vs ws : List V} {σ : L2.St}, js.Nodup → vs.length = js.length → ws.length = js.length → setsS (setsS σ js vs) js ws = setsS σ js ws
  | [], _, _, _, _, _, _ => rfl
  | i :: js, v :: vs, u :: ws, σ, nd, h1, h2 => by
    obtain ⟨hi, nd⟩ := List.nodup_cons.mp nd
    show setsS ((setsS (σ.set i (some v)) js vs).set i (some u)) js ws = setsS (σ.set i (some u)) js ws
    rw [setsS_set hi, setsS_over nd (Nat.succ.inj h1) (Nat.succ.inj h2), ← setsS_set hi, List.set_set]
  | _ :: _, [], _, _, _, h1, _ => by cases h1
  | _ :: _, _ :: _, [], _, _, _, h2 => by cases h2
def EG (X : Cx) (tg : Expr) (tjs : List Nat) (pat : PyData → Option (List PyData)) : Prop :=
  ∀ (v : V) (d : PyData) (es : List PyData) (σ : L2.St) (B H : Hp), Le B H → Dt X.K B v d → pat d = some es → ∀ Q : L2.St → Hp → Prop, (∀ vs, Ds X.K B vs es → Q (setsS σ tjs vs) H) → WG X tg v σ H Q
def patN : PyData → Option (List PyData) := fun d => some [d]
theorem eg_name {X : Cx} {x : Str} {pos : Pos} {j : Nat} (nd : X.N.Nodup) (hN : X.N[j]? = some x := by rfl) (hx : L2.Loc X.env.scope x := by first | exact Or.inl rfl | exact Or.inr rfl)
    (hf : X.fn x = true ∨ X.env.scope.names.lookup x = some .local := by first | exact Or.inl rfl | exact Or.inr rfl) : EG X (.Name x pos) [j] patN := fun v d es σ B H l dv hp Q q => by
  cases hp
  exact ⟨_, pg_name nd hN hx hf, q [v] (.cons dv .nil)⟩
/-- (a, b, ..), all names -/
def patT (n : Nat) : PyData → Option (List PyData)
  | .tuple es => if es.length = n then some es else none
  | _ => none
theorem patT_some {n : Nat} {d : PyData} {es : List PyData} (h : patT n d = some es) : d = .tuple es ∧ es.length = n := by
  cases d with
  | tuple xs =>
    have h' : (if xs.length = n then some xs else none) = some es := h
    by_cases z : xs.length = n
    · rw [if_pos z] at h'
      cases h'
      exact ⟨rfl, z⟩
    · rw [if_neg z] at h'
      cases h'
  | _ => cases h
/-- the names of a tuple target, set one by one -/
def SetsTo (X : Cx) (es : List Expr) (tjs : List Nat) : Prop := ∃ t, PGs X es t ∧ ∀ (vs : List V) (σ : L2.St) (H : Hp) (Q : L2.St → Hp → Prop), vs.length = tjs.length → Q (setsS σ tjs vs) H → t vs σ H Q
theorem st_nil {X : Cx} : SetsTo X [] [] := ⟨_, pgs_nil, fun vs σ H Q hl q => by
  cases vs with
  | nil => exact ⟨rfl, q⟩
  | cons v vs => cases hl⟩
theorem st_cons {X : Cx} {x : Str} {pos : Pos} {j : Nat} {es : List Expr} {tjs : List Nat} (h : SetsTo X es tjs) (nd : X.N.Nodup) (hN : X.N[j]? = some x := by rfl) (hx : L2.Loc X.env.scope x := by first | exact Or.inl rfl | exact Or.inr rfl)
    (hf : X.fn x = true ∨ X.env.scope.names.lookup x = some .local := by first | exact Or.inl rfl | exact Or.inr rfl)
    (ha : (assignEach (.Name x pos :: es) X.env).map (·.2) = assign (.Name x pos) X.env :: (assignEach es X.env).map (·.2) := by rfl) : SetsTo X (.Name x pos :: es) (j :: tjs) := by
  obtain ⟨t, h1, h2⟩ := h
  refine ⟨_, pgs_cons (pg_name nd hN hx hf) h1 ha, fun vs σ H Q hl q => ?_⟩
  cases vs with
  | nil => cases hl
  | cons v vs => exact ⟨v, vs, rfl, h2 vs _ H Q (Nat.succ.inj hl) q⟩
theorem eg_tup {X : Cx} {es : List Expr} {tjs : List Nat} {k : Nat} {pos : Pos} (hc : X.calm = true) (h : SetsTo X es tjs) (h1 : (assignEach es X.env).length = tjs.length := by rfl) (h2 : (assignEach es X.env).findIdx? (fun x => x.1) = none := by rfl) :
    EG X (.Tuple es k pos) tjs (patT tjs.length) := fun v d es' σ B H l dv hp Q q => by
  obtain ⟨rfl, hl⟩ := patT_some hp
  obtain ⟨t, g1, g2⟩ := h
  cases dv with
  | tup s ty h0 => exact ⟨_, pg_tup hc g1 h1 h2, _, _, rfl, sqT_le l s, by rw [h0.length, hl], g2 _ _ _ _ (by rw [h0.length, hl]) (q _ h0)⟩

/-! ### all, any -/
section
variable {X : Cx} {tg iter elt : Expr} {σ : L2.St} {B : Hp} {ds : List PyData} {scope : Scope} {N : List Str} {js : List (Option Nat)} {gpos p0 pos : Pos} {k : Nat} {c P : Addr} {T : List Addr} {tjs : List Nat} {pat : PyData → Option (List PyData)}
def gIn (X : Cx) (scope : Scope) (N : List Str) (k : Nat) (tg : Expr) : TG := fun v σ H Q => ∀ code A s H0 ex, Room k A → WG (inner X scope code N A s H0 ex) tg v σ H Q
def tIn (X : Cx) (scope : Scope) (N : List Str) (k : Nat) (elt : Expr) : TE := fun σ H Q => ∀ code A s H0 ex, Room k A → WE (inner X scope code N A s H0 ex) elt σ H Q
theorem quant_read {z : Bool} (p : PyData → Bool) (hP : P ∈ T) (t : Tbs T B) (hi : EI X tg iter σ B ds)
    (hg : ∀ code A s H0 ex, Room k A → EG (inner X scope code N A s H0 ex) tg tjs pat) (nd : tjs.Nodup) (hpat : ∀ d ∈ ds, ∃ es, pat d = some es ∧ es.length = tjs.length)
    (body : ∀ B' d es vs, Le B B' → d ∈ ds → pat d = some es → Ds X.K B' vs es → ∀ code A s H0 ex, Room k A → EE (inner X scope code N A s H0 ex) elt (setsS (begun js σ) tjs vs) B' (.bool (p d)))
    {H1 : Hp} (l : Le B H1) {Q : VK} (q : ∀ v B2 H2, Up B H1 B2 H2 → Dt X.K B2 v (.bool (if z then ds.any p else ds.all p)) → Q v H2) : tQuant z P js (WI X tg iter) (gIn X scope N k tg) (tIn X scope N k elt) σ H1 Q := by
  refine hi H1 l _ fun J B2 H2 u2 wk => ⟨((t.le (l.trans u2.h)) P hP).1, fun H3 tb => ?_⟩
  have l3 : Le H2 H3 := Le.tabbed ((t.le (l.trans u2.h)) P hP).1 tb ((t.le (l.trans u2.h)) P hP).2
  have u3 : Up B H1 B2 H3 := u2.tab l3
  refine ⟨fun i m σ' H' => m = ds.length - i ∧ i ≤ ds.length ∧ (∃ B', Le B2 B' ∧ Up B H1 B' H') ∧ (∀ vs : List V, vs.length = tjs.length → setsS σ' tjs vs = setsS (begun js σ) tjs vs) ∧ ∀ d ∈ ds.take i, p d = !z, ⟨ds.length, rfl, Nat.zero_le _, ⟨B2, Le.refl _, u3⟩, fun _ _ => rfl, fun d hd => by rw [List.take_zero] at hd; cases hd⟩, ?_⟩
  rintro i m σ' H' ⟨rfl, hi', ⟨B', lb, u'⟩, hσ, hall⟩
  obtain ⟨w1, w2, w3⟩ := wk B' H' lb u'.s
  by_cases hlt : i < ds.length
  · refine .inr ⟨w1 i hlt, fun x H4 hy => ?_⟩
    obtain ⟨B4, d, u4, hd, dx⟩ := w3 i x H4 hlt hy
    have hmem : d ∈ ds := List.mem_of_getElem? hd
    obtain ⟨es, hes, hel⟩ := hpat d hmem
    intro code A s H0 ex hr
    refine hg code A s H0 ex hr x d es σ' B4 H4 u4.s dx hes _ fun vs dvs => ?_
    have hvl : vs.length = tjs.length := by rw [dvs.length, hel]
    intro code A s H0 ex hr
    rw [hσ vs hvl]
    refine body B4 d es vs ((u2.b.trans lb).trans u4.b) hmem hes dvs code A s H0 ex hr H4 u4.s _ fun v B5 H5 u5 dv => ?_
    cases dv
    have u6 : Up B H1 B5 H5 := (u'.trans u4).trans u5
    refine ⟨p d, rfl, fun e => ?_, fun e => ?_⟩
    · refine q _ B5 H5 u6 ?_
      have e2 : (if z then ds.any p else ds.all p) = z := by
        cases z with
        | true => exact List.any_eq_true.mpr ⟨d, hmem, e⟩
        | false =>
          cases h : ds.all p with
          | false => rfl
          | true =>
            rw [List.all_eq_true.mp h d hmem] at e
            cases e
      rw [e2]
      exact .bl z
    · refine ⟨ds.length - (i + 1), by omega, rfl, hlt, ⟨B5, (lb.trans u4.b).trans u5.b, u6⟩, fun ws hw => setsS_over nd hvl hw, fun d' hd' => ?_⟩
      rw [List.take_add_one, hd] at hd'
      rcases List.mem_append.mp hd' with y | y
      · exact hall d' y
      · have y' : d' = d := by simpa using y
        rw [y']
        cases h : p d <;> cases z <;> first | rfl | exact absurd h e
  · have ei : i = ds.length := by omega
    subst ei
    rw [List.take_length] at hall
    refine .inl ⟨w2, q _ B' H' u' ?_⟩
    have e2 : (if z then ds.any p else ds.all p) = !z := by
      cases z with
      | true =>
        cases h : ds.any p with
        | false => rfl
        | true =>
          obtain ⟨d, hd, hp⟩ := List.any_eq_true.mp h
          rw [hall d hd] at hp
          cases hp
      | false => exact List.all_eq_true.mpr hall
    rw [e2]
    exact .bl _
theorem hb_in : ∀ (code : Value) (A : Around) (s : Shared) (H : Hp) (ex : List Addr), Room k A → PG (inner X scope code N A s H ex) tg (gIn X scope N k tg) ∧ PE (inner X scope code N A s H ex) elt (tIn X scope N k elt) := fun code A s H0 ex hr =>
  ⟨⟨fun pins s' σ H v u Q I r h => pg_w.run pins s' σ H v u Q I r (h code A s H0 ex hr)⟩, ⟨fun pins s' σ H Q I h => pe_w.run pins s' σ H Q I (h code A s H0 ex hr)⟩⟩
theorem ee_all (p : PyData → Bool) (hr : Room (k + 1) X.A) (BL : X.mg "all" = none) (TB : TabB X.base X.mg c P) (hcode : X.env.code = .ref c) (S : ScopeOk X scope N js) (hP : P ∈ T) (t : Tbs T B) (hi : EI X tg iter σ B ds)
    (hg : ∀ code A s H0 ex, Room k A → EG (inner X scope code N A s H0 ex) tg tjs pat) (nd : tjs.Nodup) (hpat : ∀ d ∈ ds, ∃ es, pat d = some es ∧ es.length = tjs.length)
    (body : ∀ B' d es vs, Le B B' → d ∈ ds → pat d = some es → Ds X.K B' vs es → ∀ code A s H0 ex, Room k A → EE (inner X scope code N A s H0 ex) elt (setsS (begun js σ) tjs vs) B' (.bool (p d)))
    (hgl : Gl X "all" := by rfl) (hs : ∀ v, genFold iter X.env v = pure v := by intro _; rfl)
    (he : starEach [.GeneratorExp elt [⟨tg, iter, [], 0⟩] scope gpos] X.env = (false, eval (.GeneratorExp elt [⟨tg, iter, [], 0⟩] scope gpos) X.env) :: starEach [] X.env := by rfl) :
    EE X (.Call (.Name "all" p0) [.GeneratorExp elt [⟨tg, iter, [], 0⟩] scope gpos] [] pos) σ B (.bool (ds.all p)) := fun H1 l Q q =>
  ⟨_, pe_allG hr hgl BL boot_all' TB hcode S pi_w hb_in hs he, quant_read (z := false) p hP t hi hg nd hpat body l q⟩
theorem ee_any (p : PyData → Bool) (hr : Room (k + 1) X.A) (BL : X.mg "any" = none) (TB : TabB X.base X.mg c P) (hcode : X.env.code = .ref c) (S : ScopeOk X scope N js) (hP : P ∈ T) (t : Tbs T B) (hi : EI X tg iter σ B ds)
    (hg : ∀ code A s H0 ex, Room k A → EG (inner X scope code N A s H0 ex) tg tjs pat) (nd : tjs.Nodup) (hpat : ∀ d ∈ ds, ∃ es, pat d = some es ∧ es.length = tjs.length)
    (body : ∀ B' d es vs, Le B B' → d ∈ ds → pat d = some es → Ds X.K B' vs es → ∀ code A s H0 ex, Room k A → EE (inner X scope code N A s H0 ex) elt (setsS (begun js σ) tjs vs) B' (.bool (p d)))
    (hgl : Gl X "any" := by rfl) (hs : ∀ v, genFold iter X.env v = pure v := by intro _; rfl)
    (he : starEach [.GeneratorExp elt [⟨tg, iter, [], 0⟩] scope gpos] X.env = (false, eval (.GeneratorExp elt [⟨tg, iter, [], 0⟩] scope gpos) X.env) :: starEach [] X.env := by rfl) :
    EE X (.Call (.Name "any" p0) [.GeneratorExp elt [⟨tg, iter, [], 0⟩] scope gpos] [] pos) σ B (.bool (ds.any p)) := fun H1 l Q q =>
  ⟨_, pe_anyG hr hgl BL boot_any' TB hcode S pi_w hb_in hs he, quant_read (z := true) p hP t hi hg nd hpat body l q⟩
end

/-! ### list comprehensions -/
section
variable {X : Cx} {tg iter elt : Expr} {ifs : List Expr} {σ : L2.St} {B : Hp} {ds : List PyData} {scope : Scope} {own : List (Str × Nat)} {pos : Pos} {tjs : List Nat} {pat : PyData → Option (List PyData)}
abbrev blkX (X : Cx) (s : Shared) (H : Hp) (scope : Scope) (C : Addr) (cl : List (Str × Addr)) (fp : List Addr) : Cx := X.blk s H scope (compEnvC scope cl C X.env) fp
def WTs (X : Cx) (ifs : List Expr) : TT := fun σ H Q => ∃ t, PTs X ifs t ∧ t σ H Q
theorem pts_w : PTs X ifs (WTs X ifs) := ⟨fun pins s σ H Q I ⟨t, h, q⟩ => h.run pins s σ H Q I q⟩
def ETs (X : Cx) (ifs : List Expr) (σ : L2.St) (B : Hp) (b : Bool) : Prop := ∀ H1, Le B H1 → ∀ Q : Bool → Hp → Prop, (∀ H2, Le H1 H2 → Q b H2) → WTs X ifs σ H1 Q
theorem ets_nil : ETs X [] σ B true := fun H1 l Q q => ⟨_, pts_nil, q H1 (Le.refl _)⟩
theorem ets_one {c : Expr} {b : Bool} (h : ET X c σ B b) : ETs X [c] σ B b := fun H1 l Q q => ⟨_, pts_one pt_w, h H1 l Q q⟩
theorem lc_read (p : PyData → Bool) (f : PyData → PyData) (hc : X.calm = true) (nd : X.N.Nodup) (hi : EI X tg iter σ B ds)
    (hg : ∀ s H C cl fp, EG (blkX X s H scope C cl fp) tg tjs pat) (hpat : ∀ d ∈ ds, ∃ es, pat d = some es ∧ es.length = tjs.length)
    (hw : ∀ vs : List V, vs.length = tjs.length → wipe (setsS (wipe σ (own.map (·.2))) tjs vs) (own.map (·.2)) = wipe σ (own.map (·.2)))
    (test : ∀ B' d es vs, Le B B' → d ∈ ds → pat d = some es → Ds X.K B' vs es → ∀ s H C cl fp, ETs (blkX X s H scope C cl fp) ifs (setsS (wipe σ (own.map (·.2))) tjs vs) B' (p d))
    (body : ∀ B' d es vs, Le B B' → d ∈ ds → p d = true → pat d = some es → Ds X.K B' vs es → ∀ s H C cl fp, EE (blkX X s H scope C cl fp) elt (setsS (wipe σ (own.map (·.2))) tjs vs) B' (f d))
    (hsz : ds.length < sizeLine) :
    ∀ H1, Le B H1 → ∀ Q : VK, (∀ D acc B2 H2, H1 D = none → Up B H1 B2 H2 → B2 D = some (.lst acc) → H2 D = some (.lst acc) → Ds X.K B2 acc ((ds.filter p).map f) → Q (.ref D) H2) → tLc (WI X tg iter) (fun v σ H Q => ∀ s H0 C cl fp, WG (blkX X s H0 scope C cl fp) tg v σ H Q) (fun σ H Q => ∀ s H0 C cl fp, WTs (blkX X s H0 scope C cl fp) ifs σ H Q) (fun σ H Q => ∀ s H0 C cl fp, WE (blkX X s H0 scope C cl fp) elt σ H Q) (own.map (·.2)) σ H1 Q := fun H1 l Q q => by
  refine hi H1 l _ fun J B2 H2 u2 wk D hD => ?_
  have hD1 : H1 D = none := u2.h.there D hD
  refine ⟨fun i m H' => m = ds.length - i ∧ i ≤ ds.length ∧ ∃ B' acc, Le B2 B' ∧ Up B H1 B' H' ∧ B' D = none ∧ H' D = some (.lst acc) ∧ Ds X.K B' acc (((ds.take i).filter p).map f), ⟨ds.length, rfl, Nat.zero_le _, B2, [], Le.refl _, ⟨u2.h.trans (Le.new hD), u2.b, u2.s.trans (Le.new hD), u2.n⟩, u2.s.there D hD, upd_same, by rw [List.take_zero]; exact .nil⟩, ?_⟩
  rintro i m H' ⟨rfl, hi', B', acc, lb, u', hBD, hacc, dacc⟩
  obtain ⟨w1, w2, w3⟩ := wk B' H' lb u'.s
  by_cases hlt : i < ds.length
  · refine .inr ⟨w1 i hlt, fun H'' => ∃ B'' acc', Le B2 B'' ∧ Up B H1 B'' H'' ∧ B'' D = none ∧ H'' D = some (.lst acc') ∧ Ds X.K B'' acc' (((ds.take (i + 1)).filter p).map f), fun H'' h => ⟨ds.length - (i + 1), by omega, rfl, hlt, h⟩, fun x H4 hy => ?_⟩
    obtain ⟨B4, d, u4, hd, dx⟩ := w3 i x H4 hlt hy
    have hmem : d ∈ ds := List.mem_of_getElem? hd
    obtain ⟨es, hes, hel⟩ := hpat d hmem
    have hB4D : B4 D = none := by
      cases h : B4 D with
      | none => rfl
      | some o =>
        rcases u4.n D (by rw [h]; simp) with y | y | ⟨⟨ps, y⟩, _⟩
        · exact absurd hBD y
        · rw [hacc] at y; cases y
        · rw [hacc] at y; cases y
    have hH4D : H4 D = some (.lst acc) := u4.h.keep D _ hacc fun ps z => by cases z
    intro s H0 C cl fp
    refine hg s H0 C cl fp x d es _ B4 H4 u4.s dx hes _ fun vs dvs => ?_
    have hvl : vs.length = tjs.length := by rw [dvs.length, hel]
    refine ⟨hw vs hvl, fun s H0 C cl fp => test B4 d es vs ((u2.b.trans lb).trans u4.b) hmem hes dvs s H0 C cl fp H4 u4.s _ fun H5 l5 => ?_⟩
    have ta : ds.take (i + 1) = ds.take i ++ [d] := by rw [List.take_add_one, hd]; rfl
    have hH5D : H5 D = some (.lst acc) := l5.keep D _ hH4D fun ps z => by cases z
    have u5 : Up B H1 B4 H5 := (u'.trans u4).tab l5
    cases hpd : p d with
    | true =>
      rw [if_pos rfl]
      intro s H0 C cl fp
      refine body B4 d es vs ((u2.b.trans lb).trans u4.b) hmem hpd hes dvs s H0 C cl fp H5 u5.s _ fun v B6 H6 u6 dv => ?_
      have hB6D : B6 D = none := by
        cases h : B6 D with
        | none => rfl
        | some o =>
          rcases u6.n D (by rw [h]; simp) with y | y | ⟨⟨ps, y⟩, _⟩
          · exact absurd hB4D y
          · rw [hH5D] at y; cases y
          · rw [hH5D] at y; cases y
      have hlen : acc.length < sizeLine := by
        have e1 := dacc.length
        rw [List.length_map] at e1
        have e2 := List.length_filter_le p (ds.take i)
        have e3 : (ds.take i).length ≤ ds.length := by rw [List.length_take]; exact Nat.min_le_right _ _
        omega
      refine ⟨acc, u6.h.keep D _ hH5D (fun ps z => by cases z), hlen, B6, acc ++ [v], (lb.trans u4.b).trans u6.b, ?_, hB6D, upd_same, ?_⟩
      · have u7 := u5.trans u6
        exact ⟨u7.h.mut hD1, u7.b, u7.s.mut hB6D, u7.n⟩
      · rw [ta, List.filter_append, List.map_append, List.filter_cons, if_pos hpd]
        exact (Ds.le (u4.b.trans u6.b) dacc).snoc dv
    | false =>
      rw [if_neg Bool.false_ne_true]
      refine ⟨B4, acc, lb.trans u4.b, u5, hB4D, hH5D, ?_⟩
      rw [ta, List.filter_append, List.map_append, List.filter_cons, if_neg (by rw [hpd]; exact Bool.false_ne_true)]
      have := Ds.le u4.b dacc
      simpa using this
  · have ei : i = ds.length := by omega
    subst ei
    rw [List.take_length] at dacc
    refine .inl ⟨w2, ?_⟩
    have hDn : ∀ ps, HO.lst acc ≠ .tbl ps := fun ps z => by cases z
    have u8 : Up B H1 (upd B' D (.lst acc)) H' := by
      refine ⟨u'.h, u'.b.trans (Le.new hBD), ⟨fun a o qa n => ?_, fun P' t => ?_, fun a qa => ?_⟩, fun a qa => ?_⟩
      · by_cases z : a = D
        · rw [z, upd_same] at qa
          rw [z, hacc]
          exact qa
        · rw [upd_ne z] at qa
          exact u'.s.keep a o qa n
      · obtain ⟨ps, q1, q2⟩ := t
        by_cases z : P' = D
        · rw [z, upd_same] at q1
          cases q1
        · rw [upd_ne z] at q1
          exact u'.s.tab P' ⟨ps, q1, q2⟩
      · by_cases z : a = D
        · rw [z, hacc] at qa
          cases qa
        · rw [upd_ne z]
          exact u'.s.there a qa
      · by_cases z : a = D
        · rw [z]
          exact .inr (.inl hD1)
        · rw [upd_ne z] at qa
          exact u'.n a qa
    exact q D acc _ _ hD1 u8 upd_same hacc (Ds.le (Le.new hBD) dacc)
theorem ee_lcR (p : PyData → Bool) (f : PyData → PyData) (hc : X.calm = true) (nd : X.N.Nodup) (hi : EI X tg iter σ B ds) (hb : BlkOk X.N X.env.scope scope own)
    (hg : ∀ s H C cl fp, EG (blkX X s H scope C cl fp) tg tjs pat) (hpat : ∀ d ∈ ds, ∃ es, pat d = some es ∧ es.length = tjs.length)
    (hw : ∀ vs : List V, vs.length = tjs.length → wipe (setsS (wipe σ (own.map (·.2))) tjs vs) (own.map (·.2)) = wipe σ (own.map (·.2)))
    (test : ∀ B' d es vs, Le B B' → d ∈ ds → pat d = some es → Ds X.K B' vs es → ∀ s H C cl fp, ETs (blkX X s H scope C cl fp) ifs (setsS (wipe σ (own.map (·.2))) tjs vs) B' (p d))
    (body : ∀ B' d es vs, Le B B' → d ∈ ds → p d = true → pat d = some es → Ds X.K B' vs es → ∀ s H C cl fp, EE (blkX X s H scope C cl fp) elt (setsS (wipe σ (own.map (·.2))) tjs vs) B' (f d))
    (hsz : ds.length < sizeLine) (hs : ∀ x, foldedSetIterable iter X.env x = pure x := by intro _; rfl) :
    ∀ H1, Le B H1 → ∀ Q : VK, (∀ D acc B2 H2, H1 D = none → Up B H1 B2 H2 → B2 D = some (.lst acc) → H2 D = some (.lst acc) → Ds X.K B2 acc ((ds.filter p).map f) → Q (.ref D) H2) → WE X (.ListComp elt [⟨tg, iter, ifs, 0⟩] scope pos) σ H1 Q := fun H1 l Q q =>
  ⟨_, pe_lc (wi := WI X tg iter) (g := fun v σ H Q => ∀ s H0 C cl fp, WG (blkX X s H0 scope C cl fp) tg v σ H Q) (tt := fun σ H Q => ∀ s H0 C cl fp, WTs (blkX X s H0 scope C cl fp) ifs σ H Q) (te := fun σ H Q => ∀ s H0 C cl fp, WE (blkX X s H0 scope C cl fp) elt σ H Q) hc nd pi_w hb
    (fun s H C cl fp => ⟨fun pins s' σ H' v u Q I r h => pg_w.run pins s' σ H' v u Q I r (h s H C cl fp)⟩) (fun s H C cl fp => ⟨fun pins s' σ H' Q I h => pts_w.run pins s' σ H' Q I (h s H C cl fp)⟩) (fun s H C cl fp => ⟨fun pins s' σ H' Q I h => pe_w.run pins s' σ H' Q I (h s H C cl fp)⟩) hs, lc_read p f hc nd hi hg hpat hw test body hsz H1 l Q q⟩
theorem ee_lc (p : PyData → Bool) (f : PyData → PyData) (hc : X.calm = true) (nd : X.N.Nodup) (hi : EI X tg iter σ B ds) (hb : BlkOk X.N X.env.scope scope own)
    (hg : ∀ s H C cl fp, EG (blkX X s H scope C cl fp) tg tjs pat) (hpat : ∀ d ∈ ds, ∃ es, pat d = some es ∧ es.length = tjs.length)
    (hw : ∀ vs : List V, vs.length = tjs.length → wipe (setsS (wipe σ (own.map (·.2))) tjs vs) (own.map (·.2)) = wipe σ (own.map (·.2)))
    (test : ∀ B' d es vs, Le B B' → d ∈ ds → pat d = some es → Ds X.K B' vs es → ∀ s H C cl fp, ETs (blkX X s H scope C cl fp) ifs (setsS (wipe σ (own.map (·.2))) tjs vs) B' (p d))
    (body : ∀ B' d es vs, Le B B' → d ∈ ds → p d = true → pat d = some es → Ds X.K B' vs es → ∀ s H C cl fp, EE (blkX X s H scope C cl fp) elt (setsS (wipe σ (own.map (·.2))) tjs vs) B' (f d))
    (hsz : ds.length < sizeLine) (hs : ∀ x, foldedSetIterable iter X.env x = pure x := by intro _; rfl) :
    EE X (.ListComp elt [⟨tg, iter, ifs, 0⟩] scope pos) σ B (.list ((ds.filter p).map f)) := fun H1 l Q q =>
  ee_lcR p f hc nd hi hb hg hpat hw test body hsz hs H1 l Q fun D acc B2 H2 _ u e _ dv => q _ B2 H2 u (.new_lst e dv)
/-- y = [..] -/
theorem ws_setLc {D : L2.Ends} {H : Hp} {y : Str} {py spos : Pos} {i : Nat} (p : PyData → Bool) (f : PyData → PyData) (l : Le B H) (hc : X.calm = true) (nd : X.N.Nodup) (hi : EI X tg iter σ B ds) (hb : BlkOk X.N X.env.scope scope own)
    (hg : ∀ s H C cl fp, EG (blkX X s H scope C cl fp) tg tjs pat) (hpat : ∀ d ∈ ds, ∃ es, pat d = some es ∧ es.length = tjs.length)
    (hw : ∀ vs : List V, vs.length = tjs.length → wipe (setsS (wipe σ (own.map (·.2))) tjs vs) (own.map (·.2)) = wipe σ (own.map (·.2)))
    (test : ∀ B' d es vs, Le B B' → d ∈ ds → pat d = some es → Ds X.K B' vs es → ∀ s H C cl fp, ETs (blkX X s H scope C cl fp) ifs (setsS (wipe σ (own.map (·.2))) tjs vs) B' (p d))
    (body : ∀ B' d es vs, Le B B' → d ∈ ds → p d = true → pat d = some es → Ds X.K B' vs es → ∀ s H C cl fp, EE (blkX X s H scope C cl fp) elt (setsS (wipe σ (own.map (·.2))) tjs vs) B' (f d))
    (hsz : ds.length < sizeLine) (q : ∀ A acc B2 H2, H A = none → Up B H B2 H2 → B2 A = some (.lst acc) → H2 A = some (.lst acc) → Ds X.K B2 acc ((ds.filter p).map f) → D.nx (σ.set i (some (.ref A))) H2)
    (hsw : swapsWith (.ListComp elt [⟨tg, iter, ifs, 0⟩] scope pos) (some (.Name y py)) spos.line X.env = pure true) (hy : X.N[i]? = some y := by rfl) (hyl : X.env.scope.names.lookup y = some .local := by rfl) (hs : ∀ x, foldedSetIterable iter X.env x = pure x := by intro _; rfl) :
    WS X (.Assign [.Name y py] (.ListComp elt [⟨tg, iter, ifs, 0⟩] scope pos) spos) D σ H :=
  ⟨_, ps_setLc (wi := WI X tg iter) (g := fun v σ H Q => ∀ s H0 C cl fp, WG (blkX X s H0 scope C cl fp) tg v σ H Q) (tt := fun σ H Q => ∀ s H0 C cl fp, WTs (blkX X s H0 scope C cl fp) ifs σ H Q) (te := fun σ H Q => ∀ s H0 C cl fp, WE (blkX X s H0 scope C cl fp) elt σ H Q) hc nd hy hyl hsw pi_w hb
    (fun s H C cl fp => ⟨fun pins s' σ H' v u Q I r h => pg_w.run pins s' σ H' v u Q I r (h s H C cl fp)⟩) (fun s H C cl fp => ⟨fun pins s' σ H' Q I h => pts_w.run pins s' σ H' Q I (h s H C cl fp)⟩) (fun s H C cl fp => ⟨fun pins s' σ H' Q I h => pe_w.run pins s' σ H' Q I (h s H C cl fp)⟩) hs, lc_read p f hc nd hi hg hpat hw test body hsz H l _ fun A acc B2 H2 h u e1 e2 dv => q A acc B2 H2 h u e1 e2 dv⟩
end
end Tk


set_option Elab.async false
set_option linter.all false
set_option maxRecDepth 100000
set_option maxHeartbeats 1000000
/-! Tk3: enumerate of a tuple. -/
namespace Tk
open PySem PySem.Spec PyProof.Rows L2 GxR Gx
variable [LamTab]

theorem enum_new1 {v : Value} {o : Obj} {Hb : Heap → Prop} (B : Begins v o Hb) :
    Meets (Builtin.«enumerate.__new__» ⟨[.type "enumerate", v], []⟩) (fun _ R s => Hb s.heap ∧
      R (.ok (.ret (.ref (s.heap.push o).objs.size))) { s with heap := (s.heap.push o).push { cls := .type "enumerate", data := .fields #[.none, .bool false, .ref s.heap.objs.size, rawInt 0, .none, .none] } }) :=
  .of_wp fun prog w A R s h => by
    obtain ⟨hp, g, d, tk, os⟩ := s; obtain ⟨h1, h⟩ := h
    have hsub := sub_enumerate
    have q1 : ∀ {A' : Around} {E : Value → Shared → Prop} {Q : Value → Shared → Prop}, Q (.ref hp.objs.size) ⟨hp.push o, g, d, tk, os⟩ → wpAny (model prog w) A' (pyIter v) Q E ⟨hp, g, d, tk, os⟩ :=
      fun q => B.iter prog w _ _ ⟨hp, g, d, tk, os⟩ _ h1 q
    wp_walk using q1
    refine wpAny_stack_any fun st => wpAny_pure ?_
    split
    · rename_i c _ _ _ _ _
      cases (c == Value.type "enumerate")
      · wp_walk using q1
        exact ⟨_, rfl, h⟩
      · wp_walk using q1
        exact ⟨_, rfl, h⟩
    · wp_walk using q1
      exact ⟨_, rfl, h⟩

section
variable {prog : Program} {w : World} {A : Around} {E : Value → Shared → Prop} {s : Shared}
theorem call_enum1 {v : Value} {o : Obj} {Hb : Heap → Prop} {Q : Value → Shared → Prop} (B : Begins v o Hb) (h1 : Hb s.heap)
    (h : ∀ h', IsEnum h' (s.heap.objs.size + 1) s.heap.objs.size 0 .none → h'.get? s.heap.objs.size = some o → h'.objs.size = s.heap.objs.size + 2 →
      (∀ b o, s.heap.get? b = some o → h'.get? b = some o) → Q (.ref (s.heap.objs.size + 1)) { s with heap := h' }) :
    wpAny (model prog w) A (call (.type "enumerate") [v]) Q E s := by
  refine callType_new F.called_enumerate (by decide) (F.typeCall_enumerate_1 _) (F.newCall_enumerate_1 _) (fun obj => F.args_object_init_2 obj _) F.entry_enumerate_new (enum_new1 B) ⟨h1, ?_⟩
  have hz : (s.heap.push o).objs.size = s.heap.objs.size + 1 := Heap.size_push ..
  show _ ∧ _
  rw [hz]
  have he : IsEnum ((s.heap.push o).push { cls := .type "enumerate", data := .fields #[.none, .bool false, .ref s.heap.objs.size, rawInt 0, .none, .none] }) (s.heap.objs.size + 1) s.heap.objs.size 0 .none := by
    have := Heap.get?_push_size (s.heap.push o) (o := { cls := .type "enumerate", data := .fields #[.none, .bool false, .ref s.heap.objs.size, rawInt 0, .none, .none] }) rfl
    rw [hz] at this; exact this
  refine ⟨⟨_, he, rfl⟩, h _ he (Heap.get?_push_of_some _ (Heap.get?_push_size _ B.free)) (by rw [Heap.size_push, hz]) fun b o x => Heap.get?_push_of_some _ (Heap.get?_push_of_some _ x)⟩
end

section
variable {prog : Program} {w : World} {A : Around} {E : Value → Shared → Prop} {s : Shared}
theorem enum_endT {e it l : Addr} {i : Nat} {items : Array Value} {old : Value} {Q : Option Value → Shared → Prop} (hh : A.handled = none) (he : IsEnum s.heap e it i old) (hit : s.heap.IsTupleIter it l i) (hl : s.heap.IsTuple l items) (hx : items[i]? = none)
    (hQ : ∀ h', Heap.ExtBut it s.heap h' → Q none { s with heap := h' }) : wpAny (model prog w) A (pyNext (.ref e)) Q E s := by
  have hT : s.TypeIs (.ref e) "enumerate" := ⟨_, he, rfl⟩
  unfold pyNext
  refine wpAny_bind (wpAny_attempt (wpAny_callSpecial?_slot (name := Str.ofString "__next__") hT F.slot_enumerate_next
    (wpAny_call_entry F.slot_enumerate_next hT F.entry_enumerate_next ?_ (F.args_enumerate_next_1 _))))
  show wpAny _ _ (field (.ref e) 2 >>= _) _ _ _
  refine wpAny_bind (wpAny_field he rfl (x := .ref it) rfl ?_)
  refine wpAny_bind (wpAny_nextOf_tuple_end hh hit hl hx fun h' x he' hx' => ?_)
  obtain ⟨o, ho, hc⟩ := hx'
  refine wpAny_bind (wpAny_isInstance (T := "StopIteration") (b := true) ⟨o, ho, hc⟩ isSubtype_stop ?_)
  exact wpAny_pure (hQ _ he')
end

def ItT (K : PySem.W.Frag) (a : Addr) : It :=
  ⟨fun i H => ∃ xs x, SqT K H a xs ∧ xs[i]? = some x, fun i H v H' => ∃ t x, v = .ref t ∧ H t = none ∧ H' = upd H t (.tup [.int (i : Int), x]) ∧ ∀ xs, SqT K H a xs → xs[i]? = some x, fun i H => ∃ xs, SqT K H a xs ∧ xs.length ≤ i⟩
theorem turn_enumT {P : Program} {w : World} {K : PySem.W.Frag} {elts : List Expr} {kk : Nat} {tpos : Pos} (a e it : Addr) :
    Turn P w K (.Tuple elts kk tpos) (ItT K a) [e, it] e (fun i h => (∃ old, IsEnum h e it ((i : Nat) : Int) old) ∧ h.IsTupleIter it a i ∧ e ≠ it) where
  mem := by simp
  obj := fun i h st b hb => by
    obtain ⟨⟨old, he⟩, ⟨o, ho, hc, hd⟩, _⟩ := st
    have e' : b = e ∨ b = it := by simpa using hb
    rcases e' with z | z
    · rw [z]; exact ⟨_, he, fun v q => nomatch q⟩
    · rw [z]; exact ⟨o, ho, fun v q => by rw [hd] at q; cases q⟩
  keep := fun i h h' st k => let ⟨⟨old, he⟩, hi, hne⟩ := st; ⟨⟨old, k e (by simp) _ he⟩, hi.at fun o q => k it (by simp) o q, hne⟩
  item := by
    intro X hP hw hK hc i pins s σ H E I hf st hg
    subst hP hw hK
    obtain ⟨⟨old, he⟩, hit, hne⟩ := st
    obtain ⟨xs, x, hq, hx⟩ := hg
    obtain ⟨its, rv, p, hz⟩ := I.tuple hq
    obtain ⟨u, hu, ru⟩ := rv.get hx
    have hel : e < s.heap.objs.size := Heap.lt_size he
    have hil : it < s.heap.objs.size := by obtain ⟨_, q, _⟩ := hit; exact Heap.lt_size q
    have hT0 : s.heap.IsTuple a its.toArray := p
    have hai : a ≠ it := fun z => by
      obtain ⟨o1, q1, c1, _⟩ := hit
      obtain ⟨o2, q2, c2, _⟩ := hT0
      rw [z, q1] at q2
      cases q2
      rw [c1] at c2
      exact absurd c2 (by decide)
    have hae : e ∉ [it, a] := fun z => by
      have z' : e = it ∨ e = a := by simpa using z
      rcases z' with y | y
      · exact hne y
      · obtain ⟨o2, q2, c2, _⟩ := hT0
        have he2 := he
        unfold IsEnum at he2
        rw [y, q2] at he2
        cases he2
        have c3 : Value.type "enumerate" = Value.type "tuple" := c2
        exact absurd c3 (by decide)
    have hlen : i < its.toArray.size := by
      have := (List.getElem?_eq_some_iff.mp hu).1
      simpa using this
    refine wpAny_pyNext_enum_itemC (Draws.tuple (prog := X.prog) (w := X.w) (A := X.A.in1) (I.ok.hd hc) it a hai its.toArray) he ⟨hit, hT0⟩ hlen hne hae fun v h' tk hv ho hst' hT hsz hk => ?_
    have ev : v = u := by
      have hv' : its.toArray[i]? = some v := hv
      have hu' : its.toArray[i]? = some u := by simpa using hu
      rw [hv'] at hu'
      exact Option.some.inj hu'
    subst ev
    refine ⟨_, rfl, wpAny_letOwnedTupleGo_enum (s := { s with heap := h', toks := tk + 1 }) ho fun h'' he' sb => ?_⟩
    have hT2 : h''.get? s.heap.objs.size = some { cls := .type "tuple", data := .seq #[.int i tk, v] } := (sb.2 _ (Nat.ne_of_gt hel)).trans hT
    have new : ObjOk X.prog X.w (upd H s.heap.objs.size (.tup [.int (i : Nat), x])) h'' s.heap.objs.size (.tup [.int (i : Nat), x]) :=
      ⟨by show 2 ≤ sizeLine; decide, [.int i tk, v], .cons ⟨_, rfl⟩ (.cons ru .nil), ⟨_, hT2, rfl, _, rfl⟩⟩
    have I1 : Inv X pins σ (upd H s.heap.objs.size (.tup [.int (i : Nat), x])) { s with heap := h'', toks := tk + 1 } :=
      I.turnedNew (ch := [e, it]) (fun b ob hb q => (sb.2 b (fun z => hb (by simp [z]))).trans (hk b ob (fun z => hb (by simp [z])) (fun z => hb (by simp [z])) q)) hf (Nat.le_refl _) new
    refine ⟨.ref s.heap.objs.size, _, I1, rfl, ⟨_, x, rfl, I.hok.fresh (Nat.le_refl _), rfl, fun ys hy => by rw [I.tuple_inj hy hq]; exact hx⟩, ⟨⟨v, ?_⟩, hst'.1.at fun o q => (sb.2 it (Ne.symm hne)).trans q, hne⟩, fun b hb => ?_⟩
    · have e1 : ((i + 1 : Nat) : Int) = (i : Int) + 1 := by omega
      rw [e1]; exact he'
    · have hb' : b < s.heap.objs.size := by
        have e' : b = e ∨ b = it := by simpa using hb
        rcases e' with z | z
        · rw [z]; exact hel
        · rw [z]; exact hil
      rw [upd_ne (Nat.ne_of_lt hb')]
      exact (hf b hb).1
  done := by
    intro X hP hw hK hc i pins s σ H E I hf st hg
    subst hP hw hK
    obtain ⟨⟨old, he⟩, hit, hne⟩ := st
    obtain ⟨xs, hq, hx⟩ := hg
    obtain ⟨its, rv, p, hz⟩ := I.tuple hq
    obtain ⟨f0, f1, f2, f3, f4, f5⟩ := hf it (by simp)
    have hT0 : s.heap.IsTuple a its.toArray := p
    have hai : a ≠ it := fun z => by
      obtain ⟨o1, q1, c1, _⟩ := hit
      obtain ⟨o2, q2, c2, _⟩ := hT0
      rw [z, q1] at q2
      cases q2
      rw [c1] at c2
      exact absurd c2 (by decide)
    have hl := rv.length
    exact enum_endT (I.ok.hd hc) he hit hT0 (by simp; omega) fun h' eb => ⟨rfl, I.turned (t' := s.toks) (fun b o hb q => eb b o hb q) f0 f1 f3 f4 f5⟩
  self := fun A i s Q E st h => let ⟨⟨_, he⟩, _⟩ := st; wpAny_pyIter_enum he h

def iEnumT (K : PySem.W.Frag) (ta : TA) : TI := fun σ H R => ta σ H fun vs H1 => ∃ a xs, vs = [.ref a] ∧ SqT K H1 a xs ∧ R (ItT K a) H1
theorem pi_enumT {X : Cx} {e : Expr} {ta : TA} {p pos tpos : Pos} {elts : List Expr} {kk : Nat} (hg : Gl X "enumerate") (hm : X.mg "enumerate" = none) (ha : PA X [e] ta) (hs : starEach [e] X.env = [(false, eval e X.env)] := by rfl) :
    PI X (.Tuple elts kk tpos) (.Call (.Name "enumerate" p) [e] [] pos) (iEnumT X.K ta) := by
  refine ⟨fun pins s σ H R I h => ?_⟩
  refine Call_ (ld_blt I hg hm boot_enumerate (PyProof.Rows.callWith_type1 (thn (ha.run pos pins s σ H _ I h) fun us s1 ⟨vs, H1, I1, r1, q1⟩ => ?_) hs rfl))
  obtain ⟨a, xs, ex, hq, q⟩ := q1
  subst ex
  cases r1 with
  | cons r rr =>
    cases rr
    cases r
    obtain ⟨its, rv, p', hz⟩ := I1.tuple hq
    refine call_enum1 (begins_tuple a its.toArray) p' fun h' he hit hsz hk => wpAny_pyIter_enum he ?_
    have I2 : Inv X pins σ H1 { s1 with heap := h' } := I1.kept (t' := s1.toks) hk
    refine ⟨s1.heap.objs.size + 1, [s1.heap.objs.size + 1, s1.heap.objs.size], _, _, H1, rfl, I2, turn_enumT a (s1.heap.objs.size + 1) s1.heap.objs.size, ⟨⟨.none, he⟩, ⟨_, hit, rfl, rfl⟩, Nat.succ_ne_self _⟩, fun b hb => ?_, q⟩
    have e' : b = s1.heap.objs.size + 1 ∨ b = s1.heap.objs.size := by simpa using hb
    have hle : s1.heap.objs.size ≤ b := by
      rcases e' with z | z
      · rw [z]; exact Nat.le_add_right _ _
      · rw [z]; exact Nat.le_refl _
    exact I1.fpOk hle (I1.hok.fresh hle)

/-- (0, x), (1, y), .. -/
def nums (k : Nat) : List PyData → List PyData
  | [] => []
  | d :: ds => .tuple [.int (Int.ofNat k), d] :: nums (k + 1) ds
theorem nums_get : ∀ {ds : List PyData} {k i : Nat}, (nums k ds)[i]? = (ds[i]?).map fun d => .tuple [.int (Int.ofNat (k + i)), d]
  | [], _, _ => by simp [nums]
  | d :: ds, k, 0 => by simp [nums]
  | d :: ds, k, i + 1 => by
    have h := nums_get (ds := ds) (k := k + 1) (i := i)
    have e : k + 1 + i = k + (i + 1) := by omega
    rw [e] at h
    simpa [nums] using h
theorem nums_len : ∀ {ds : List PyData} {k : Nat}, (nums k ds).length = ds.length
  | [], _ => rfl
  | d :: ds, k => congrArg Nat.succ nums_len
theorem ei_enumT {X : Cx} {e : Expr} {σ : L2.St} {B : Hp} {ds : List PyData} {p pos tpos : Pos} {elts : List Expr} {kk : Nat} (BL : X.mg "enumerate" = none) (h : EE X e σ B (.tuple ds)) (hg : Gl X "enumerate" := by rfl) (hs : starEach [e] X.env = [(false, eval e X.env)] := by rfl)
    (hs2 : starEach [e] X.env = (false, eval e X.env) :: starEach [] X.env := by rfl) : EI X (.Tuple elts kk tpos) (.Call (.Name "enumerate" p) [e] [] pos) σ B (nums 0 ds) := fun H1 l R q => ⟨_, pi_enumT hg BL (pa_cons pe_w pa_nil hs2) hs, h H1 l _ fun v B2 H2 u dv => by
  cases dv with
  | tup s t h0 =>
    refine ⟨_, _, rfl, sqT_le u.s s, q _ B2 H2 u fun B' H' l1 l2 => ⟨fun i hi => ?_, ⟨_, sqT_le (l1.trans l2) s, by rw [nums_len]; exact Nat.le_of_eq h0.length⟩, fun i x H'' hi hy => ?_⟩⟩
    · rw [nums_len] at hi
      obtain ⟨v, h1, _⟩ := h0.get (List.getElem?_eq_getElem hi)
      exact ⟨_, v, sqT_le (l1.trans l2) s, h1⟩
    · obtain ⟨t', y, e1, e2, e3, hy⟩ := hy
      subst e1 e3
      obtain ⟨d, h1, h2⟩ := h0.getV (hy _ (sqT_le (l1.trans l2) s))
      have hb : B' t' = none := l2.there _ e2
      refine ⟨upd B' t' (.tup [.int (i : Int), y]), .tuple [.int (Int.ofNat i), d], (Up.refl l2).new e2 (fun ps z => by cases z), ?_, .new_tup upd_same (.cons (.int _) (.cons (Dt.le (l1.trans (Le.new hb)) h2) .nil))⟩
      rw [nums_get, h1, Nat.zero_add]
      rfl⟩
end Tk


set_option Elab.async false
set_option linter.all false
set_option maxRecDepth 100000
set_option maxHeartbeats 1000000
/-! Tk4: scopes by a check, truths of ints, data that is small. -/
namespace Tk
open PySem PySem.Spec PyProof.Rows L2 GxR Gx
variable [LamTab]

theorem ds1 {K : PySem.W.Frag} {B : Hp} {vs : List V} {a : PyData} (h : Ds K B vs [a]) : ∃ x, vs = [x] ∧ Dt K B x a := by
  cases h with
  | cons h1 h => cases h; exact ⟨_, rfl, h1⟩
theorem ds2 {K : PySem.W.Frag} {B : Hp} {vs : List V} {a b : PyData} (h : Ds K B vs [a, b]) : ∃ x y, vs = [x, y] ∧ Dt K B x a ∧ Dt K B y b := by
  cases h with
  | cons h1 h =>
    obtain ⟨y, rfl, h2⟩ := ds1 h
    exact ⟨_, y, rfl, h1, h2⟩
theorem ds3 {K : PySem.W.Frag} {B : Hp} {vs : List V} {a b c : PyData} (h : Ds K B vs [a, b, c]) : ∃ x y z, vs = [x, y, z] ∧ Dt K B x a ∧ Dt K B y b ∧ Dt K B z c := by
  cases h with
  | cons h1 h =>
    obtain ⟨y, z, rfl, h2, h3⟩ := ds2 h
    exact ⟨_, y, z, rfl, h1, h2, h3⟩

/-- the scope of a generator expression, by a look -/
def gsB (Nx N : List Str) (sc scope : Scope) (js : List (Option Nat)) : Bool :=
  decide (scope.kind = .function) && !scope.isCoroutine && (scope.names.all fun y => !decide (y.2 = .cell) && (!decide (y.2 = .free) || decide (sc.names.lookup y.1 = some .cell))) && decide (scope.names.lookup (".0" : Str) = some .local) && decide (js.length = N.length) &&
  (List.range js.length).all fun i => match js[i]? with
    | some (some j) => match N[i]? with
      | some x => decide (Nx[j]? = some x) && decide (scope.names.lookup x = some .free) && decide (sc.names.lookup x = some .cell)
      | none => false
    | _ => true
theorem scope_by {X : Cx} {scope : Scope} {N : List Str} {js : List (Option Nat)} {n : Nat} (hc : X.env.cells = cellsFrom n X.env.scope.names []) (h : gsB X.N N X.env.scope scope js = true) : ScopeOk X scope N js := by
  unfold gsB at h
  simp only [Bool.and_eq_true, Bool.or_eq_true, Bool.not_eq_true', decide_eq_true_eq, decide_eq_false_iff_not, List.all_eq_true] at h
  obtain ⟨⟨⟨⟨⟨h1, h2⟩, h3⟩, h4⟩, h5⟩, h6⟩ := h
  refine ⟨h1, h2, fun y hy => (h3 y hy).1, h4, fun y hy e => ?_, h5, fun i j hij => ?_⟩
  · rcases (h3 y hy).2 with z | z
    · exact absurd e z
    · rw [hc]
      exact cell_has z
  · have hi : i < js.length := (List.getElem?_eq_some_iff.mp hij).1
    have q := h6 i (List.mem_range.mpr hi)
    rw [hij] at q
    cases hN : N[i]? with
    | none => rw [hN] at q; simp at q
    | some x =>
      rw [hN] at q
      simp only [Bool.and_eq_true, decide_eq_true_eq] at q
      exact ⟨x, rfl, q.1.1, q.1.2, .inl q.2⟩

section
variable {X : Cx} {e : Expr} {σ : L2.St} {B : Hp}
theorem et_int {i : Int} (ha : EE X e σ B (.int i)) (hs : ∀ whole : Sem Value, PySem.isTrue e X.env whole = (do let v ← whole; standAt e.pos; holding [v] (truthy v)) := by intro _; rfl) : ET X e σ B (i != 0) := fun H1 l Q k =>
  ⟨_, pt_truth pe_w hs, ha H1 l _ fun x B2 H2 u2 dx => by
    cases dx
    exact ⟨i != 0, rfl, k _ u2.h⟩⟩
end

theorem Up.le {B H H' : Hp} (l : Le B H) (k : Le H H') : Up B H B H' := (Up.refl l).tab k
theorem hu65 {A : Around} {k : Nat} (r : Room k A) : A.units + 65 < cLine := by
  have := r.un
  omega
theorem hu64 {A : Around} {k : Nat} (r : Room k A) : A.units + 64 < cLine := by
  have := r.un
  omega
section
variable {X : Cx} {a b c : Expr} {σ : L2.St} {H : Hp} {d1 d2 d3 : PyData}
theorem et_cmp {op : CmpOp} {r : R2} {pos : Pos} {k : Bool} (o : OpR X (compareOp op) r) (hr : RR X.K r H d1 d2 (.bool k)) (ha : EE X a σ H d1) (hb : EE X b σ H d2) (hm : behindInMarks op b = false := by rfl) : ET X (.Compare a [op] [b] pos) σ H k := fun H1 l Q q =>
  ⟨_, pt_cmpR o pe_w pe_w hm, two hr ha hb l fun v B2 H2 u dv => by
    cases dv
    exact ⟨k, rfl, q H2 u.h⟩⟩
theorem et_chain {op op' : CmpOp} {r r' : R2} {pos : Pos} {k1 k2 : Bool} (o : OpR X (compareOp op) r) (o' : OpR X (compareOp op') r') (hr : RR X.K r H d1 d2 (.bool k1)) (hr' : k1 = true → RR X.K r' H d2 d3 (.bool k2))
    (ha : EE X a σ H d1) (hb : EE X b σ H d2) (hc : k1 = true → EE X c σ H d3) (hm : lastMarks [op, op'] [b, c] = false := by rfl) : ET X (.Compare a [op, op'] [b, c] pos) σ H (k1 && k2) := fun H1 l Q q =>
  ⟨_, pt_chain o o' pe_w pe_w pe_w hm, ha H1 l _ fun x B2 H2 u2 dx => hb.mono u2.b H2 u2.s _ fun y B3 H3 u3 dy => hr B3 H3 (u2.b.trans u3.b) u3.s x y (Dt.le u3.b dx) dy _ fun z B4 H4 u4 dz => by
    cases dz
    refine ⟨k1, rfl, ?_⟩
    have u := (u2.trans u3).trans u4
    cases k1 with
    | true =>
      rw [if_pos rfl]
      exact (hc rfl).mono u.b H4 u.s _ fun t B5 H5 u5 dt => hr' rfl B5 H5 (u.b.trans u5.b) u5.s y t (Dt.le (u4.b.trans u5.b) dy) dt _ fun v B6 H6 u6 dv => by
        cases dv
        exact ⟨k2, rfl, q H6 ((u.trans u5).trans u6).h⟩
    | false =>
      rw [if_neg Bool.false_ne_true]
      exact ⟨false, rfl, q H4 u.h⟩⟩
theorem ee_globD {x : Str} {v : V} {u : Value} {pos : Pos} {d : PyData} (hm : X.mg x = some u) (hr : RelV v u) (hd : ∀ H', Dt X.K H' v d) (hg : Gl X x := by rfl) (hdb : (x == ("__debug__" : Str)) = false := by decide) : EE X (.Name x pos) σ H d := ee_v (pe_glob hg hm hr hdb) hd
end
theorem at0 {α : Type} {x : α} {xs : List α} : atI (x :: xs) 0 = some x := atI_nat (j := 0) rfl
theorem at1 {α : Type} {x y : α} {xs : List α} : atI (x :: y :: xs) 1 = some y := atI_nat (j := 1) rfl
theorem at2 {α : Type} {x y z : α} {xs : List α} : atI (x :: y :: z :: xs) 2 = some z := atI_nat (j := 2) rfl
theorem atD {xs : List PyData} {i : Nat} (h : i < xs.length) : atI xs (Int.ofNat i) = some (xs.getD i .none) := atI_nat (j := i) (by rw [List.getD_eq_getElem?_getD, List.getElem?_eq_getElem h]; rfl)
/-! every text and every tuple in it is of a size that the machine takes -/
mutual
def okD : PyData → Bool
  | .str x => x.cps.all (· < 0x110000) && decide (x.length ≤ 100000)
  | .list xs => decide (xs.length ≤ 100000) && okDs xs
  | .tuple xs => decide (xs.length ≤ 100000) && okDs xs
  | .dict kvs => decide (kvs.length = 0)
  | _ => true
def okDs : List PyData → Bool
  | [] => true
  | x :: xs => okD x && okDs xs
end
theorem okDs_mem : ∀ {xs : List PyData} {d : PyData}, okDs xs = true → d ∈ xs → okD d = true
  | x :: xs, d, h, m => by
    have h' := (Bool.and_eq_true _ _).mp h
    rcases List.mem_cons.mp m with z | z
    · rw [z]; exact h'.1
    · exact okDs_mem h'.2 z
theorem okD_str {x : Str} (h : okD (.str x) = true) : x.length ≤ sizeLine := by
  have h' := (Bool.and_eq_true _ _).mp h
  exact Nat.le_trans (of_decide_eq_true h'.2) (by decide)
theorem okD_tup {xs : List PyData} (h : okD (.tuple xs) = true) : xs.length ≤ 100000 ∧ okDs xs = true := by
  have h' := (Bool.and_eq_true _ _).mp h
  exact ⟨of_decide_eq_true h'.1, h'.2⟩
mutual
theorem okD_lay : ∀ {d : PyData}, okD d = true → noDict d = true → d.canLay0 = true
  | .none, _, _ => by simp only [PyData.canLay0]
  | .bool _, _, _ => by simp only [PyData.canLay0]
  | .int _, _, _ => by simp only [PyData.canLay0]
  | .str x, h, _ => by
    simp only [PyData.canLay0]
    exact ((Bool.and_eq_true _ _).mp h).1
  | .list xs, h, n => by
    simp only [PyData.canLay0]
    exact okDs_lay ((Bool.and_eq_true _ _).mp h).2 n
  | .tuple xs, h, n => by
    simp only [PyData.canLay0]
    exact okDs_lay ((Bool.and_eq_true _ _).mp h).2 n
theorem okDs_lay : ∀ {xs : List PyData}, okDs xs = true → noDicts xs = true → PyData.canLayAll0 xs = true
  | [], _, _ => by simp only [PyData.canLayAll0]
  | x :: xs, h, n => by
    have h' := (Bool.and_eq_true _ _).mp h
    have n' := (Bool.and_eq_true _ _).mp n
    simp only [PyData.canLayAll0, Bool.and_eq_true]
    exact ⟨okD_lay h'.1 n'.1, okDs_lay h'.2 n'.2⟩
end
theorem depthAll_le : ∀ {xs : List PyData} {n : Nat}, (∀ x ∈ xs, x.depth ≤ n) → PyData.depthAll xs ≤ n
  | [], n, _ => by simp [PyData.depthAll]
  | x :: xs, n, h => by
    have h1 := h x List.mem_cons_self
    have h2 := depthAll_le fun y hy => h y (List.mem_cons_of_mem _ hy)
    simp only [PyData.depthAll]
    omega
theorem noDicts_of : ∀ {xs : List PyData}, (∀ x ∈ xs, noDict x = true) → noDicts xs = true
  | [], _ => rfl
  | x :: xs, h => by
    show (noDict x && noDicts xs) = true
    rw [h x List.mem_cons_self, noDicts_of fun y hy => h y (List.mem_cons_of_mem _ hy)]
    rfl
theorem okDs_of : ∀ {xs : List PyData}, (∀ x ∈ xs, okD x = true) → okDs xs = true
  | [], _ => rfl
  | x :: xs, h => by
    show (okD x && okDs xs) = true
    rw [h x List.mem_cons_self, okDs_of fun y hy => h y (List.mem_cons_of_mem _ hy)]
    rfl
/-- flat: texts, numbers .. -/
def flatD : PyData → Bool
  | .list _ => false
  | .tuple _ => false
  | .dict _ => false
  | _ => true
theorem flat_noDict {d : PyData} (h : flatD d = true) : noDict d = true := by
  cases d <;> first | rfl | cases h
theorem flat_shaped {d : PyData} (h : flatD d = true) (k : okD d = true) : SeqAt.shaped d = true := by
  cases d with
  | str x =>
    have h' := (Bool.and_eq_true _ _).mp k
    unfold SeqAt.shaped
    rw [Bool.and_eq_true]
    exact ⟨by simp only [PyData.canLay0]; exact h'.1, by simp [PyData.depth]⟩
  | none => decide
  | bool b => cases b <;> decide
  | int i =>
    unfold SeqAt.shaped
    rw [Bool.and_eq_true]
    exact ⟨by simp only [PyData.canLay0], by simp [PyData.depth]⟩
  | _ => cases h
theorem flat_depth {d : PyData} (h : flatD d = true) : d.depth = 0 := by
  cases d <;> first | (simp [PyData.depth]; done) | cases h
theorem str_flat {d : PyData} (h : isStr d = true) : flatD d = true := by
  cases d <;> first | rfl | cases h
/-- a tuple of flat things -/
theorem tupF_shaped {xs : List PyData} (h : ∀ x ∈ xs, flatD x = true) (k : okD (.tuple xs) = true) : noDict (.tuple xs) = true ∧ SeqAt.shaped (.tuple xs) = true ∧ (PyData.tuple xs).depth ≤ 1 := by
  have n : noDicts xs = true := noDicts_of fun x hx => flat_noDict (h x hx)
  have dp : PyData.depthAll xs ≤ 0 := depthAll_le fun x hx => Nat.le_of_eq (flat_depth (h x hx))
  have dd : (PyData.tuple xs).depth ≤ 1 := by
    simp only [PyData.depth]
    omega
  refine ⟨n, ?_, dd⟩
  unfold SeqAt.shaped
  rw [Bool.and_eq_true]
  exact ⟨okD_lay k n, decide_eq_true (by omega)⟩
/-- a tuple of tuples of flat things -/
theorem tupT_shaped {xs : List PyData} (h : ∀ x ∈ xs, noDict x = true ∧ x.depth ≤ 1) (k : okD (.tuple xs) = true) : noDicts xs = true ∧ SeqAt.shaped (.tuple xs) = true := by
  have n : noDicts xs = true := noDicts_of fun x hx => (h x hx).1
  have dp : PyData.depthAll xs ≤ 1 := depthAll_le fun x hx => (h x hx).2
  have dd : (PyData.tuple xs).depth ≤ 2 := by
    simp only [PyData.depth]
    omega
  refine ⟨n, ?_⟩
  unfold SeqAt.shaped
  rw [Bool.and_eq_true]
  exact ⟨okD_lay (d := .tuple xs) k n, decide_eq_true (by omega)⟩

/-! ### unpacking -/
section
variable {X : Cx} {e tg : Expr} {σ : L2.St} {B H : Hp} {d : PyData} {es : List PyData} {D : L2.Ends} {tjs : List Nat} {pat : PyData → Option (List PyData)}
theorem ws_tgt {pos : Pos} (l : Le B H) (h : EE X e σ B d) (hg : EG X tg tjs pat) (hp : pat d = some es) (q : ∀ vs B' H', Up B H B' H' → Ds X.K B' vs es → D.nx (setsS σ tjs vs) H')
    (h1 : swapsWithSole [tg] e pos.line X.env = pure false := by rfl) (h2 : swappedStores [tg] e X.env = pure none := by rfl) (h3 : (assignEach [tg] X.env).map (fun x => x.2) = [assign tg X.env] := by rfl) : WS X (.Assign [tg] e pos) D σ H :=
  ⟨_, ps_asg pe_w pg_w h1 h2 h3, h H l _ fun v B' H' u dv => hg v d es σ B' H' u.s dv hp _ fun vs dvs => q vs B' H' u dvs⟩
end
end Tk


namespace K0
open PySem
def top (i : Nat) : Stmt := PySem.Challenge.pw_allboughs_k00_woods_and_letters_judged.main.body.getD i (.Pass ⟨0, 0, 0, 0⟩)
abbrev t_is_number : Stmt := top 1
abbrev t_is_headed : Stmt := top 2
abbrev t_is_row : Stmt := top 3
abbrev t_ascends : Stmt := top 4
abbrev t_BoughError : Stmt := top 6
abbrev t_BadScope : Stmt := top 7
abbrev t_KEPT : Stmt := top 9
abbrev t_is_name : Stmt := top 10
abbrev t_MOST_NODES : Stmt := top 12
abbrev t_is_scope : Stmt := top 13
abbrev t_letters_of : Stmt := top 14
abbrev t_letters : Stmt := top 15
abbrev t_is_node : Stmt := top 16
abbrev t_is_wood : Stmt := top 17
abbrev t__law_begun : Stmt := top 19
abbrev t__law_mixed : Stmt := top 20
abbrev t__law_take : Stmt := top 21
abbrev t__law_pick : Stmt := top 22
abbrev t__law_shuffled : Stmt := top 23
abbrev t__law_caught : Stmt := top 24
abbrev t__law_names : Stmt := top 25
abbrev t__law_scope : Stmt := top 26
abbrev t__law_letters : Stmt := top 27
abbrev t__law_wood : Stmt := top 28
abbrev t__law_bad_wood : Stmt := top 29
abbrev t__law_paths : Stmt := top 30
abbrev t__law_part : Stmt := top 31
abbrev t__law_put : Stmt := top 32
abbrev t__law_odd : Stmt := top 33
abbrev t__law_bent : Stmt := top 34
abbrev t__law_is_number : Stmt := top 35
abbrev t__law_are_names : Stmt := top 36
abbrev t__law_is_wood : Stmt := top 37
abbrev t_law : Stmt := top 38
abbrev t__law_numbered : Stmt := .Pass ⟨0, 0, 0, 0⟩
abbrev t_check_both : Stmt := .Pass ⟨0, 0, 0, 0⟩
abbrev t_least : Stmt := .Pass ⟨0, 0, 0, 0⟩
abbrev t_least_rows : Stmt := .Pass ⟨0, 0, 0, 0⟩
abbrev t_parting : Stmt := .Pass ⟨0, 0, 0, 0⟩
abbrev t_sorted_out : Stmt := .Pass ⟨0, 0, 0, 0⟩
abbrev t_walked : Stmt := .Pass ⟨0, 0, 0, 0⟩
abbrev t_walked_together : Stmt := .Pass ⟨0, 0, 0, 0⟩
end K0


set_option Elab.async false
set_option linter.all false
set_option maxRecDepth 100000
set_option maxHeartbeats 2000000
namespace K0
open PySem PySem.Spec PyProof.Rows L2 GxR Tk
variable [LamTab]
abbrev sNum : Stmt := t_is_number
abbrev sHead : Stmt := t_is_headed
abbrev sRow : Stmt := t_is_row
abbrev sAsc : Stmt := t_ascends
section
variable {P : Program} {w : World} {K : PySem.W.Frag} {mg : Str → Option Value} {base : Heap} {f : Addr} {fd : FuncData} {T : List Addr} {c Pt : Addr}

def numB (d : PyData) (m : Int) : Bool := isInt d && (!isBool d && match d with | .int i => decide (0 ≤ i) && decide (i < m) | _ => false)
def numF : List PyData → PyData
  | [d, .int m] => .bool (numB d m)
  | _ => .none
def numP (ds : List PyData) : Prop := ∃ d m, ds = [d, .int m]
theorem scNum : FnScope ["thing", "limit"] ["thing", "limit"] (defScope sNum) := ⟨rfl, rfl, rfl, by decide +kernel, rfl, by decide +kernel, by decide +kernel⟩
theorem ok_num (BL : Blt mg) (F : L2.Fun K "is_number" "is_number" sNum f fd) : FnOk P w K mg base CX0 1 f fd ["thing", "limit"] (spF K T 2 numP numF) := by
  refine fn_pure F scNum rfl fun cdv A outer s H vs B ds Q E hr hcd t l hd hl hp q => ?_
  obtain ⟨d, m, rfl⟩ := hp
  obtain ⟨v1, v2, rfl, h1, h2⟩ := ds2 hd
  cases h2
  refine wb_one (ws_ret (d := .bool (numB d m)) l ?_ q)
  refine ee_and (ee_isInt BL (ee_var (i := 0) rfl h1)) fun e1 => ?_
  refine ee_and (ee_not (ee_isBool BL (ee_var (i := 0) rfl h1))) fun e2 => ?_
  refine ee_one ?_
  cases d with
  | int i => exact ee_chain op_le op_lt rr_le (fun _ => rr_lt) ee_int (ee_var (i := 0) rfl h1) fun _ => ee_var (i := 1) rfl (.int m)
  | bool b => cases e2
  | none => cases e1
  | str x => cases e1
  | list x => cases e1
  | tuple x => cases e1
  | dict x => cases e1

def rowB (d : PyData) (lo hi : Int) : Bool := isTup d && match d with | .tuple xs => decide (lo ≤ (xs.length : Int)) && decide ((xs.length : Int) ≤ hi) | _ => false
def rowF : List PyData → PyData
  | [d, .int lo, .int hi] => .bool (rowB d lo hi)
  | _ => .none
def rowP (ds : List PyData) : Prop := ∃ d lo hi, ds = [d, .int lo, .int hi]
theorem scRow : FnScope ["thing", "least", "most"] ["thing", "least", "most"] (defScope sRow) := ⟨rfl, rfl, rfl, by decide +kernel, rfl, by decide +kernel, by decide +kernel⟩
theorem ok_row (BL : Blt mg) (F : L2.Fun K "is_row" "is_row" sRow f fd) : FnOk P w K mg base CX0 1 f fd ["thing", "least", "most"] (spF K T 3 rowP rowF) := by
  refine fn_pure F scRow rfl fun cdv A outer s H vs B ds Q E hr hcd t l hd hl hp q => ?_
  obtain ⟨d, lo, hi, rfl⟩ := hp
  obtain ⟨v1, v2, v3, rfl, h1, h2, h3⟩ := ds3 hd
  cases h2
  cases h3
  refine wb_one (ws_ret (d := .bool (rowB d lo hi)) l ?_ q)
  refine ee_and (ee_isTup BL (ee_var (i := 0) rfl h1)) fun e1 => ?_
  refine ee_one ?_
  cases d with
  | tuple xs => exact ee_chain op_le op_le rr_le (fun _ => rr_le) (ee_var (i := 1) rfl (.int lo)) (ee_len BL (ee_var (i := 0) rfl h1) rfl fun x z => by cases z) fun _ => ee_var (i := 2) rfl (.int hi)
  | _ => cases e1

def headB (d : PyData) (wd : Str) (n : Int) : Bool := isTup d && match d with
  | .tuple xs => decide ((xs.length : Int) = n) && match xs with
    | x :: _ => isStr x && match x with
      | .str z => decide (z = wd)
      | _ => false
    | [] => false
  | _ => false
def headF : List PyData → PyData
  | [d, .str wd, .int n] => .bool (headB d wd n)
  | _ => .none
def headP (ds : List PyData) : Prop := ∃ d wd n, ds = [d, .str wd, .int n] ∧ 0 < n
theorem scHead : FnScope ["thing", "word", "size"] ["thing", "word", "size"] (defScope sHead) := ⟨rfl, rfl, rfl, by decide +kernel, rfl, by decide +kernel, by decide +kernel⟩
theorem ok_head (BL : Blt mg) (F : L2.Fun K "is_headed" "is_headed" sHead f fd) : FnOk P w K mg base CX0 1 f fd ["thing", "word", "size"] (spF K T 3 headP headF) := by
  refine fn_pure F scHead rfl fun cdv A outer s H vs B ds Q E hr hcd t l hd hl hp q => ?_
  obtain ⟨d, wd, n, rfl, hn⟩ := hp
  obtain ⟨v1, v2, v3, rfl, h1, h2, h3⟩ := ds3 hd
  cases h2
  cases h3
  refine wb_one (ws_ret (d := .bool (headB d wd n)) l ?_ q)
  refine ee_and (ee_isTup BL (ee_var (i := 0) rfl h1)) fun e1 => ?_
  cases d with
  | tuple xs =>
    refine ee_and (ee_cmp op_eq rr_eqI (ee_len BL (ee_var (i := 0) rfl h1) rfl fun x z => by cases z) (ee_var (i := 2) rfl (.int n))) fun e2 => ?_
    have e2 : (xs.length : Int) = n := of_decide_eq_true e2
    cases xs with
    | nil =>
      have e3 : ((0 : Nat) : Int) = n := e2
      omega
    | cons x xs =>
      refine ee_and (ee_isStr BL (ee_ix ix_tup (rr_ixT at0) (ee_var (i := 0) rfl h1) ee_int)) fun e3 => ?_
      refine ee_one ?_
      cases x with
      | str z => exact ee_cmp op_eq rr_eqS (ee_ix ix_tup (rr_ixT at0) (ee_var (i := 0) rfl h1) ee_int) (ee_var (i := 1) rfl (.str wd))
      | _ => cases e3
  | _ => cases e1

/-- less, of texts and of numbers -/
def ltD : PyData → PyData → Bool
  | .str a, .str b => decide (a.cps.toList < b.cps.toList)
  | .int a, .int b => decide (a < b)
  | _, _ => false
def ascB (xs : List PyData) : Bool := (upto ((xs.length : Int) - 1).toNat).all fun d => match d with
  | .int i => ltD (xs.getD i.toNat .none) (xs.getD (i + 1).toNat .none)
  | _ => false
def ascF : List PyData → PyData
  | [.tuple xs] => .bool (ascB xs)
  | _ => .none
def ascP (ds : List PyData) : Prop := ∃ xs, ds = [.tuple xs] ∧ xs.length ≤ 100000 ∧ ((∀ d ∈ xs, isStr d = true) ∨ ∀ d ∈ xs, ∃ i, d = .int i)
theorem scAsc : FnScope ["items"] ["items"] (defScope sAsc) := ⟨rfl, rfl, rfl, by decide +kernel, rfl, by decide +kernel, by decide +kernel⟩
theorem mem_upto {n : Nat} {d : PyData} (h : d ∈ upto n) : ∃ i : Nat, i < n ∧ d = .int (Int.ofNat i) := by
  unfold upto at h
  obtain ⟨i, hi, e⟩ := List.mem_map.mp h
  exact ⟨i, List.mem_range.mp hi, e.symm⟩
theorem ok_asc (BL : Blt mg) (F : L2.Fun K "ascends" "ascends" sAsc f fd) (hc : fd.code = .ref c) (TB : TabB base mg c Pt) (hP : Pt ∈ T) : FnOk P w K mg base CX0 2 f fd ["items"] (spF K T 1 ascP ascF) := by
  refine fn_pure F scAsc rfl fun cdv A outer s H vs B ds Q E hr hcd t l hd hl hp q => ?_
  obtain ⟨xs, rfl, hn, hk⟩ := hp
  obtain ⟨v1, rfl, h1⟩ := ds1 hd
  subst hcd
  refine wb_one (ws_ret (d := .bool (ascB xs)) l ?_ q)
  refine ee_all (k := 0) (N := ["at", "items"]) (js := [none, some 0]) (tjs := [0]) (pat := patN) _ hr BL.all TB hc (scope_by (n := s.heap.objs.size + 1) rfl (show gsB ["items"] ["at", "items"] (defScope sAsc) _ [none, some 0] = true by decide +kernel)) hP t
    (ei_range (n := (xs.length : Int) - 1) BL.range (ee_op op_sub rr_sub (ee_len BL (ee_var (i := 0) rfl h1) rfl fun x z => by cases z) ee_int) (by omega) (by omega)) (fun code A s H0 ex hr => eg_name (show List.Nodup (["at", "items"] : List Str) by decide +kernel)) (by decide) (fun d hd => ⟨[d], rfl, rfl⟩) fun B' d es vs lb hd he hv code A s H0 ex hr => ?_
  obtain ⟨i, hi, rfl⟩ := mem_upto hd
  cases he
  obtain ⟨x, rfl, hx⟩ := ds1 (K := K) hv
  have hi1 : i < xs.length := by omega
  have hi2 : i + 1 < xs.length := by omega
  have e2 : (Int.ofNat i + 1 : Int) = Int.ofNat (i + 1) := rfl
  have g1 : xs.getD i .none ∈ xs := by rw [List.getD_eq_getElem?_getD, List.getElem?_eq_getElem hi1]; exact List.getElem_mem hi1
  have g2 : xs.getD (i + 1) .none ∈ xs := by rw [List.getD_eq_getElem?_getD, List.getElem?_eq_getElem hi2]; exact List.getElem_mem hi2
  rcases hk with hk | hk
  · have k1 := hk _ g1
    have k2 := hk _ g2
    have a1 := atD hi1
    have a2 := atD hi2
    refine EE.cast (d := .bool (ltD (xs.getD i .none) (xs.getD (i + 1) .none))) ?_ rfl
    generalize xs.getD i .none = y1 at *
    generalize xs.getD (i + 1) .none = y2 at *
    cases y1 with
    | str z1 =>
      cases y2 with
      | str z2 => exact ee_cmp o_ltS rr_ltS (ee_ix ix_tup (rr_ixT a1) (ee_var (i := 1) rfl (Dt.le lb h1)) (ee_var (i := 0) rfl hx)) (ee_ix ix_tup (rr_ixT a2) (ee_var (i := 1) rfl (Dt.le lb h1)) (ee_op op_add rr_add (ee_var (i := 0) rfl hx) ee_int))
      | _ => cases k2
    | _ => cases k1
  · obtain ⟨j1, k1⟩ := hk _ g1
    obtain ⟨j2, k2⟩ := hk _ g2
    have a1 := atD hi1
    have a2 := atD hi2
    refine EE.cast (d := .bool (ltD (xs.getD i .none) (xs.getD (i + 1) .none))) ?_ rfl
    rw [k1] at a1 ⊢
    rw [k2] at a2 ⊢
    exact ee_cmp op_lt rr_lt (ee_ix ix_tup (rr_ixT a1) (ee_var (i := 1) rfl (Dt.le lb h1)) (ee_var (i := 0) rfl hx)) (ee_ix ix_tup (rr_ixT a2) (ee_var (i := 1) rfl (Dt.le lb h1)) (ee_op op_add rr_add (ee_var (i := 0) rfl hx) ee_int))

/-! ### names -/
abbrev sName : Stmt := t_is_name
abbrev sScope : Stmt := t_is_scope
abbrev sLetOf : Stmt := t_letters_of
abbrev sLetters : Stmt := t_letters
abbrev sNode : Stmt := t_is_node
abbrev sWood : Stmt := t_is_wood
def keptS : List Str := ["again", "all", "apart", "bare", "below", "both", "closed", "either", "every", "finite", "first", "left", "not", "often", "one", "right", "road", "root", "same", "some", "sub", "thread"]
def keptD : List PyData := keptS.map .str
def Kept (K : PySem.W.Frag) (mg : Str → Option Value) : Prop := ∃ a, mg "KEPT" = some (.ref a) ∧ ∀ H, Dt K H (.ref a) (.tuple keptD)
def sgnB : PyData → Bool
  | .str s => !decide (s.cps.toList < ("a" : Str).cps.toList) && !decide (("z" : Str).cps.toList < s.cps.toList)
  | _ => false
def nameB : PyData → Bool
  | .str s => (decide (1 ≤ (s.length : Int)) && decide ((s.length : Int) ≤ 8)) && (!(keptD.any fun z => PyData.eqv z (.str s)) && (Tk.signs s).all sgnB)
  | _ => false
def nameF : List PyData → PyData
  | [d] => .bool (nameB d)
  | _ => .none
def nameP (ds : List PyData) : Prop := ∃ d, ds = [d] ∧ okD d = true
theorem scName : FnScope ["thing"] ["thing"] (defScope sName) := ⟨rfl, rfl, rfl, by decide +kernel, rfl, by decide +kernel, by decide +kernel⟩
theorem kept_shaped : SeqAt.shaped (.tuple keptD) = true := by decide +kernel
theorem kept_noDicts : noDicts keptD = true := by decide +kernel
/-! the text that is asked by isascii, isalpha, islower -/
theorem sgn_asc : ∀ c, c < 128 → (Unicode.isAlpha c && !(Unicode.isUpper c || Unicode.isTitle c)) = (decide (97 ≤ c) && decide (c ≤ 122)) := by decide +kernel
theorem low_asc : ∀ c, c < 128 → (decide (97 ≤ c) && decide (c ≤ 122)) = true → Unicode.isLower c = true := by decide +kernel
theorem sgn_cps (c : Nat) : (⟨#[c]⟩ : Str).cps.toList = [c] := rfl
theorem sgn_lt (a b : Nat) : decide (([a] : List Nat) < [b]) = decide (a < b) := by
  refine decide_eq_decide.mpr ⟨fun h => ?_, fun h => .rel h⟩
  cases h with
  | rel h => exact h
  | cons h => cases h
theorem sgn_one (c : Nat) : sgnB (.str ⟨#[c]⟩) = (decide (97 ≤ c) && decide (c ≤ 122)) := by
  show (!decide (([c] : List Nat) < [97]) && !decide (([122] : List Nat) < [c])) = _
  rw [sgn_lt, sgn_lt]
  by_cases h1 : c < 97 <;> by_cases h2 : 122 < c <;> simp [h1, h2] <;> omega
theorem ascii_signs {z : Str} (h : 1 ≤ z.length) : (PySem.Txt.isascii z && (PySem.Txt.isalpha z && PySem.Txt.islower z)) = (Tk.signs z).all sgnB := by
  have e : (Tk.signs z).all sgnB = z.cps.toList.all fun c => decide (97 ≤ c) && decide (c ≤ 122) := by
    unfold Tk.signs
    rw [List.all_map]
    exact congrArg (fun g => z.cps.toList.all g) (funext fun c => sgn_one c)
  have hl : 0 < z.cps.toList.length := by rw [Array.length_toList]; exact h
  rw [e, Bool.eq_iff_iff]
  unfold PySem.Txt.isascii PySem.Txt.isalpha PySem.Txt.islower
  rw [← Array.all_toList, ← Array.all_toList, ← Array.any_toList, ← Array.any_toList]
  simp only [Bool.and_eq_true, List.all_eq_true, decide_eq_true_eq, List.any_eq_true, Bool.not_eq_true', List.any_eq_false]
  constructor
  · rintro ⟨h1, ⟨_, h2⟩, _, h3⟩ c hc
    have := sgn_asc c (h1 c hc)
    have h3' : (Unicode.isUpper c || Unicode.isTitle c) = false := by
      cases q : (Unicode.isUpper c || Unicode.isTitle c) with
      | false => rfl
      | true => exact absurd q (h3 c hc)
    rw [h2 c hc, h3'] at this
    simpa using this.symm
  · intro hh
    have hc : ∀ c ∈ z.cps.toList, c < 128 ∧ Unicode.isAlpha c = true ∧ (Unicode.isUpper c || Unicode.isTitle c) = false ∧ Unicode.isLower c = true := fun c hc => by
      obtain ⟨a, b⟩ := hh c hc
      have k : (decide (97 ≤ c) && decide (c ≤ 122)) = true := by simp [a, b]
      have m := sgn_asc c (by omega)
      rw [k] at m
      obtain ⟨m1, m2⟩ := (Bool.and_eq_true _ _).mp m
      exact ⟨by omega, m1, by simpa using m2, low_asc c (by omega) k⟩
    refine ⟨fun c h => (hc c h).1, ⟨h, fun c h => (hc c h).2.1⟩, ?_, fun c h => by rw [(hc c h).2.2.1]; exact Bool.false_ne_true⟩
    obtain ⟨c, hcm⟩ := List.exists_mem_of_length_pos hl
    exact ⟨c, hcm, (hc c hcm).2.2.2⟩
section
variable {X : Cx} {e : Expr} {σ : L2.St} {H : Hp} {x : Str}
/-- a method without arguments that asks a text -/
theorem ee_ask {id : String} {name : Str} {g : Str → Bool} {apos cpos : Pos} (slot : Slot "str" name id) (hty : typeOf (.builtin id) = pure (.type "method_descriptor")) (hm : MtR X id (fun x xs H Q => ∃ a, x = .str a ∧ xs = [] ∧ True ∧ Q (.bl (g a)) H))
    (h : EE X e σ H (.str x)) (hbase : attributeBase e name X.env (eval e X.env) = eval e X.env := by rfl) (hline : (apos.endLine == cpos.line) = true := by rfl) : EE X (.Call (.Attribute e name apos) [] [] cpos) σ H (.bool (g x)) := fun H1 l Q q =>
  ⟨_, pe_m0 slot hty hm pe_w hbase hline, h H1 l _ fun v B2 H2 u dv => by
    cases dv
    exact ⟨⟨_, rfl⟩, _, rfl, rfl, trivial, q _ B2 H2 u (.bl _)⟩⟩
end
theorem ok_name (BL : Blt mg) (HK : Kept K mg) (F : L2.Fun K "is_name" "is_name" sName f fd) : FnOk P w K mg base CX0 2 f fd ["thing"] (spF K T 1 nameP nameF) := by
  refine fn_pure F scName rfl fun cdv A outer s H vs B ds Q E hr hcd t l hd hl hp q => ?_
  obtain ⟨d, rfl, hok⟩ := hp
  obtain ⟨v1, rfl, h1⟩ := ds1 hd
  obtain ⟨ka, hk1, hk2⟩ := HK
  cases hs : isStr d with
  | false =>
    refine wb_cons (ws_if (k := true) l (et_w (ew_or (p := true) (q := true) ((et_not (et_val (ee_isStr BL (ee_var (i := 0) rfl h1)))).cast (by rw [hs]; rfl)) fun e => by cases e)) (fun _ H' l' => ?_) fun e => by cases e)
    refine wb_one (ws_ret (d := .bool false) (l.trans l') ee_bl fun v B' H'' u dv => ?_)
    refine q v B' H'' ((Up.le l l').trans u) ?_
    have e : nameF [d] = .bool false := by cases d <;> first | rfl | cases hs
    rw [e]
    exact dv
  | true =>
    cases d with
    | str z =>
      have hz := okD_str hok
      refine wb_cons (ws_if (k := (!(decide (1 ≤ (z.length : Int)) && decide ((z.length : Int) ≤ 8))) || keptD.any fun y => PyData.eqv y (.str z)) l
        ((et_w (ew_or (et_not (et_val (ee_isStr BL (ee_var (i := 0) rfl h1)))) fun _ => ew_or (et_not (et_chain op_le op_le rr_le (fun _ => rr_le) ee_int (ee_len BL (ee_var (i := 0) rfl h1) rfl fun x e => by cases e; exact hz) fun _ => ee_int))
          fun _ => ew_one2 (et_cmp (o_inT (hu65 hr)) (rr_inT rfl kept_noDicts (flat_shaped rfl hok) kept_shaped) (ee_var (i := 0) rfl h1) (ee_globD (v := .ref ka) hk1 rfl hk2)))).cast rfl) (fun e H' l' => ?_) fun e H' l' => ?_)
      · refine wb_one (ws_ret (d := .bool false) (l.trans l') ee_bl fun v B' H'' u dv => ?_)
        refine q v B' H'' ((Up.le l l').trans u) ?_
        have e2 : nameF [.str z] = .bool false := by
          show PyData.bool ((decide (1 ≤ (z.length : Int)) && decide ((z.length : Int) ≤ 8)) && (!(keptD.any fun z_1 => PyData.eqv z_1 (.str z)) && (Tk.signs z).all sgnB)) = _
          cases h8 : (decide (1 ≤ (z.length : Int)) && decide ((z.length : Int) ≤ 8)) with
          | false => rfl
          | true =>
            rw [h8] at e
            have e' : (keptD.any fun y => PyData.eqv y (.str z)) = true := e
            rw [e']
            rfl
        rw [e2]
        exact dv
      · have e1 : (decide (1 ≤ (z.length : Int)) && decide ((z.length : Int) ≤ 8)) = true := by
          cases h8 : (decide (1 ≤ (z.length : Int)) && decide ((z.length : Int) ≤ 8)) with
          | false => rw [h8] at e; cases e
          | true => rfl
        have e2 : (keptD.any fun y => PyData.eqv y (.str z)) = false := by
          rw [e1] at e
          exact e
        refine wb_nil ?_
        refine wb_one (ws_ret (d := .bool ((Tk.signs z).all sgnB)) (l.trans l') ?_ fun v B' H'' u dv => q v B' H'' ((Up.le l l').trans u) ?_)
        · have h8 : 1 ≤ z.length := by
            have := ((Bool.and_eq_true _ _).mp e1).1
            have := of_decide_eq_true this
            omega
          rw [← ascii_signs h8]
          refine ee_and (ee_ask PySem.F.slot_str_isascii PySem.F.type_str_isascii mt_isascii (ee_var (i := 0) rfl h1)) fun _ => ?_
          refine ee_and (ee_ask PySem.F.slot_str_isalpha PySem.F.type_str_isalpha mt_isalpha (ee_var (i := 0) rfl h1)) fun _ => ?_
          exact ee_one (ee_ask PySem.F.slot_str_islower PySem.F.type_str_islower mt_islower (ee_var (i := 0) rfl h1))
        · have e3 : nameF [.str z] = .bool ((Tk.signs z).all sgnB) := by
            show PyData.bool ((decide (1 ≤ (z.length : Int)) && decide ((z.length : Int) ≤ 8)) && (!(keptD.any fun z_1 => PyData.eqv z_1 (.str z)) && (Tk.signs z).all sgnB)) = _
            rw [e1, e2]
            rfl
          rw [e3]
          exact dv
    | _ => cases hs

theorem mem_nums {xs : List PyData} {k : Nat} {d : PyData} (h : d ∈ nums k xs) : ∃ (i : Nat) (x : PyData), d = .tuple [.int (Int.ofNat i), x] ∧ x ∈ xs := by
  obtain ⟨i, hi⟩ := List.getElem?_of_mem h
  rw [nums_get] at hi
  cases q : xs[i]? with
  | none => rw [q] at hi; cases hi
  | some x =>
    rw [q] at hi
    exact ⟨k + i, x, (Option.some.inj hi).symm, List.mem_of_getElem? q⟩
/-! ### scopes, letters -/
def scopeB (d : PyData) : Bool := rowB d 0 3 && ((match d with | .tuple xs => xs.all nameB | _ => false) && match d with | .tuple xs => ascB xs | _ => false)
def scopeF : List PyData → PyData
  | [d] => .bool (scopeB d)
  | _ => .none
theorem scScope : FnScope ["thing"] ["thing"] (defScope sScope) := ⟨rfl, rfl, rfl, by decide +kernel, rfl, by decide +kernel, by decide +kernel⟩
theorem name_str {d : PyData} (h : nameB d = true) : isStr d = true := by cases d <;> first | rfl | cases h
theorem row_tup {d : PyData} {lo hi : Int} (h : rowB d lo hi = true) : ∃ xs, d = .tuple xs ∧ lo ≤ (xs.length : Int) ∧ (xs.length : Int) ≤ hi := by
  cases d with
  | tuple xs =>
    have h' := (Bool.and_eq_true _ _).mp h
    have h2 := (Bool.and_eq_true _ _).mp h'.2
    exact ⟨xs, rfl, of_decide_eq_true h2.1, of_decide_eq_true h2.2⟩
  | _ => cases h
theorem ok_scope (BL : Blt mg) (Frow : Kn P w K mg base 1 "is_row" ["thing", "least", "most"] (spF K T 3 rowP rowF)) (Fname : Kn P w K mg base 2 "is_name" ["thing"] (spF K T 1 nameP nameF)) (Fasc : Kn P w K mg base 2 "ascends" ["items"] (spF K T 1 ascP ascF))
    (F : L2.Fun K "is_scope" "is_scope" sScope f fd) (hc : fd.code = .ref c) (TB : TabB base mg c Pt) (hP : Pt ∈ T) : FnOk P w K mg base CX0 4 f fd ["thing"] (spF K T 1 nameP scopeF) := by
  refine fn_pure F scScope rfl fun cdv A outer s H vs B ds Q E hr hcd t l hd hl hp q => ?_
  obtain ⟨d, rfl, hok⟩ := hp
  obtain ⟨v1, rfl, h1⟩ := ds1 hd
  subst hcd
  refine wb_one (ws_ret (d := .bool (scopeB d)) l ?_ q)
  refine ee_and (p := rowB d 0 3) (ee_call Frow hr (by decide) t (ea_cons (ee_var (i := 0) rfl h1) (ea_cons ee_int (ea_cons ee_int ea_nil))) ⟨d, 0, 3, rfl⟩) fun e1 => ?_
  obtain ⟨xs, rfl, _, hn⟩ := row_tup e1
  have hoks := okD_tup hok
  refine ee_and (p := xs.all nameB) ?_ fun e2 => ?_
  · refine ee_all (k := 2) (N := ["name"]) (js := [none]) (tjs := [0]) (pat := patN) _ hr BL.all TB hc (scope_by (n := s.heap.objs.size + 1) rfl (show gsB ["thing"] ["name"] (defScope sScope) _ [none] = true by decide +kernel)) hP t
      (ei_tup (ee_var (i := 0) rfl h1)) (fun code A s H0 ex hr => eg_name (show List.Nodup (["name"] : List Str) by decide +kernel)) (by decide) (fun d hd => ⟨[d], rfl, rfl⟩) fun B' d es vs lb hd he hv code A s H0 ex hr => ?_
    cases he
    obtain ⟨x, rfl, hx⟩ := ds1 (K := K) hv
    exact ee_call Fname hr (Nat.le_refl _) (t.le lb) (ea_cons (ee_var (i := 0) rfl hx) ea_nil) ⟨d, rfl, okDs_mem hoks.2 hd⟩
  · refine ee_one ?_
    exact ee_call (f := ascF) Fasc hr (by decide) t (ea_cons (ee_var (i := 0) rfl h1) ea_nil) ⟨xs, rfl, hoks.1, .inl fun d hd => name_str (List.all_eq_true.mp e2 d hd)⟩

end
end K0


set_option Elab.async false
set_option linter.all false
set_option maxRecDepth 100000
set_option maxHeartbeats 1000000
/-! Tk5: the same where cells at D change: J m, m more steps are allowed. -/
namespace Tk
open PySem PySem.Spec PyProof.Rows L2 GxR Gx
variable [LamTab]

/-- all but the cells at D stays -/
structure LeX (D : List Addr) (H H' : Hp) : Prop where
  keep : ∀ a o, a ∉ D → H a = some o → (∀ ps, o = .tbl ps → LamTab.is a) → H' a = some o
  tab : ∀ P, TabG H P → TabG H' P
  there : ∀ a, H' a = none → H a = none
theorem LeX.of {D : List Addr} {H H' : Hp} (l : Le H H') : LeX D H H' := ⟨fun a o _ h n => l.keep a o h n, l.tab, l.there⟩
theorem LeX.trans {D : List Addr} {H H1 H2 : Hp} (a : LeX D H H1) (b : LeX D H1 H2) : LeX D H H2 :=
  ⟨fun x o d h n => b.keep x o d (a.keep x o d h n) n, fun P h => b.tab P (a.tab P h), fun x h => a.there x (b.there x h)⟩
/-- what is held of the changing cells -/
structure Cells (D : List Addr) (J : Nat → Hp → Prop) : Prop where
  at_ : ∀ n H, J n H → ∀ a ∈ D, ∃ o, H a = some o ∧ ∀ ps, o ≠ .tbl ps
  le : ∀ n H H', J n H → Le H H' → J n H'
  less : ∀ n m H, J n H → m ≤ n → J m H
/-- B leans on no changing cell -/
def Apt (D : List Addr) (B : Hp) : Prop := ∀ a ∈ D, B a = none
structure UpX (D : List Addr) (B H B2 H2 : Hp) : Prop where
  h : LeX D H H2
  b : Le B B2
  s : Le B2 H2
  n : ∀ a, B2 a ≠ none → B a ≠ none ∨ H a = none ∨ ((∃ ps, H a = some (.tbl ps)) ∧ ¬ LamTab.is a)
section
variable {D : List Addr} {J : Nat → Hp → Prop} {B H B1 H1 B2 H2 : Hp}
theorem UpX.of (u : Up B H B2 H2) : UpX D B H B2 H2 := ⟨.of u.h, u.b, u.s, u.n⟩
theorem UpX.refl (l : Le B H) : UpX D B H B H := .of (Up.refl l)
theorem UpX.trans (C : Cells D J) {m : Nat} (j : J m H1) (a : UpX D B H B1 H1) (b : UpX D B1 H1 B2 H2) : UpX D B H B2 H2 :=
  ⟨a.h.trans b.h, a.b.trans b.b, b.s, fun x h => by
    rcases b.n x h with z | z | ⟨⟨ps, z⟩, ny⟩
    · exact a.n x z
    · exact .inr (.inl (a.h.there x z))
    · by_cases hx : x ∈ D
      · obtain ⟨o, e, n⟩ := C.at_ m H1 j x hx
        rw [e] at z
        exact absurd (Option.some.inj z) (n ps)
      · refine .inr ?_
        cases q : H x with
        | none => exact .inl rfl
        | some o =>
          refine .inr ?_
          by_cases y : ∃ qs, o = .tbl qs
          · obtain ⟨qs, rfl⟩ := y
            exact ⟨⟨qs, rfl⟩, ny⟩
          · have e := a.h.keep x o hx q fun qs e => (y ⟨qs, e⟩).elim
            rw [z] at e
            exact absurd ⟨ps, (Option.some.inj e).symm⟩ y⟩
theorem UpX.apt (C : Cells D J) {m : Nat} (j : J m H) (p : Apt D B) (u : UpX D B H B2 H2) : Apt D B2 := fun a ha => by
  cases q : B2 a with
  | none => rfl
  | some o =>
    obtain ⟨o', e, n⟩ := C.at_ m H j a ha
    rcases u.n a (by rw [q]; simp) with z | z | ⟨⟨ps, z⟩, _⟩
    · exact absurd (p a ha) z
    · rw [e] at z; cases z
    · rw [e] at z; exact absurd (Option.some.inj z) (n ps)
theorem UpX.new (u : UpX D B H B1 H1) {p : Addr} {o : HO} (hp : H1 p = none) (ho : ∀ ps, o ≠ .tbl ps) : UpX D B H (upd B1 p o) (upd H1 p o) := by
  have w := (Up.refl u.s).new hp ho
  refine ⟨u.h.trans (.of w.h), u.b.trans w.b, w.s, fun a q => ?_⟩
  by_cases z : a = p
  · rw [z]
    exact .inr (.inl (u.h.there p hp))
  · rw [upd_ne z] at q
    exact u.n a q
end

section
variable (X : Cx) (D : List Addr) (J : Nat → Hp → Prop)
/-- within n steps it is worth some d of which R d -/
def EJ (e : Expr) (σ : L2.St) (B : Hp) (n : Nat) (R : PyData → Prop) : Prop := ∀ m H1, Le B H1 → Apt D B → J (m + n) H1 → ∀ Q : VK, (∀ v d B2 H2, UpX D B H1 B2 H2 → J m H2 → Dt X.K B2 v d → R d → Q v H2) → WE X e σ H1 Q
def EAJ (es : List Expr) (σ : L2.St) (B : Hp) (n : Nat) (R : List PyData → Prop) : Prop := ∀ m H1, Le B H1 → Apt D B → J (m + n) H1 → ∀ Q : List V → Hp → Prop, (∀ vs ds B2 H2, UpX D B H1 B2 H2 → J m H2 → Ds X.K B2 vs ds → R ds → Q vs H2) → WA X es σ H1 Q
def ETJ (e : Expr) (σ : L2.St) (B : Hp) (n : Nat) (R : Bool → Prop) : Prop := ∀ m H1, Le B H1 → Apt D B → J (m + n) H1 → ∀ Q : Bool → Hp → Prop, (∀ b H2, LeX D H1 H2 → Le B H2 → J m H2 → R b → Q b H2) → WT X e σ H1 Q
end
section
variable {X : Cx} {D : List Addr} {J : Nat → Hp → Prop} {e a b : Expr} {es : List Expr} {σ : L2.St} {B B' : Hp} {n n1 n2 : Nat} {R Ra Rb : PyData → Prop} {RA : List PyData → Prop}
theorem EJ.mono (h : EJ X D J e σ B n R) (l : Le B B') : EJ X D J e σ B' n R := fun m H1 e1 ap j Q q => h m H1 (l.trans e1) (fun x hx => l.there x (ap x hx)) j Q fun v d B2 H2 u jj dv r => by
  -- leaning on more
  have l2 : Le B' (fun x => if B' x = none ∧ B2 x = none then none else H2 x) := by
    refine ⟨fun x o qx nx => ?_, fun P t => ?_, fun x qx => ?_⟩
    · show (if B' x = none ∧ B2 x = none then none else H2 x) = some o
      rw [if_neg fun z => by rw [z.1] at qx; cases qx]
      refine u.h.keep x o (fun hx => ?_) (e1.keep x o qx nx) nx
      rw [ap x hx] at qx
      cases qx
    · obtain ⟨ps, q1, r1⟩ := t
      obtain ⟨ps', q2, r2⟩ := u.h.tab P (e1.tab P ⟨ps, q1, r1⟩)
      refine ⟨ps', ?_, r2⟩
      show (if B' P = none ∧ B2 P = none then none else H2 P) = _
      rw [if_neg fun z => by rw [z.1] at q1; cases q1]
      exact q2
    · have q' : (if B' x = none ∧ B2 x = none then none else H2 x) = none := qx
      by_cases z : B' x = none ∧ B2 x = none
      · exact z.1
      · rw [if_neg z] at q'
        exact e1.there x (u.h.there x q')
  have l3 : Le B2 (fun x => if B' x = none ∧ B2 x = none then none else H2 x) := by
    refine ⟨fun x o qx nx => ?_, fun P t => ?_, fun x qx => ?_⟩
    · show (if B' x = none ∧ B2 x = none then none else H2 x) = some o
      rw [if_neg fun z => by rw [z.2] at qx; cases qx]
      exact u.s.keep x o qx nx
    · obtain ⟨ps, q1, r1⟩ := t
      obtain ⟨ps', q2, r2⟩ := u.s.tab P ⟨ps, q1, r1⟩
      refine ⟨ps', ?_, r2⟩
      show (if B' P = none ∧ B2 P = none then none else H2 P) = _
      rw [if_neg fun z => by rw [z.2] at q1; cases q1]
      exact q2
    · have q' : (if B' x = none ∧ B2 x = none then none else H2 x) = none := qx
      by_cases z : B' x = none ∧ B2 x = none
      · exact z.2
      · rw [if_neg z] at q'
        exact u.s.there x q'
  have l4 : Le (fun x => if B' x = none ∧ B2 x = none then none else H2 x) H2 := by
    refine ⟨fun x o qx nx => ?_, fun P t => ?_, fun x qx => ?_⟩
    · have q' : (if B' x = none ∧ B2 x = none then none else H2 x) = some o := qx
      by_cases z : B' x = none ∧ B2 x = none
      · rw [if_pos z] at q'; cases q'
      · rw [if_neg z] at q'; exact q'
    · obtain ⟨ps, q1, r1⟩ := t
      have q' : (if B' P = none ∧ B2 P = none then none else H2 P) = _ := q1
      by_cases z : B' P = none ∧ B2 P = none
      · rw [if_pos z] at q'; cases q'
      · rw [if_neg z] at q'; exact ⟨ps, q', r1⟩
    · show (if B' x = none ∧ B2 x = none then none else H2 x) = none
      rw [qx]
      exact ite_self _
  refine q v d _ H2 ⟨u.h, l2, l4, fun x qx => ?_⟩ jj (Dt.le l3 dv) r
  have q' : (if B' x = none ∧ B2 x = none then none else H2 x) ≠ none := qx
  by_cases z : B' x = none
  · by_cases z2 : B2 x = none
    · rw [if_pos ⟨z, z2⟩] at q'
      exact absurd rfl q'
    · rcases u.n x z2 with y | y
      · exact absurd (l.there x z) y
      · exact .inr y
  · exact .inl z
/-- what changes nothing -/
theorem ej_pure (C : Cells D J) {d : PyData} (h : EE X e σ B d) (r : R d) : EJ X D J e σ B 0 R := fun m H1 l ap j Q q => h H1 l Q fun v B2 H2 u dv => q v d B2 H2 (.of u) (C.le _ _ _ j u.h) dv r
theorem EJ.weak (C : Cells D J) (h : EJ X D J e σ B n R) (k : ∀ d, R d → Ra d) (hn : n ≤ n1) : EJ X D J e σ B n1 Ra := fun m H1 l ap j Q q =>
  h (m + (n1 - n)) H1 l ap (by rw [show m + (n1 - n) + n = m + n1 by omega]; exact j) Q fun v d B2 H2 u jj dv r => q v d B2 H2 u (C.less _ _ _ jj (by omega)) dv (k d r)
theorem eaj_nil : EAJ X D J [] σ B 0 (· = []) := fun m H1 l ap j Q k => ⟨_, pa_nil, k [] [] B H1 (.refl l) j .nil rfl⟩
theorem eaj_cons (C : Cells D J) (ha : EJ X D J e σ B n1 R) (hb : ∀ B', Le B B' → EAJ X D J es σ B' n2 RA) (hs : starEach (e :: es) X.env = (false, eval e X.env) :: starEach es X.env := by rfl) :
    EAJ X D J (e :: es) σ B (n1 + n2) (fun ds => ∃ d r, ds = d :: r ∧ R d ∧ RA r) := fun m H1 l ap j Q k =>
  ⟨_, pa_cons pe_w pa_w hs, ha (m + n2) H1 l ap (by rw [show m + n2 + n1 = m + (n1 + n2) by omega]; exact j) _ fun v d B2 H2 u2 j2 dv r => hb B2 u2.b m H2 u2.s (u2.apt C j ap) j2 _ fun vs ds B3 H3 u3 j3 dvs rs =>
    k _ _ B3 H3 (u2.trans C j2 u3) j3 (.cons (Dt.le u3.b dv) dvs) ⟨d, ds, rfl, r, rs⟩⟩
theorem ej_tup {pos : Pos} {k : Nat} (C : Cells D J) (ha : EAJ X D J es σ B n RA) (hl : ∀ ds, RA ds → ds.length ≤ sizeLine) : EJ X D J (.Tuple es k pos) σ B n (fun d => ∃ ds, d = .tuple ds ∧ RA ds) := fun m H1 l ap j Q q =>
  ⟨_, pe_tup pa_w, ha m H1 l ap j _ fun vs ds B2 H2 u2 j2 dv r => ⟨by rw [dv.length]; exact hl ds r, fun p hp => q _ _ _ _ (u2.new hp fun ps z => by cases z) (C.le _ _ _ j2 (Le.new hp)) (.new_tup upd_same (Ds.le (Le.new (u2.s.there p hp)) dv)) ⟨ds, rfl, r⟩⟩⟩
/-- two operands, the left one first -/
def RJ (K : PySem.W.Frag) (r : R2) (B : Hp) (Ra Rb R3 : PyData → Prop) : Prop := ∀ B1 H1, Le B B1 → Le B1 H1 → ∀ x y d1 d2, Dt K B1 x d1 → Dt K B1 y d2 → Ra d1 → Rb d2 → ∀ Q : VK, (∀ v d B2 H2, Up B1 H1 B2 H2 → Dt K B2 v d → R3 d → Q v H2) → r x y H1 Q
theorem twoJ {r : R2} {R3 : PyData → Prop} (C : Cells D J) (hr : RJ X.K r B Ra Rb R3) (ha : EJ X D J a σ B n1 Ra) (hb : EJ X D J b σ B n2 Rb) {m : Nat} {H1 : Hp} (l : Le B H1) (ap : Apt D B) (j : J (m + (n1 + n2)) H1) {Q : VK}
    (q : ∀ v d B2 H2, UpX D B H1 B2 H2 → J m H2 → Dt X.K B2 v d → R3 d → Q v H2) : tOp r (WE X a) (WE X b) σ H1 Q :=
  ha (m + n2) H1 l ap (by rw [show m + n2 + n1 = m + (n1 + n2) by omega]; exact j) _ fun x d1 B2 H2 u2 j2 dx r1 => hb.mono u2.b m H2 u2.s (u2.apt C j ap) j2 _ fun y d2 B3 H3 u3 j3 dy r2 =>
    hr B3 H3 (u2.b.trans u3.b) u3.s x y d1 d2 (Dt.le u3.b dx) dy r1 r2 Q fun v d B4 H4 u4 dv r3 => q v d B4 H4 ((u2.trans C j2 u3).trans C j3 (.of u4)) (C.le _ _ _ j3 u4.h) dv r3
theorem ej_op {op : Operator} {r : R2} {pos : Pos} {R3 : PyData → Prop} (C : Cells D J) (o : OpR X (binaryOp op) r) (hr : RJ X.K r B Ra Rb R3) (ha : EJ X D J a σ B n1 Ra) (hb : EJ X D J b σ B n2 Rb) : EJ X D J (.BinOp a op b pos) σ B (n1 + n2) R3 := fun m H1 l ap j Q q =>
  ⟨_, pe_op o pe_w pe_w, twoJ C hr ha hb l ap j q⟩
theorem ej_ix {r : R2} {pos : Pos} {R3 : PyData → Prop} (C : Cells D J) (o : IxR X r) (hr : RJ X.K r B Ra Rb R3) (ha : EJ X D J a σ B n1 Ra) (hb : EJ X D J b σ B n2 Rb) (hp : PlainIx b := by intro _ _; rfl) : EJ X D J (.Subscript a b pos) σ B (n1 + n2) R3 := fun m H1 l ap j Q q =>
  ⟨_, pe_ix o pe_w pe_w hp, twoJ C hr ha hb l ap j q⟩
theorem etj_cmp {op : CmpOp} {r : R2} {pos : Pos} {RB : Bool → Prop} (C : Cells D J) (o : OpR X (compareOp op) r) (hr : RJ X.K r B Ra Rb (fun d => ∃ b, d = .bool b ∧ RB b)) (ha : EJ X D J a σ B n1 Ra) (hb : EJ X D J b σ B n2 Rb) (hm : behindInMarks op b = false := by rfl) : ETJ X D J (.Compare a [op] [b] pos) σ B (n1 + n2) RB := fun m H1 l ap j Q q =>
  ⟨_, pt_cmpR o pe_w pe_w hm, twoJ C hr ha hb l ap j fun v d B2 H2 u jj dv r => by
    obtain ⟨k, rfl, rk⟩ := r
    cases dv
    exact ⟨k, rfl, q k H2 u.h (u.b.trans u.s) jj rk⟩⟩
theorem rj_of {K : PySem.W.Frag} {r : R2} {R3 : PyData → Prop} (h : ∀ d1 d2, Ra d1 → Rb d2 → ∃ d3, RR K r B d1 d2 d3 ∧ R3 d3) : RJ K r B Ra Rb R3 := fun B1 H1 l l1 x y d1 d2 hx hy r1 r2 Q q => by
  obtain ⟨d3, hr, r3⟩ := h d1 d2 r1 r2
  exact hr B1 H1 l l1 x y hx hy Q fun v B2 H2 u dv => q v d3 B2 H2 u dv r3

/-! ### statements -/
variable {Dn : L2.Ends} {H : Hp} {m : Nat}
theorem ws_retJ {pos : Pos} (l : Le B H) (ap : Apt D B) (j : J (m + n) H) (h : EJ X D J e σ B n R) (q : ∀ v d B' H', UpX D B H B' H' → J m H' → Dt X.K B' v d → R d → Dn.rt v H') : WS X (.Return (some e) pos) Dn σ H := ⟨_, ps_ret pe_w, h m H l ap j _ q⟩
theorem ws_setJ {pos pos' : Pos} {i : Nat} {x : Str} (l : Le B H) (ap : Apt D B) (j : J (m + n) H) (h : EJ X D J e σ B n R) (q : ∀ v d B' H', UpX D B H B' H' → J m H' → Dt X.K B' v d → R d → Dn.nx (σ.set i (some v)) H') (nd : X.N.Nodup) (hN : X.N[i]? = some x := by rfl) (hx : L2.Loc X.env.scope x := by first | exact Or.inl rfl | exact Or.inr rfl)
    (hs : swapsWith e (some (.Name x pos')) pos.line X.env = pure false := by rfl) (hf : X.fn x = true ∨ X.env.scope.names.lookup x = some .local := by first | exact Or.inl rfl | exact Or.inr rfl) : WS X (.Assign [.Name x pos'] e pos) Dn σ H :=
  ⟨_, ps_set nd hN hx pe_w hs hf, h m H l ap j _ q⟩
theorem ws_ifJ {pos : Pos} {c : Expr} {sa sb : List Stmt} {RB : Bool → Prop} (l : Le B H) (ap : Apt D B) (j : J (m + n) H) (h : ETJ X D J c σ B n RB) (q : ∀ k H', LeX D H H' → Le B H' → J m H' → RB k → WB X (if k then sa else sb) Dn σ H') : WS X (.If c sa sb pos) Dn σ H :=
  ⟨_, ps_if pt_w pss_w pss_w, h m H l ap j _ fun k H' l1 l2 j2 r => by
    have g := q k H' l1 l2 j2 r
    cases k with
    | true =>
      show (if true = true then WB X sa Dn σ H' else _)
      rw [if_pos rfl]
      exact g
    | false =>
      show (if false = true then _ else WB X sb Dn σ H')
      rw [if_neg Bool.false_ne_true]
      exact g⟩
end

/-! ### defs: the first argument is the thing that changes -/
def spJ (K : PySem.W.Frag) (T : List Addr) (D : List Addr) (J : Nat → Hp → Prop) (dr : V) (k n : Nat) (pre : List PyData → Prop) (R : List PyData → PyData → Prop) : Sp := fun vs H Q _ => ∃ ws B ds m, vs = dr :: ws ∧ ws.length = k ∧ Tbs T H ∧ Le B H ∧ Apt D B ∧ J (m + n) H ∧ Ds K B ws ds ∧ pre ds ∧
  ∀ v d B' H', UpX D B H B' H' → J m H' → Dt K B' v d → R ds d → Q v H'
section
variable {X : Cx} {D : List Addr} {J : Nat → Hp → Prop} {a : Expr} {es : List Expr} {σ : L2.St} {B : Hp} {n1 n : Nat} {T : List Addr} {k lv : Nat} {pre : List PyData → Prop} {R : List PyData → PyData → Prop} {RA : List PyData → Prop} {x y : Str} {ps : List Str} {dr : V}
theorem ej_call {P : Program} {w : World} {K : PySem.W.Frag} {mg : Str → Option Value} {base : Heap} {p p2 pos : Pos} {j i : Nat} (C : Cells D J) (F : Kn P w K mg base lv x ps (spJ K T D J dr k n pre R)) (hr : Room j X.A) (hk : lv ≤ j) (t : Tbs T B) (hσ : σ[i]? = some (some dr))
    (ha : EAJ X D J es σ B n1 RA) (hp : ∀ ds, RA ds → pre ds ∧ ds.length = k) (eP : X.prog = P := by rfl) (ew : X.w = w := by rfl) (eK : X.K = K := by rfl) (em : X.mg = mg := by rfl) (eb : X.base = base := by rfl) (hg : Gl X x := by rfl)
    (hN : X.N[i]? = some y := by rfl) (hv : Vis X.env.scope y := by first | exact Or.inl rfl | exact Or.inr (Or.inl rfl) | exact Or.inr (Or.inr rfl)) (hdy : (y == ("__debug__" : Str)) = false := by decide) (hcy : (y == ("__classdict__" : Str)) = false := by decide)
    (hdb : (x == ("__debug__" : Str)) = false := by decide) (he : starEach (.Name y p2 :: es) X.env = (false, eval (.Name y p2) X.env) :: starEach es X.env := by rfl) (hpl : (backTo pos (starEach es X.env)).any (·.1) = false := by rfl) :
    EJ X D J (.Call (.Name x p) (.Name y p2 :: es) [] pos) σ B (n1 + n) (fun d => ∃ ds, RA ds ∧ R ds d) := fun m H1 l ap jj Q q => by
  subst eP ew eK em eb
  obtain ⟨fa, fd, m1, m2, G, bi⟩ := F.ex
  refine ⟨_, pe_call (E := L2.E0) G (hr.mono hk) hg m1 m2 bi .nil pass0 (pa_cons (pe_var hN hv hdy hcy) pa_w he) hdb he hpl, dr, hσ, ha (m + n) H1 l ap (by rw [show m + n + n1 = m + (n1 + n) by omega]; exact jj) _ fun vs ds B2 H2 u2 j2 dv r => ?_⟩
  simp only [List.append_nil]
  obtain ⟨h1, h2⟩ := hp ds r
  have t2 : Tbs T H2 := fun P hP => ⟨u2.h.tab P ((t.le l) P hP).1, ((t.le l) P hP).2⟩
  exact ⟨vs, B2, ds, m, rfl, by rw [dv.length, h2], t2, u2.s, u2.apt C jj ap, j2, dv, h1, fun v d B3 H3 u3 j3 d3 r3 => q v d B3 H3 (u2.trans C j2 u3) j3 d3 ⟨ds, r, r3⟩⟩
end
theorem fn_draw {P : Program} {w : World} {K : PySem.W.Frag} {mg : Str → Option Value} {base : Heap} {x qual : Str} {st : Stmt} {fa : Addr} {fd : FuncData} {N ps : List Str} {lv k n : Nat} {T D : List Addr} {J : Nat → Hp → Prop} {dr : V} {pre : List PyData → Prop} {R : List PyData → PyData → Prop}
    (hTD : ∀ a ∈ D, a ∉ T) (F : L2.Fun K x qual st fa fd) (S : FnScope N ps (defScope st)) (hn : k + 1 = ps.length)
    (hbody : ∀ (cdv : Value) (A : Around) (outer : List Env) (s : Shared) (H : Hp) (ws : List V) (B : Hp) (ds : List PyData) (m : Nat) (Q : VK) (E : XK), Room lv (A.deeper (envOfC qual (defScope st) s.heap.objs.size fa cdv)) → fd.code = cdv → Tbs T B → Le B H → Apt D B → J (m + n) H → Ds K B ws ds → ws.length = k → pre ds →
      (∀ v d B' H', UpX D B H B' H' → J m H' → Dt K B' v d → R ds d → Q v H') → WB (cxOf CX0 P w K mg base N qual (defScope st) fa cdv A outer s H E).nox (defBody st) { nx := fun _ H' => Q .non H', rt := Q } (start N (dr :: ws)) H) :
    FnOk P w K mg base CX0 (lv + 1) fa fd ps (spJ K T D J dr k n pre R) := by
  obtain ⟨oc, od, kV, doc, pm, an, cdv, ct, osl, rfl, lk, hcd⟩ := F.ex
  refine fn_of lk hcd S (fun vs H Q E h => ?_) fun A outer s H vs Q E hr h => ?_
  · obtain ⟨ws, B, ds, m, rfl, h1, _⟩ := h
    rw [List.length_cons, h1, hn]
  obtain ⟨ws, B, ds, m, rfl, h1, h2, l, ap, j, h3, h4, h5⟩ := h
  have l1 : Le B (fun a => if B a = none ∧ a ∉ T then none else H a) := by
    refine ⟨fun a o q nn => ?_, fun P' tg => ?_, fun a q => ?_⟩
    · show (if B a = none ∧ a ∉ T then none else H a) = some o
      rw [if_neg fun z => by rw [z.1] at q; cases q]
      exact l.keep a o q nn
    · obtain ⟨ps', q, r⟩ := tg
      obtain ⟨ps2, q', r'⟩ := l.tab P' ⟨ps', q, r⟩
      refine ⟨ps2, ?_, r'⟩
      show (if B P' = none ∧ P' ∉ T then none else H P') = _
      rw [if_neg fun z => by rw [z.1] at q; cases q]
      exact q'
    · have q' : (if B a = none ∧ a ∉ T then none else H a) = none := q
      by_cases z : B a = none ∧ a ∉ T
      · exact z.1
      · rw [if_neg z] at q'
        exact l.there a q'
  have l2 : Le (fun a => if B a = none ∧ a ∉ T then none else H a) H := by
    refine ⟨fun a o q nn => ?_, fun P' tg => ?_, fun a q => ?_⟩
    · have q' : (if B a = none ∧ a ∉ T then none else H a) = some o := q
      by_cases z : B a = none ∧ a ∉ T
      · rw [if_pos z] at q'; cases q'
      · rw [if_neg z] at q'; exact q'
    · obtain ⟨ps', q, r⟩ := tg
      have q' : (if B P' = none ∧ P' ∉ T then none else H P') = _ := q
      by_cases z : B P' = none ∧ P' ∉ T
      · rw [if_pos z] at q'; cases q'
      · rw [if_neg z] at q'; exact ⟨ps', q', r⟩
    · show (if B a = none ∧ a ∉ T then none else H a) = none
      rw [q]
      exact ite_self _
  have tB : Tbs T (fun a => if B a = none ∧ a ∉ T then none else H a) := fun P' hP => by
    obtain ⟨⟨ps', q, r⟩, ns⟩ := h2 P' hP
    refine ⟨⟨ps', ?_, r⟩, ns⟩
    show (if B P' = none ∧ P' ∉ T then none else H P') = _
    rw [if_neg fun z => z.2 hP]
    exact q
  have aB : Apt D (fun a => if B a = none ∧ a ∉ T then none else H a) := fun a ha => if_pos ⟨ap a ha, hTD a ha⟩
  obtain ⟨t, t1, t2⟩ := hbody cdv A outer s H ws _ ds m Q E hr rfl tB l2 aB j (Ds.le l1 h3) h1 h4 fun v d B2 H2 u jj dv r => h5 v d B2 H2 ⟨u.h, l1.trans u.b, u.s, fun a h => by
    rcases u.n a h with z | z | z
    · have z' : (if B a = none ∧ a ∉ T then none else H a) ≠ none := z
      by_cases y : B a = none
      · by_cases x : a ∈ T
        · obtain ⟨⟨ps', q, _⟩, ns⟩ := h2 a x
          exact .inr (.inr ⟨⟨ps', q⟩, ns⟩)
        · rw [if_pos ⟨y, x⟩] at z'
          exact absurd rfl z'
      · exact .inl y
    · exact .inr (.inl z)
    · exact .inr (.inr z)⟩ jj dv r
  exact ⟨t, t1.nox, t2⟩
end Tk


set_option Elab.async false
set_option linter.all false
set_option maxRecDepth 100000
set_option maxHeartbeats 1000000
/-! Tk6: for, sums of lists and of tuples, list(..), parts of tuples. -/
namespace Tk
open PySem PySem.Spec PyProof.Rows L2 GxR Gx
variable [LamTab]
section
variable {X : Cx} {tg iter : Expr} {body : List Stmt} {σ : L2.St} {B H : Hp} {ds : List PyData} {D : L2.Ends} {tjs : List Nat} {pat : PyData → Option (List PyData)}
theorem ws_for {pos : Pos} (l : Le B H) (hi : EI X tg iter σ B ds) (hg : EG X tg tjs pat) (hpat : ∀ d ∈ ds, ∃ es, pat d = some es) (hp : PassesOwn (model X.prog X.w) X.A X.env X.xe) (hc : X.calm = true)
    (Inv : Nat → L2.St → Hp → Hp → Prop) (h0 : ∀ B' H', Up B H B' H' → Inv 0 σ B' H')
    (hs : ∀ i d es vs σ' B' H' B'' H'', i < ds.length → ds[i]? = some d → Le B B' → Inv i σ' B' H' → Up B' H' B'' H'' → pat d = some es → Ds X.K B'' vs es →
      ∀ N : L2.St → Hp → Prop, (∀ σ2 B3 H2, Le B'' B3 → Le B3 H2 → Inv (i + 1) σ2 B3 H2 → N σ2 H2) → WB X body { D with nx := N, ct := N, bk := D.nx } (setsS σ' tjs vs) H'')
    (hd : ∀ σ' B' H', Le B B' → Le B' H' → Inv ds.length σ' B' H' → D.nx σ' H')
    (hf : ∀ x, foldedSetIterable iter X.env x = pure x := by intro _; rfl) : WS X (.For tg iter body [] pos) D σ H := by
  refine ⟨_, ps_for hp hc pi_w pg_w pss_w hf, hi H l _ fun J B2 H2 u2 wk => ?_⟩
  refine ⟨fun i m σ' H' => m = ds.length - i ∧ i ≤ ds.length ∧ ∃ B', Le B2 B' ∧ Le B' H' ∧ Inv i σ' B' H', ⟨ds.length, rfl, Nat.zero_le _, B2, Le.refl _, u2.s, h0 B2 H2 u2⟩, ?_⟩
  rintro i m σ' H' ⟨rfl, hi', B', lb, ls, hI⟩
  obtain ⟨w1, w2, w3⟩ := wk B' H' lb ls
  by_cases hlt : i < ds.length
  · refine .inr ⟨w1 i hlt, fun σ2 H2 => ∃ B3, Le B2 B3 ∧ Le B3 H2 ∧ Inv (i + 1) σ2 B3 H2, fun σ2 H2 h => ⟨ds.length - (i + 1), by omega, rfl, hlt, h⟩, fun x H4 hy => ?_⟩
    obtain ⟨B4, d, u4, hd', dx⟩ := w3 i x H4 hlt hy
    obtain ⟨es, hes⟩ := hpat d (List.mem_of_getElem? hd')
    refine hg x d es σ' B4 H4 u4.s dx hes _ fun vs dvs => ?_
    exact hs i d es vs σ' B' H' B4 H4 hlt hd' (u2.b.trans lb) hI u4 hes dvs _ fun σ2 B3 H2 a b c => ⟨B3, (lb.trans u4.b).trans a, b, c⟩
  · have ei : i = ds.length := by omega
    subst ei
    exact .inl ⟨w2, hd σ' B' H' (u2.b.trans lb) ls hI⟩
end
section
variable {X : Cx}
def rCatL (K : PySem.W.Frag) : R2 := fun x y H Q => ∃ l b xs zs, x = .ref l ∧ y = .ref b ∧ SqL K H l xs ∧ SqL K H b zs ∧ xs.length + zs.length ≤ sizeLine ∧ ∀ p, H p = none → Q (.ref p) (upd H p (.lst (xs ++ zs)))
theorem op_catL : OpR X (binaryOp .Add) (rCatL X.K) := by
  intro pins s σ H x y v u Q I rx ry h
  obtain ⟨l, b, xs, zs, rfl, rfl, hH, hB, hz, q⟩ := h
  cases rx
  cases ry
  obtain ⟨its, r, hl, _⟩ := I.list hH
  obtain ⟨its2, r2, hb, _⟩ := I.list hB
  obtain ⟨⟨cls, dd, data, sl⟩, ho, hc, n, hd⟩ := id hl.isList
  obtain ⟨⟨cls2, dd2, data2, sl2⟩, ho2, hc2, n2, hd2⟩ := id hb.isList
  simp only at hc hd hc2 hd2
  subst hc hd hc2 hd2
  have e1 := r.length
  have e2 := r2.length
  have e : its.toArray ++ its2.toArray = (its ++ its2).toArray := by simp
  refine concat_meets ⟨_, ho, rfl⟩ ⟨_, ho2, rfl⟩ noFill_list_add seq_list_add PySem.F.slot_list_add PySem.F.entry_list_add (PySem.F.args_list_add_2 _ _) (list_addW l b its.toArray its2.toArray n n2 dd dd2 sl sl2 (by rw [List.size_toArray, List.size_toArray]; omega)) ⟨ho, ho2, ?_⟩
  rw [e]
  exact ⟨.ref _, _, I.lnew (t' := s.toks) (r.append r2) (by rw [List.length_append]; omega), rfl, q _ I.fresh⟩
variable {K : PySem.W.Frag} {H : Hp} {xs ys : List PyData}
theorem rr_catL (h : xs.length + ys.length ≤ sizeLine) : RR K (rCatL K) H (.list xs) (.list ys) (.list (xs ++ ys)) := fun B H1 l l1 x y hx hy Q q => by
  cases hx with
  | lst s1 t1 h1 =>
    cases hy with
    | lst s2 t2 h2 => exact ⟨_, _, _, _, rfl, rfl, sqL_le l1 s1, sqL_le l1 s2, by rw [h1.length, h2.length]; exact h, fun p hp => q _ _ _ ((Up.refl l1).new hp fun ps z => by cases z) (.new_lst upd_same ((Ds.le (Le.new (l1.there p hp)) h1).append (Ds.le (Le.new (l1.there p hp)) h2)))⟩
theorem rr_catT (h : xs.length + ys.length ≤ sizeLine) : RR K (rCatA K) H (.tuple xs) (.tuple ys) (.tuple (xs ++ ys)) := fun B H1 l l1 x y hx hy Q q => by
  cases hx with
  | tup s1 t1 h1 =>
    cases hy with
    | tup s2 t2 h2 =>
      refine ⟨_, _, _, _, rfl, rfl, sqT_le l1 s1, sqT_le l1 s2, by rw [h1.length, h2.length]; exact h, fun e => ?_, fun _ e => ?_, fun _ _ p hp => q _ _ _ ((Up.refl l1).new hp fun ps z => by cases z) (.new_tup upd_same ((Ds.le (Le.new (l1.there p hp)) h1).append (Ds.le (Le.new (l1.there p hp)) h2)))⟩
      · subst e
        cases h1
        exact q _ B H1 (Up.refl l1) (.tup s2 t2 h2)
      · subst e
        cases h2
        rw [List.append_nil] at q
        exact q _ B H1 (Up.refl l1) (.tup s1 t1 h1)
def rListD (K : PySem.W.Frag) : List V → Hp → VK → Prop := fun xs H Q => ∃ p ys, xs = [V.ref p] ∧ (SqL K H p ys ∨ SqT K H p ys) ∧ ∀ l, H l = none → Q (.ref l) (upd H l (.lst ys))
theorem c_list {X : Cx} : CallR X (.type "list") (rListD X.K) := call_list_of
theorem rc_list : RC1 K (rListD K) H [.tuple xs] (.list xs) := fun B H1 l l1 vs hv Q q => by
  obtain ⟨v, rfl, h⟩ := ds1 hv
  cases h with
  | tup s t h1 => exact ⟨_, _, rfl, .inr (sqT_le l1 s), fun p hp => q _ _ _ ((Up.refl l1).new hp fun ps z => by cases z) (.new_lst upd_same (Ds.le (Le.new (l1.there p hp)) h1))⟩
theorem rc_listL : RC1 K (rListD K) H [.list xs] (.list xs) := fun B H1 l l1 vs hv Q q => by
  obtain ⟨v, rfl, h⟩ := ds1 hv
  cases h with
  | lst s t h1 => exact ⟨_, _, rfl, .inl (sqL_le l1 s), fun p hp => q _ _ _ ((Up.refl l1).new hp fun ps z => by cases z) (.new_lst upd_same (Ds.le (Le.new (l1.there p hp)) h1))⟩
end
section
variable {X : Cx} {e a b : Expr} {es : List Expr} {σ : L2.St} {H : Hp} {xs : List PyData}
theorem ee_list {p pos : Pos} (BL : X.mg "list" = none) (ha : EE X e σ H (.tuple xs)) (hg : Gl X "list" := by rfl) (he : starEach [e] X.env = (false, eval e X.env) :: starEach [] X.env := by rfl) :
    EE X (.Call (.Name "list" p) [e] [] pos) σ H (.list xs) := ee_callTy c_list hg BL boot_list' rc_list (ea_cons ha ea_nil he) (by decide) (by decide) he rfl
/-- parts of a tuple -/
def cutD (xs : List PyData) (lo hi : Option Int) : List PyData := (xs.drop (HT.sIx xs.length 0 lo)).take (HT.sIx xs.length xs.length hi - HT.sIx xs.length 0 lo)
/-- an end of a part: left out, or a number -/
def EO (X : Cx) (e : Option Expr) (σ : L2.St) (B : Hp) (o : Option Int) : Prop := ∀ H1, Le B H1 → ∀ Q : Option Int → Hp → Prop, (∀ H2, Le H1 H2 → Q o H2) → ∃ t, PO X e t ∧ t σ H1 Q
theorem eo_no : EO X none σ H none := fun H1 l Q q => ⟨_, po_none, q H1 (Le.refl _)⟩
theorem eo_some {i : Int} (h : EE X e σ H (.int i)) : EO X (some e) σ H (some i) := fun H1 l Q q => ⟨_, po_some pe_w, h H1 l _ fun v B2 H2 u dv => by
  cases dv
  exact ⟨i, rfl, q H2 u.h⟩⟩
def WO (X : Cx) (e : Option Expr) : TO := fun σ H Q => ∃ t, PO X e t ∧ t σ H Q
theorem po_w {o : Option Expr} : PO X o (WO X o) := ⟨fun pins s σ H Q I ⟨t, h, q⟩ => h.run pins s σ H Q I q⟩
theorem ee_cut {lo hi : Option Expr} {i j : Option Int} {pos p2 : Pos} (ha : EE X e σ H (.tuple xs)) (h1 : EO X lo σ H i) (h2 : EO X hi σ H j) : EE X (.Subscript e (.Slice lo hi none p2) pos) σ H (.tuple (cutD xs i j)) := fun H1 l Q q =>
  ⟨_, pe_slice sl_tupA pe_w po_w po_w, ha H1 l _ fun v B2 H2 u dv => h1 H2 ((u.b.trans u.s)) _ fun H3 l3 => h2 H3 ((u.b.trans u.s).trans l3) _ fun H4 l4 => by
    have u4 := (u.tab l3).tab l4
    cases dv with
    | tup s t h0 =>
      refine ⟨_, _, rfl, sqT_le u4.s s, fun hw => ?_, fun hw p hp => q _ _ _ (u4.new hp fun ps z => by cases z) (.new_tup upd_same ?_)⟩
      · have e2 : cutD xs i j = xs := by
          rw [h0.length] at hw
          unfold cutD
          rw [hw.1, hw.2]
          simp
        rw [e2] at q
        exact q _ B2 H4 u4 (.tup s t h0)
      · unfold cutV cutD
        rw [h0.length]
        exact ((Ds.le (Le.new (u4.s.there p hp)) h0).drop _).take _⟩
theorem cutD_take {xs : List PyData} {n : Nat} (h : n ≤ xs.length) : cutD xs none (some (n : Int)) = xs.take n := by
  unfold cutD
  rw [HT.sIx_none, HT.sIx_nat, Nat.min_eq_left h]
  simp
theorem cutD_drop {xs : List PyData} {n : Nat} (h : n ≤ xs.length) : cutD xs (some (n : Int)) none = xs.drop n := by
  unfold cutD
  rw [HT.sIx_none, HT.sIx_nat, Nat.min_eq_left h]
  exact List.take_of_length_le (by rw [List.length_drop]; omega)
theorem cutD_mid {xs : List PyData} {n m : Nat} : cutD xs (some (n : Int)) (some (m : Int)) = (xs.drop (min n xs.length)).take (min m xs.length - min n xs.length) := by
  unfold cutD
  rw [HT.sIx_nat, HT.sIx_nat]
end
end Tk


set_option Elab.async false
set_option linter.all false
set_option maxRecDepth 100000
set_option maxHeartbeats 2000000
namespace K0
open PySem PySem.Spec PyProof.Rows L2 GxR Tk
variable [LamTab]
section
variable {P : Program} {w : World} {K : PySem.W.Frag} {mg : Str → Option Value} {base : Heap} {f : Addr} {fd : FuncData} {T : List Addr} {c Pt : Addr}

/-- one name more in a letter -/
def plusN (x : PyData) : PyData → PyData
  | .tuple ys => .tuple (ys ++ [x])
  | _ => .none
def lawLet : List PyData → List PyData → List PyData
  | acc, [] => acc
  | acc, x :: xs => lawLet (acc ++ (acc.filter fun _ => true).map (plusN x)) xs
def lawLetF : List PyData → PyData
  | [.tuple xs] => .list (lawLet [.tuple []] xs)
  | _ => .none
theorem take_succ_foldl {acc : List PyData} : ∀ {xs : List PyData} {i : Nat} {x : PyData}, xs[i]? = some x → lawLet acc (xs.take (i + 1)) = lawLet acc (xs.take i) ++ ((lawLet acc (xs.take i)).filter fun _ => true).map (plusN x)
  | y :: xs, 0, x, h => by cases h; rfl
  | y :: xs, i + 1, x, h => by
    rw [List.take_succ_cons, List.take_succ_cons]
    exact take_succ_foldl (acc := acc ++ (acc.filter fun _ => true).map (plusN y)) (xs := xs) (i := i) h
theorem lawLet_len : ∀ {xs acc : List PyData}, (lawLet acc xs).length = acc.length * 2 ^ xs.length
  | [], acc => by simp [lawLet]
  | x :: xs, acc => by
    show (lawLet _ xs).length = _
    have e : (acc.filter fun _ => true) = acc := List.filter_eq_self.mpr fun _ _ => rfl
    rw [lawLet_len, List.length_append, List.length_map, List.length_cons, Nat.pow_succ, e, Nat.mul_comm (2 ^ xs.length) 2, ← Nat.mul_assoc]
    congr 1
    omega
/-- tuples of at most n -/
def tupsN (n : Nat) (ds : List PyData) : Prop := ∀ d ∈ ds, ∃ ys, d = .tuple ys ∧ ys.length ≤ n
theorem lawLet_tups : ∀ {xs acc : List PyData} {n : Nat}, tupsN n acc → tupsN (n + xs.length) (lawLet acc xs)
  | [], acc, n, h => h
  | x :: xs, acc, n, h => by
    have h2 : tupsN (n + 1) (acc ++ (acc.filter fun _ => true).map (plusN x)) := fun d hd => by
      rcases List.mem_append.mp hd with z | z
      · obtain ⟨ys, e, k⟩ := h d z
        exact ⟨ys, e, by omega⟩
      · obtain ⟨y, hy, rfl⟩ := List.mem_map.mp z
        obtain ⟨ys, e, k⟩ := h y (List.mem_filter.mp hy).1
        subst e
        exact ⟨ys ++ [x], rfl, by rw [List.length_append, List.length_cons, List.length_nil]; omega⟩
    have := lawLet_tups (xs := xs) h2
    rw [List.length_cons]
    have e : n + (xs.length + 1) = n + 1 + xs.length := by omega
    rw [e]
    exact this
def lettersL (xs : List PyData) : List PyData := lawLet [.tuple []] xs
def letOfF : List PyData → PyData
  | [.tuple xs] => .tuple (lettersL xs)
  | _ => .none
def letOfP (ds : List PyData) : Prop := ∃ xs, ds = [.tuple xs] ∧ xs.length ≤ 3
theorem scLetOf : FnScope ["scope", "told", "name", "letter"] ["scope"] (defScope sLetOf) := ⟨rfl, rfl, rfl, by decide +kernel, rfl, by decide +kernel, by decide +kernel⟩
theorem ndLetOf : List.Nodup (["scope", "told", "name", "letter"] : List Str) := by decide +kernel
theorem ok_letOf (BL : Blt mg) (F : L2.Fun K "letters_of" "letters_of" sLetOf f fd) : FnOk P w K mg base CX0 2 f fd ["scope"] (spF K T 1 letOfP letOfF) := by
  refine fn_pure F scLetOf rfl fun cdv A outer s H vs B ds Q E hr hcd t l hd hl hp q => ?_
  obtain ⟨xs, rfl, hn⟩ := hp
  obtain ⟨v1, rfl, h1⟩ := ds1 hd
  refine wb_cons (ws_set (i := 1) (d := .list [.tuple []]) l (ee_lst (ea_cons (ee_tup ea_nil (by decide)) ea_nil) (by decide)) (fun v2 B2 H2 u2 d2 => ?_) ndLetOf)
  refine wb_cons (ws_for (tjs := [2]) (pat := patN) u2.s (ei_tup (ee_var (i := 0) rfl (Dt.le u2.b h1))) (eg_name ndLetOf) (fun d hd => ⟨[d], rfl⟩) PassesOwn.never rfl
    (fun i σ' B' H' => Up B H B' H' ∧ ∃ vf a, σ' = [some v1, some vf, a, none] ∧ Dt K B' vf (.list (lawLet [.tuple []] (xs.take i)))) (fun B' H' u => ⟨u2.trans u, v2, none, rfl, Dt.le u.b d2⟩) (fun i d es vs σ' B' H' B'' H'' hi hd' lb hI u4 he dvs N hN => ?_) fun σ' B' H' lb ls hI => ?_)
  · obtain ⟨u', vf, a, rfl, df⟩ := hI
    cases he
    obtain ⟨x, rfl, hx⟩ := ds1 (K := K) dvs
    have df' := Dt.le u4.b df
    have t0 : tupsN 3 (lawLet [.tuple []] (xs.take i)) := by
      have := lawLet_tups (xs := xs.take i) (acc := [.tuple []]) (n := 0) fun d hd => by
        rw [List.mem_singleton] at hd
        exact ⟨[], hd, Nat.le_refl _⟩
      intro d hd
      obtain ⟨ys, e, k⟩ := this d hd
      have := List.length_take_le i xs
      exact ⟨ys, e, by omega⟩
    have len : (lawLet [.tuple []] (xs.take i)).length ≤ 8 := by
      rw [lawLet_len]
      have : (xs.take i).length ≤ 3 := Nat.le_trans (List.length_take_le i xs) (by omega)
      have : 2 ^ (xs.take i).length ≤ 2 ^ 3 := Nat.pow_le_pow_right (by decide) this
      simp only [List.length_cons, List.length_nil]
      omega
    refine wb_one (ws_set (i := 1) (d := .list (lawLet [.tuple []] (xs.take (i + 1)))) u4.s ?_ (fun v3 B3 H3 u3 d3 => hN _ B3 H3 u3.b u3.s ⟨(u'.trans u4).trans u3, v3, _, rfl, d3⟩) ndLetOf)
    rw [take_succ_foldl hd']
    refine ee_op op_catL (rr_catL (by
      rw [List.length_map]
      have := List.length_filter_le (fun _ => true) (lawLet [.tuple []] (xs.take i))
      have : (lawLet [.tuple []] (xs.take i)).length + (List.filter (fun _ => true) (lawLet [.tuple []] (xs.take i))).length ≤ 16 := by omega
      exact Nat.le_trans this (by decide))) (ee_var (i := 1) rfl df') ?_
    refine ee_lc (own := [("letter", 3)]) (tjs := [3]) (pat := patN) (fun _ => true) (plusN d) rfl ndLetOf (ei_lst (ee_var (i := 1) rfl df'))
      (blkOk_by (show blkC ["scope", "told", "name", "letter"] (defScope sLetOf) _ [("letter", 3)] = true by decide +kernel))
      (fun s H C cl fp => eg_name ndLetOf) (fun d hd => ⟨[d], rfl, rfl⟩) (fun vs hv => ?_) (fun B' d es vs lb hd he hv s H C cl fp => ets_nil) (fun B' d' es vs lb hd hb he hv s H C cl fp => ?_) (Nat.lt_of_le_of_lt len (by decide))
    · match vs, hv with
      | [a], _ => rfl
    · cases he
      obtain ⟨y, rfl, hy⟩ := ds1 (K := K) hv
      obtain ⟨ys, rfl, hk⟩ := t0 d' hd
      exact ee_op op_catA (rr_catT (by rw [List.length_cons, List.length_nil]; exact Nat.le_trans (show ys.length + (0 + 1) ≤ 4 by omega) (by decide))) (ee_var (i := 3) rfl hy) (ee_tup (ea_cons (ee_var (i := 2) rfl (Dt.le lb hx)) ea_nil) (by show 1 ≤ sizeLine; decide))
  · obtain ⟨u', vf, a, rfl, df⟩ := hI
    rw [List.take_length] at df
    exact wb_one (ws_ret (d := .tuple (lawLet [.tuple []] xs)) ls (ee_tuple BL (ee_var (i := 1) rfl df)) fun v B3 H3 u3 d3 => q v B3 H3 (u'.trans u3) d3)
/-! ### nodes -/
def strTup : PyData → Bool
  | .tuple ns => ns.all isStr
  | _ => false
def nodeB (d : PyData) (ks : List PyData) (m : Int) : Bool := rowB d 3 3 && match d with
  | .tuple [l, a, b] => strTup l && ((ks.any fun z => PyData.eqv z l) && (numB a m && numB b m))
  | _ => false
def nodeF : List PyData → PyData
  | [d, .tuple ks, .int m] => .bool (nodeB d ks m)
  | _ => .none
def nodeP (ds : List PyData) : Prop := ∃ d ks m, ds = [d, .tuple ks, .int m] ∧ okD d = true ∧ noDicts ks = true ∧ SeqAt.shaped (.tuple ks) = true
theorem scNode : FnScope ["thing", "known", "many", "letter", "left", "right", "name"] ["thing", "known", "many"] (defScope sNode) := ⟨rfl, rfl, rfl, by decide +kernel, rfl, by decide +kernel, by decide +kernel⟩
theorem ndNode : List.Nodup (["thing", "known", "many", "letter", "left", "right", "name"] : List Str) := by decide +kernel
theorem three {xs : List PyData} (h : (3 : Int) ≤ (xs.length : Int)) (k : (xs.length : Int) ≤ 3) : ∃ a b c, xs = [a, b, c] := by
  match xs with
  | [a, b, c] => exact ⟨a, b, c, rfl⟩
  | [] => exact absurd h (by decide)
  | [_] => simp only [List.length_cons, List.length_nil] at h; omega
  | [_, _] => simp only [List.length_cons, List.length_nil] at h; omega
  | _ :: _ :: _ :: _ :: r =>
    simp only [List.length_cons] at k
    omega
theorem nodeB_big {d : PyData} {ks : List PyData} {m : Int} (h : ∀ a b c, d ≠ .tuple [a, b, c]) : nodeB d ks m = false := by
  unfold nodeB
  cases e : rowB d 3 3 with
  | false => rfl
  | true =>
    obtain ⟨xs, rfl, h1, h2⟩ := row_tup e
    obtain ⟨a, b, c, rfl⟩ := three h1 h2
    exact absurd rfl (h a b c)
theorem ok_node (BL : Blt mg) (Fnum : Kn P w K mg base 1 "is_number" ["thing", "limit"] (spF K T 2 numP numF))
    (F : L2.Fun K "is_node" "is_node" sNode f fd) : FnOk P w K mg base CX0 2 f fd ["thing", "known", "many"] (spF K T 3 nodeP nodeF) := by
  refine fn_pure F scNode rfl fun cdv A outer s H vs B ds Q E hr hcd t l hd hl hp q => ?_
  obtain ⟨d, ks, m, rfl, hok, hks1, hks2⟩ := hp
  obtain ⟨v1, v2, v3, rfl, h1, h2, h3⟩ := ds3 hd
  cases h3
  have no : ∀ {B' H' H'' : Hp} {v : V}, (∀ a b c, d ≠ .tuple [a, b, c]) → Le H H' → Up B H' B' H'' → Dt K B' v (.bool false) → Q v H'' := fun hx l' u dv => q _ _ _ ((Up.le l l').trans u) (by
    show Dt K _ _ (.bool (nodeB d ks m))
    rw [nodeB_big hx]
    exact dv)
  cases ht : isTup d with
  | false =>
    refine wb_cons (ws_if (k := true) l (et_w (ew_or (p := true) (q := true) ((et_not (et_val (ee_isTup BL (ee_var (i := 0) rfl h1)))).cast (by rw [ht]; rfl)) fun e => by cases e)) (fun _ H' l' => ?_) fun e => by cases e)
    exact wb_one (ws_ret (d := .bool false) (l.trans l') ee_bl fun v B' H'' u dv => no (fun a b c e => by subst e; cases ht) l' u dv)
  | true =>
    cases d with
    | tuple xs =>
      refine wb_cons (ws_if (k := !decide ((xs.length : Int) = 3)) l (et_w (ew_or (p := false) ((et_not (et_val (ee_isTup BL (ee_var (i := 0) rfl h1)))).cast rfl) fun _ => ew_one2 (et_cmp op_ne rr_neI (ee_len BL (ee_var (i := 0) rfl h1) rfl fun x z => by cases z) ee_int))) (fun e H' l' => ?_) fun e H' l' => ?_)
      · refine wb_one (ws_ret (d := .bool false) (l.trans l') ee_bl fun v B' H'' u dv => no (fun a b c z => ?_) l' u dv)
        cases z
        cases e
      have e' : (xs.length : Int) = 3 := by
        by_cases z : (xs.length : Int) = 3
        · exact z
        · rw [decide_eq_false z] at e; cases e
      obtain ⟨la, lb, lc, rfl⟩ := three (xs := xs) (by omega) (by omega)
      have hoks := (okD_tup hok).2
      have hokl : okD la = true := okDs_mem hoks List.mem_cons_self
      have l1 := l.trans l'
      refine wb_nil (wb_cons (ws_tgt (tjs := [3, 4, 5]) (pat := patT 3) (es := [la, lb, lc]) l1 (ee_var (i := 0) rfl h1) (eg_tup rfl (st_cons (st_cons (st_cons st_nil ndNode) ndNode) ndNode)) rfl fun us B2 H2 u2 dus => ?_))
      obtain ⟨ua, ub, uc, rfl, ha, hb, hcc⟩ := ds3 (K := K) dus
      have t2 := t.le u2.b
      have g2 := Dt.le u2.b h2
      have fin : ∀ (k : Bool), nodeF [.tuple [la, lb, lc], .tuple ks, .int m] = .bool k → ∀ v B' H', Up B2 H2 B' H' → Dt K B' v (.bool k) → Q v H' := fun k hk v B' H' u dv => q v B' H' (((Up.le l l').trans u2).trans u) (by rw [hk]; exact dv)
      have whole : nodeF [.tuple [la, lb, lc], .tuple ks, .int m] = .bool (strTup la && ((ks.any fun z => PyData.eqv z la) && (numB lb m && numB lc m))) := rfl
      cases hla : isTup la with
      | false =>
        refine wb_cons (ws_if (k := true) u2.s ((et_not (et_val (ee_isTup BL (ee_var (i := 3) rfl ha)))).cast (by rw [hla]; rfl)) (fun _ H3 l3 => ?_) fun e => by cases e)
        refine wb_one (ws_ret (d := .bool false) (u2.s.trans l3) ee_bl fun v B' H'' u dv => fin false ?_ v B' H'' ((Up.le u2.s l3).trans u) dv)
        rw [whole]
        cases la <;> first | rfl | cases hla
      | true =>
        cases la with
        | tuple ns =>
          have hokn := okD_tup hokl
          refine wb_cons (ws_if (k := false) u2.s ((et_not (et_val (ee_isTup BL (ee_var (i := 3) rfl ha)))).cast rfl) (fun e => by cases e) fun _ H3 l3 => ?_)
          have s3 := u2.s.trans l3
          refine wb_nil (wb_cons (ws_for (B := B2) (ds := ns) (tjs := [6]) (pat := patN) s3 (ei_tup (ee_var (i := 3) rfl ha)) (eg_name ndNode) (fun d hd => ⟨[d], rfl⟩) PassesOwn.never rfl
            (fun i σ' B' H' => Up B2 H3 B' H' ∧ (∃ a, σ' = [some v1, some v2, some (.int m), some ua, some ub, some uc, a]) ∧ (ns.take i).all isStr = true) (fun B' H' u => ⟨u, ⟨none, rfl⟩, rfl⟩) (fun i d es vs σ' B' H' B'' H'' hi hd' lb' hI u4 he dvs N hN => ?_) fun σ' B' H' lb' ls hI => ?_))
          · obtain ⟨u', ⟨a, rfl⟩, hI⟩ := hI
            cases he
            obtain ⟨x, rfl, hx⟩ := ds1 (K := K) dvs
            refine wb_one (ws_if (k := !isStr d) u4.s (et_not (et_val (ee_isStr BL (ee_var (i := 6) rfl hx)))) (fun e H5 l5 => ?_) fun e H5 l5 => ?_)
            · have e3 : ns.all isStr = false := by
                cases h : ns.all isStr with
                | false => rfl
                | true => rw [List.all_eq_true.mp h d (List.mem_of_getElem? hd')] at e; cases e
              refine wb_one (ws_ret (d := .bool false) (u4.s.trans l5) ee_bl fun v B6 H6 u6 dv => fin false ?_ v B6 H6 ((Up.le u2.s l3).trans ((u'.trans u4).trans ((Up.le u4.s l5).trans u6))) dv)
              rw [whole]
              show PyData.bool (ns.all isStr && _) = _
              rw [e3]
              rfl
            · refine wb_nil (hN _ B'' H5 (Le.refl _) (u4.s.trans l5) ⟨(u'.trans u4).trans (Up.le u4.s l5), ⟨_, rfl⟩, ?_⟩)
              have e4 : isStr d = true := by cases h : isStr d with | true => rfl | false => rw [h] at e; cases e
              rw [List.take_add_one, hd', List.all_append, hI]
              show (true && (isStr d && true)) = true
              rw [e4]
              rfl
          · obtain ⟨u', ⟨a, rfl⟩, e3⟩ := hI
            rw [List.take_length] at e3
            obtain ⟨n1, n2, _⟩ := tupF_shaped (fun x hx => str_flat (List.all_eq_true.mp e3 x hx)) hokl
            refine wb_one (ws_ret (d := .bool ((ks.any fun z => PyData.eqv z (.tuple ns)) && (numB lb m && numB lc m))) ls ?_ fun v B5 H5 u5 dv => fin _ ?_ v B5 H5 ((Up.le u2.s l3).trans (u'.trans u5)) dv)
            · refine ee_and (ee_cmp (o_inT (hu65 hr)) (rr_inT n1 hks1 n2 hks2) (ee_var (i := 3) rfl (Dt.le lb' ha)) (ee_var (i := 1) rfl (Dt.le lb' g2))) fun _ => ?_
              refine ee_and (p := numB lb m) (ee_call Fnum hr (by decide) (t2.le lb') (ea_cons (ee_var (i := 4) rfl (Dt.le lb' hb)) (ea_cons (ee_var (i := 2) rfl (.int m)) ea_nil)) ⟨lb, m, rfl⟩) fun _ => ?_
              exact ee_one (ee_call Fnum hr (by decide) (t2.le lb') (ea_cons (ee_var (i := 5) rfl (Dt.le lb' hcc)) (ea_cons (ee_var (i := 2) rfl (.int m)) ea_nil)) ⟨lc, m, rfl⟩)
            · rw [whole]
              show PyData.bool (ns.all isStr && _) = _
              rw [e3]
              rfl
        | _ => cases hla
    | _ => cases ht
end
end K0


set_option Elab.async false
set_option linter.all false
set_option maxRecDepth 100000
set_option maxHeartbeats 2000000
namespace K0
open PySem PySem.Spec PyProof.Rows L2 GxR Tk
variable [LamTab]
section
variable {P : Program} {w : World} {K : PySem.W.Frag} {mg : Str → Option Value} {base : Heap} {f : Addr} {fd : FuncData} {T : List Addr} {c Pt : Addr}

theorem lawLet_all {Pr : PyData → Prop} : ∀ {xs acc : List PyData}, (∀ d ∈ acc, Pr d) → (∀ x ∈ xs, ∀ d, Pr d → Pr (plusN x d)) → ∀ d ∈ lawLet acc xs, Pr d
  | [], acc, h, _, d, hd => h d hd
  | x :: xs, acc, h, hp, d, hd => lawLet_all (xs := xs) (fun e he => by
    rcases List.mem_append.mp he with z | z
    · exact h e z
    · obtain ⟨y, hy, rfl⟩ := List.mem_map.mp z
      exact hp x List.mem_cons_self y (h y (List.mem_filter.mp hy).1)) (fun y hy => hp y (List.mem_cons_of_mem _ hy)) d hd
/-- a letter: a tuple of some names of the scope -/
theorem mem_lettersL {xs : List PyData} {d : PyData} (h3 : xs.length ≤ 3) (h : d ∈ lettersL xs) : ∃ ys, d = .tuple ys ∧ ys.length ≤ 3 ∧ ∀ y ∈ ys, y ∈ xs := by
  have a := lawLet_all (Pr := fun d => ∃ ys, d = .tuple ys ∧ ∀ y ∈ ys, y ∈ xs) (xs := xs) (acc := [.tuple []]) (fun d hd => by
    rw [List.mem_singleton] at hd
    exact ⟨[], hd, fun y hy => by cases hy⟩) (fun x hx d ⟨ys, e, k⟩ => by
    subst e
    refine ⟨ys ++ [x], rfl, fun y hy => ?_⟩
    rcases List.mem_append.mp hy with z | z
    · exact k y z
    · rw [List.mem_singleton.mp z]; exact hx) d h
  have b := lawLet_tups (xs := xs) (acc := [.tuple []]) (n := 0) (fun d hd => by
    rw [List.mem_singleton] at hd
    exact ⟨[], hd, Nat.le_refl _⟩) d h
  obtain ⟨ys, rfl, k⟩ := a
  obtain ⟨zs, e, k2⟩ := b
  cases e
  exact ⟨ys, rfl, by omega, k⟩
theorem lettersL_len {xs : List PyData} (h : xs.length ≤ 3) : (lettersL xs).length ≤ 8 := by
  unfold lettersL
  rw [lawLet_len]
  have : 2 ^ xs.length ≤ 2 ^ 3 := Nat.pow_le_pow_right (by decide) h
  simp only [List.length_cons, List.length_nil]
  omega
theorem letters_shaped {ns : List PyData} (h3 : ns.length ≤ 3) (hs : ∀ x ∈ ns, isStr x = true) (hk : ∀ x ∈ ns, okD x = true) : noDicts (lettersL ns) = true ∧ SeqAt.shaped (.tuple (lettersL ns)) = true := by
  have each : ∀ d ∈ lettersL ns, okD d = true ∧ noDict d = true ∧ d.depth ≤ 1 := fun d hd => by
    obtain ⟨ys, rfl, hl, hy'⟩ := mem_lettersL h3 hd
    have k : okD (.tuple ys) = true := by
      show (decide (ys.length ≤ 100000) && okDs ys) = true
      rw [decide_eq_true (show ys.length ≤ 100000 by omega), okDs_of fun y hy => hk y (hy' y hy)]
      rfl
    obtain ⟨a, _, b⟩ := tupF_shaped (fun y hy => str_flat (hs y (hy' y hy))) k
    exact ⟨k, a, b⟩
  refine tupT_shaped (fun d hd => (each d hd).2) ?_
  show (decide ((lettersL ns).length ≤ 100000) && okDs (lettersL ns)) = true
  rw [decide_eq_true (show (lettersL ns).length ≤ 100000 by have := lettersL_len h3; omega), okDs_of fun d hd => (each d hd).1]
  rfl

/-! ### woods -/
def nodesB : PyData → PyData → Bool
  | .tuple ns, .tuple xs => xs.all fun r => nodeB r (lettersL ns) (xs.length : Int)
  | _, _ => false
def woodB (d : PyData) : Bool := headB d "wood" 3 && match d with
  | .tuple [_, sc, rs] => scopeB sc && (rowB rs 1 400 && nodesB sc rs)
  | _ => false
def woodF : List PyData → PyData
  | [d] => .bool (woodB d)
  | _ => .none
theorem wood_eq (a sc rs : PyData) : woodB (.tuple [a, sc, rs]) = (headB (.tuple [a, sc, rs]) "wood" 3 && (scopeB sc && (rowB rs 1 400 && nodesB sc rs))) := rfl
theorem scWood : FnScope ["thing", "rows", "known", "row"] ["thing"] (defScope sWood) := ⟨rfl, rfl, rfl, by decide +kernel, rfl, by decide +kernel, by decide +kernel⟩
theorem ndWood : List.Nodup (["thing", "rows", "known", "row"] : List Str) := by decide +kernel
theorem head_three {d : PyData} (h : headB d "wood" 3 = true) : ∃ a b c, d = .tuple [a, b, c] := by
  cases d with
  | tuple xs =>
    have h' := (Bool.and_eq_true _ _).mp h
    have h2 := (Bool.and_eq_true _ _).mp h'.2
    have e : (xs.length : Int) = 3 := of_decide_eq_true h2.1
    obtain ⟨a, b, c, rfl⟩ := three (xs := xs) (by omega) (by omega)
    exact ⟨a, b, c, rfl⟩
  | _ => cases h
theorem scope_tup {d : PyData} (h : scopeB d = true) : ∃ ns, d = .tuple ns ∧ ns.length ≤ 3 ∧ ∀ x ∈ ns, isStr x = true := by
  have h' := (Bool.and_eq_true _ _).mp h
  obtain ⟨ns, rfl, _, h2⟩ := row_tup h'.1
  have h3 := (Bool.and_eq_true _ _).mp h'.2
  exact ⟨ns, rfl, by omega, fun x hx => name_str (List.all_eq_true.mp h3.1 x hx)⟩
theorem ok_wood (BL : Blt mg) (hmost : ∃ t, mg "MOST_NODES" = some (.int 400 t)) (Frow : Kn P w K mg base 1 "is_row" ["thing", "least", "most"] (spF K T 3 rowP rowF)) (Fhead : Kn P w K mg base 1 "is_headed" ["thing", "word", "size"] (spF K T 3 headP headF))
    (Fscope : Kn P w K mg base 4 "is_scope" ["thing"] (spF K T 1 nameP scopeF)) (Flet : Kn P w K mg base 2 "letters_of" ["scope"] (spF K T 1 letOfP letOfF)) (Fnode : Kn P w K mg base 2 "is_node" ["thing", "known", "many"] (spF K T 3 nodeP nodeF))
    (F : L2.Fun K "is_wood" "is_wood" sWood f fd) : FnOk P w K mg base CX0 5 f fd ["thing"] (spF K T 1 nameP woodF) := by
  refine fn_pure F scWood rfl fun cdv A outer s H vs B ds Q E hr hcd t l hd hl hp q => ?_
  obtain ⟨d, rfl, hok⟩ := hp
  obtain ⟨v1, rfl, h1⟩ := ds1 hd
  obtain ⟨tm, hm⟩ := hmost
  have no : ∀ {H2 H' H'' B' : Hp} {v : V}, Le H H' → Up B H' B' H'' → Dt K B' v (.bool false) → woodB d = false → Q v H'' := fun l' u dv e => q _ _ _ ((Up.le l l').trans u) (by show Dt K _ _ (.bool (woodB d)); rw [e]; exact dv)
  cases eh : headB d "wood" 3 with
  | false =>
    refine wb_cons (ws_if (k := true) l (et_w (ew_or (p := true) (q := true) ((et_not (et_val (ee_call Fhead hr (by decide) t (ea_cons (ee_var (i := 0) rfl h1) (ea_cons ee_str (ea_cons ee_int ea_nil))) ⟨d, _, _, rfl, by decide⟩ (d := .bool (headB d "wood" 3))))).cast (by rw [eh]; rfl)) fun e => by cases e)) (fun _ H' l' => ?_) fun e => by cases e)
    refine wb_one (ws_ret (d := .bool false) (l.trans l') ee_bl fun v B' H'' u dv => no (H2 := H) l' u dv ?_)
    unfold woodB
    rw [eh]
    rfl
  | true =>
    obtain ⟨a0, sc, rs, rfl⟩ := head_three eh
    have hoks := (okD_tup hok).2
    have hoksc : okD sc = true := okDs_mem hoks (by simp)
    have hokrs : okD rs = true := okDs_mem hoks (by simp)
    refine wb_cons (ws_if (k := !scopeB sc) l (et_w (ew_or (p := false) ((et_not (et_val (ee_call Fhead hr (by decide) t (ea_cons (ee_var (i := 0) rfl h1) (ea_cons ee_str (ea_cons ee_int ea_nil))) ⟨_, _, _, rfl, by decide⟩ (d := .bool (headB (.tuple [a0, sc, rs]) "wood" 3))))).cast (by rw [eh]; rfl)) fun _ =>
      ew_one2 (et_not (et_val (ee_call Fscope hr (by decide) t (ea_cons (ee_ix ix_tup (rr_ixT at1) (ee_var (i := 0) rfl h1) ee_int) ea_nil) ⟨sc, rfl, hoksc⟩))))) (fun e H' l' => ?_) fun e H' l' => ?_)
    · refine wb_one (ws_ret (d := .bool false) (l.trans l') ee_bl fun v B' H'' u dv => no (H2 := H) l' u dv ?_)
      have e2 : scopeB sc = false := by cases h : scopeB sc with | false => rfl | true => rw [h] at e; cases e
      rw [wood_eq, eh, e2]
      rfl
    have e2 : scopeB sc = true := by cases h : scopeB sc with | true => rfl | false => rw [h] at e; cases e
    obtain ⟨ns, rfl, hns, hstr⟩ := scope_tup e2
    obtain ⟨sh1, sh2⟩ := letters_shaped hns hstr fun x hx => okDs_mem (okD_tup hoksc).2 hx
    refine wb_nil (wb_cons (ws_set (i := 1) (l.trans l') (ee_ix ix_tup (rr_ixT at2) (ee_var (i := 0) rfl h1) ee_int) (fun v2 B2 H2 u2 d2 => ?_) ndWood))
    have d2 : Dt K B2 v2 rs := d2
    have t2 := t.le u2.b
    have k1 := Dt.le u2.b h1
    refine wb_cons (ws_if (k := !rowB rs 1 400) u2.s (et_not (et_val (ee_call Frow hr (by decide) t2 (ea_cons (ee_var (i := 1) rfl d2) (ea_cons ee_int (ea_cons (ee_globD (v := .int 400) hm ⟨tm, rfl⟩ fun _ => .int 400) ea_nil))) ⟨rs, 1, 400, rfl⟩))) (fun e H3 l3 => ?_) fun e H3 l3 => ?_)
    · refine wb_one (ws_ret (d := .bool false) (u2.s.trans l3) ee_bl fun v B' H'' u dv => q v B' H'' (((Up.le l l').trans u2).trans ((Up.le u2.s l3).trans u)) ?_)
      have e3 : rowB rs 1 400 = false := by cases h : rowB rs 1 400 with | false => rfl | true => rw [h] at e; cases e
      have e4 : woodB (.tuple [a0, .tuple ns, rs]) = false := by
        rw [wood_eq, eh, e2, e3]
        rfl
      show Dt K B' v (.bool (woodB (.tuple [a0, .tuple ns, rs])))
      rw [e4]
      exact dv
    have e3 : rowB rs 1 400 = true := by cases h : rowB rs 1 400 with | true => rfl | false => rw [h] at e; cases e
    obtain ⟨xs, rfl, _, hxs⟩ := row_tup e3
    refine wb_nil (wb_cons (ws_set (i := 2) (d := .tuple (lettersL ns)) (u2.s.trans l3) (ee_call Flet hr (by decide) t2 (ea_cons (ee_ix ix_tup (rr_ixT at1) (ee_var (i := 0) rfl k1) ee_int) ea_nil) ⟨ns, rfl, hns⟩) (fun v3 B3 H4 u3 d3 => ?_) ndWood))
    have d3 : Dt K B3 v3 (.tuple (lettersL ns)) := d3
    have t3 := t2.le u3.b
    have d2' := Dt.le u3.b d2
    have fin : ∀ (k : Bool), nodesB (.tuple ns) (.tuple xs) = k → ∀ v B' H', Up B3 H4 B' H' → Dt K B' v (.bool k) → Q v H' := fun k hk v B' H' u dv => q v B' H' ((((Up.le l l').trans u2).trans ((Up.le u2.s l3).trans u3)).trans u) (by
      have e4 : woodB (.tuple [a0, .tuple ns, .tuple xs]) = k := by
        rw [wood_eq, eh, e2, e3, hk]
        rfl
      show Dt K B' v (.bool (woodB (.tuple [a0, .tuple ns, .tuple xs])))
      rw [e4]
      exact dv)
    refine wb_cons (ws_for (B := B3) (ds := xs) (tjs := [3]) (pat := patN) u3.s (ei_tup (ee_var (i := 1) rfl d2')) (eg_name ndWood) (fun d hd => ⟨[d], rfl⟩) PassesOwn.never rfl
      (fun i σ' B' H' => Up B3 H4 B' H' ∧ (∃ a, σ' = [some v1, some v2, some v3, a]) ∧ (xs.take i).all (fun r => nodeB r (lettersL ns) (xs.length : Int)) = true) (fun B' H' u => ⟨u, ⟨none, rfl⟩, rfl⟩) (fun i d es vs σ' B' H' B'' H'' hi hd' lb' hI u4 he dvs N hN => ?_) fun σ' B' H' lb' ls hI => ?_)
    · obtain ⟨u', ⟨a, rfl⟩, hI⟩ := hI
      cases he
      obtain ⟨x, rfl, hx⟩ := ds1 (K := K) dvs
      have lB := u'.b.trans u4.b
      refine wb_one (ws_if (k := !nodeB d (lettersL ns) (xs.length : Int)) u4.s (et_not (et_val (ee_call Fnode hr (by decide) (t3.le lB) (ea_cons (ee_var (i := 3) rfl hx) (ea_cons (ee_var (i := 2) rfl (Dt.le lB d3)) (ea_cons (ee_len BL (ee_var (i := 1) rfl (Dt.le lB d2')) rfl fun x z => by cases z) ea_nil))) ⟨d, _, _, rfl, okDs_mem (okD_tup hokrs).2 (List.mem_of_getElem? hd'), sh1, sh2⟩))) (fun e H5 l5 => ?_) fun e H5 l5 => ?_)
      · refine wb_one (ws_ret (d := .bool false) (u4.s.trans l5) ee_bl fun v B6 H6 u6 dv => fin false ?_ v B6 H6 ((u'.trans u4).trans ((Up.le u4.s l5).trans u6)) dv)
        cases h : nodesB (.tuple ns) (.tuple xs) with
        | false => rfl
        | true =>
          have h' : xs.all (fun r => nodeB r (lettersL ns) (xs.length : Int)) = true := h
          rw [List.all_eq_true.mp h' d (List.mem_of_getElem? hd')] at e
          cases e
      · refine wb_nil (hN _ B'' H5 (Le.refl _) (u4.s.trans l5) ⟨(u'.trans u4).trans (Up.le u4.s l5), ⟨_, rfl⟩, ?_⟩)
        have e4 : nodeB d (lettersL ns) (xs.length : Int) = true := by cases h : nodeB d (lettersL ns) (xs.length : Int) with | true => rfl | false => rw [h] at e; cases e
        rw [List.take_add_one, hd', List.all_append, hI]
        show (true && (nodeB d (lettersL ns) (xs.length : Int) && true)) = true
        rw [e4]
        rfl
    · obtain ⟨u', ⟨a, rfl⟩, e5⟩ := hI
      rw [List.take_length] at e5
      exact wb_one (ws_ret (d := .bool true) ls ee_bl fun v B5 H5 u5 dv => fin true e5 v B5 H5 (u'.trans u5) dv)
end
end K0


set_option Elab.async false
set_option linter.all false
set_option maxRecDepth 100000
set_option maxHeartbeats 2000000
namespace K0
open PySem PySem.Spec PyProof.Rows L2 GxR Tk
variable [LamTab]
abbrev sLLet : Stmt := t__law_letters
abbrev sLNum : Stmt := t__law_is_number
section
variable {P : Program} {w : World} {K : PySem.W.Frag} {mg : Str → Option Value} {base : Heap} {f : Addr} {fd : FuncData} {T : List Addr} {c Pt : Addr}
theorem scLNum : FnScope ["thing", "end"] ["thing", "end"] (defScope sLNum) := ⟨rfl, rfl, rfl, by decide +kernel, rfl, by decide +kernel, by decide +kernel⟩
theorem ok_lnum (BL : Blt mg) (F : L2.Fun K "_law_is_number" "_law_is_number" sLNum f fd) : FnOk P w K mg base CX0 1 f fd ["thing", "end"] (spF K T 2 numP numF) := by
  refine fn_pure F scLNum rfl fun cdv A outer s H vs B ds Q E hr hcd t l hd hl hp q => ?_
  obtain ⟨d, m, rfl⟩ := hp
  obtain ⟨v1, v2, rfl, h1, h2⟩ := ds2 hd
  cases h2
  refine wb_one (ws_ret (d := .bool (numB d m)) l ?_ q)
  refine ee_and (ee_isInt BL (ee_var (i := 0) rfl h1)) fun e1 => ?_
  refine ee_and (ee_not (ee_isBool BL (ee_var (i := 0) rfl h1))) fun e2 => ?_
  refine ee_one ?_
  cases d with
  | int i => exact ee_chain op_le op_lt rr_le (fun _ => rr_lt) ee_int (ee_var (i := 0) rfl h1) fun _ => ee_var (i := 1) rfl (.int m)
  | bool b => cases e2
  | none => cases e1
  | str x => cases e1
  | list x => cases e1
  | tuple x => cases e1
  | dict x => cases e1

theorem scLLet : FnScope ["scope", "found", "name", "letter"] ["scope"] (defScope sLLet) := ⟨rfl, rfl, rfl, by decide +kernel, rfl, by decide +kernel, by decide +kernel⟩
theorem ndLLet : List.Nodup (["scope", "found", "name", "letter"] : List Str) := by decide +kernel
theorem ok_llet (F : L2.Fun K "_law_letters" "_law_letters" sLLet f fd) : FnOk P w K mg base CX0 1 f fd ["scope"] (spF K T 1 letOfP lawLetF) := by
  refine fn_pure F scLLet rfl fun cdv A outer s H vs B ds Q E hr hcd t l hd hl hp q => ?_
  obtain ⟨xs, rfl, hn⟩ := hp
  obtain ⟨v1, rfl, h1⟩ := ds1 hd
  refine wb_cons (ws_set (i := 1) (d := .list [.tuple []]) l (ee_lst (ea_cons (ee_tup ea_nil (by decide)) ea_nil) (by decide)) (fun v2 B2 H2 u2 d2 => ?_) ndLLet)
  refine wb_cons (ws_for (tjs := [2]) (pat := patN) u2.s (ei_tup (ee_var (i := 0) rfl (Dt.le u2.b h1))) (eg_name ndLLet) (fun d hd => ⟨[d], rfl⟩) PassesOwn.never rfl
    (fun i σ' B' H' => Up B H B' H' ∧ ∃ vf a, σ' = [some v1, some vf, a, none] ∧ Dt K B' vf (.list (lawLet [.tuple []] (xs.take i)))) (fun B' H' u => ⟨u2.trans u, v2, none, rfl, Dt.le u.b d2⟩) (fun i d es vs σ' B' H' B'' H'' hi hd' lb hI u4 he dvs N hN => ?_) fun σ' B' H' lb ls hI => ?_)
  · obtain ⟨u', vf, a, rfl, df⟩ := hI
    cases he
    obtain ⟨x, rfl, hx⟩ := ds1 (K := K) dvs
    have df' := Dt.le u4.b df
    have t0 : tupsN 3 (lawLet [.tuple []] (xs.take i)) := by
      have := lawLet_tups (xs := xs.take i) (acc := [.tuple []]) (n := 0) fun d hd => by
        rw [List.mem_singleton] at hd
        exact ⟨[], hd, Nat.le_refl _⟩
      intro d hd
      obtain ⟨ys, e, k⟩ := this d hd
      have := List.length_take_le i xs
      exact ⟨ys, e, by omega⟩
    have len : (lawLet [.tuple []] (xs.take i)).length ≤ 8 := by
      rw [lawLet_len]
      have : (xs.take i).length ≤ 3 := Nat.le_trans (List.length_take_le i xs) (by omega)
      have : 2 ^ (xs.take i).length ≤ 2 ^ 3 := Nat.pow_le_pow_right (by decide) this
      simp only [List.length_cons, List.length_nil]
      omega
    refine wb_one (ws_set (i := 1) (d := .list (lawLet [.tuple []] (xs.take (i + 1)))) u4.s ?_ (fun v3 B3 H3 u3 d3 => hN _ B3 H3 u3.b u3.s ⟨(u'.trans u4).trans u3, v3, _, rfl, d3⟩) ndLLet)
    rw [take_succ_foldl hd']
    refine ee_op op_catL (rr_catL (by
      rw [List.length_map]
      have := List.length_filter_le (fun _ => true) (lawLet [.tuple []] (xs.take i))
      have : (lawLet [.tuple []] (xs.take i)).length + (List.filter (fun _ => true) (lawLet [.tuple []] (xs.take i))).length ≤ 16 := by omega
      exact Nat.le_trans this (by decide))) (ee_var (i := 1) rfl df') ?_
    refine ee_lc (own := [("letter", 3)]) (tjs := [3]) (pat := patN) (fun _ => true) (plusN d) rfl ndLLet (ei_lst (ee_var (i := 1) rfl df'))
      (blkOk_by (show blkC ["scope", "found", "name", "letter"] (defScope sLLet) _ [("letter", 3)] = true by decide +kernel))
      (fun s H C cl fp => eg_name ndLLet) (fun d hd => ⟨[d], rfl, rfl⟩) (fun vs hv => ?_) (fun B' d es vs lb hd he hv s H C cl fp => ets_nil) (fun B' d' es vs lb hd hb he hv s H C cl fp => ?_) (Nat.lt_of_le_of_lt len (by decide))
    · match vs, hv with
      | [a], _ => rfl
    · cases he
      obtain ⟨y, rfl, hy⟩ := ds1 (K := K) hv
      obtain ⟨ys, rfl, hk⟩ := t0 d' hd
      exact ee_op op_catA (rr_catT (by rw [List.length_cons, List.length_nil]; exact Nat.le_trans (show ys.length + (0 + 1) ≤ 4 by omega) (by decide))) (ee_var (i := 3) rfl hy) (ee_tup (ea_cons (ee_var (i := 2) rfl (Dt.le lb hx)) ea_nil) (by show 1 ≤ sizeLine; decide))
  · obtain ⟨u', vf, a, rfl, df⟩ := hI
    rw [List.take_length] at df
    exact wb_one (ws_ret (d := .list (lawLet [.tuple []] xs)) ls (ee_var (i := 1) rfl df) fun v B3 H3 u3 d3 => q v B3 H3 (u'.trans u3) d3)
end
end K0


set_option Elab.async false
set_option linter.all false
set_option maxRecDepth 100000
set_option maxHeartbeats 1000000
/-! Tk7: int(..), dicts that are read, stores in a cell. -/
namespace Tk
open PySem PySem.Spec PyProof.Rows L2 GxR Gx
variable [LamTab]
def rInt1 : List V → Hp → VK → Prop := fun xs H Q => (∃ i, xs = [V.int i] ∧ Q (.int i) H) ∨ ∃ k, xs = [V.bl k] ∧ Q (.int (if k = true then 1 else 0)) H
theorem c_int1 {X : Cx} : CallR X (.type "int") rInt1 := call_int1
theorem rc_int1 {K : PySem.W.Frag} {H : Hp} {i : Int} : RC1 K rInt1 H [.int i] (.int i) := fun B H1 l l1 vs hv Q q => by
  obtain ⟨v, rfl, h⟩ := ds1 hv
  cases h
  exact .inl ⟨i, rfl, q _ B H1 (Up.refl l1) (.int i)⟩
section
variable {X : Cx} {e a b : Expr} {es : List Expr} {σ : L2.St} {H : Hp} {d : PyData}
theorem ee_int1 {p pos : Pos} {i : Int} (BL : Blt X.mg) (ha : EE X e σ H (.int i)) (hg : Gl X "int" := by rfl) (he : starEach [e] X.env = (false, eval e X.env) :: starEach [] X.env := by rfl) :
    EE X (.Call (.Name "int" p) [e] [] pos) σ H (.int i) := ee_callTy c_int1 hg BL.int boot_int' rc_int1 (ea_cons ha ea_nil he) (by decide) (by decide) he rfl
/-- d["k"] -/
theorem ee_dget {A : Addr} {i : Nat} {x k : Str} {kvs : List (Key × V)} {v : V} {p1 p2 pos : Pos} {j : Nat} (hu : X.A.units + 64 < cLine) (hσ : σ[i]? = some (some (.ref A))) (hA : H A = some (.dK kvs)) (hk : valV kvs (.inr k) = some v) (hd : Dt X.K H v d) (hN : X.N[i]? = some x := by rfl) (hv : Vis X.env.scope x := by first | exact Or.inl rfl | exact Or.inr (Or.inl rfl) | exact Or.inr (Or.inr rfl)) (h1 : (x == ("__debug__" : Str)) = false := by decide) (h2 : (x == ("__classdict__" : Str)) = false := by decide) :
    EE X (.Subscript (.Name x p1) (.Constant (.str k) j p2) pos) σ H d := fun H1 l Q q => by
  have e : H1 A = some (.dK kvs) := l.keep A _ hA fun ps z => by cases z
  have g : DGet H1 A (kV (.inr k)) (some v) := by rw [← hk]; exact DGet.k e
  exact ⟨_, pe_dget (by omega) (pe_var hN hv h1 h2) pe_str (fun _ _ => rfl), _, hσ, A, v, rfl, g, q v H H1 (Up.refl l) hd⟩
end
theorem LeX.put {D : List Addr} {H H1 : Hp} {a : Addr} {o o0 : HO} (l : LeX D H H1) (ha : a ∈ D) (h0 : H1 a = some o0) (hn : ∀ ps, o0 ≠ .tbl ps) : LeX D H (upd H1 a o) :=
  ⟨fun x o' hx q n => by
    rw [upd_ne fun z => hx (by rw [z]; exact ha)]
    exact l.keep x o' hx q n, fun P t => by
    obtain ⟨ps, q1, q2⟩ := l.tab P t
    refine ⟨ps, ?_, q2⟩
    rw [upd_ne fun z => by rw [z, h0] at q1; exact hn ps (Option.some.inj q1)]
    exact q1, fun x q => by
    by_cases z : x = a
    · rw [z, upd_same] at q
      cases q
    · rw [upd_ne z] at q
      exact l.there x q⟩
theorem UpX.self {D : List Addr} {B H H' : Hp} (a : LeX D H H') (b : Le B H') : UpX D B H B H' := ⟨a, Le.refl B, b, fun x h => .inl h⟩
end Tk


set_option Elab.async false
set_option linter.all false
set_option maxRecDepth 100000
set_option maxHeartbeats 2000000
namespace K0
open PySem PySem.Spec PyProof.Rows L2 GxR Tk
variable [LamTab]
abbrev sMix : Stmt := t__law_mixed
def drK (lw lc : Addr) (r t : Int) : List (Key × V) := [(.inr "wide", .ref lw), (.inr "cells", .ref lc), (.inr "rest", .int r), (.inr "turn", .int t)]
def DJ (d lw lc : Addr) (n : Nat) (H : Hp) : Prop := ∃ (ws cs : List Int) (r t : Int), H d = some (.dK (drK lw lc r t)) ∧ H lw = some (.lst (ws.map V.int)) ∧ H lc = some (.lst (cs.map V.int)) ∧ 0 ≤ t ∧ t + n ≤ 2 ^ 40
theorem put_turn {lw lc : Addr} {r t t' : Int} : putK (drK lw lc r t) (.inr "turn") (.int t') = drK lw lc r t' := by rfl
theorem put_rest {lw lc : Addr} {r t r' : Int} : putK (drK lw lc r t) (.inr "rest") (.int r') = drK lw lc r' t := by rfl
theorem get_turn {lw lc : Addr} {r t : Int} : valV (drK lw lc r t) (.inr "turn") = some (.int t) := by rfl
theorem get_rest {lw lc : Addr} {r t : Int} : valV (drK lw lc r t) (.inr "rest") = some (.int r) := by rfl
theorem get_cells {lw lc : Addr} {r t : Int} : valV (drK lw lc r t) (.inr "cells") = some (.ref lc) := by rfl
theorem get_wide {lw lc : Addr} {r t : Int} : valV (drK lw lc r t) (.inr "wide") = some (.ref lw) := by rfl
theorem cells_DJ {d lw lc : Addr} : Cells [d, lw, lc] (DJ d lw lc) where
  at_ := fun n H ⟨ws, cs, r, t, h1, h2, h3, _⟩ a ha => by
    rcases List.mem_cons.mp ha with z | z
    · rw [z]; exact ⟨_, h1, fun ps z => by cases z⟩
    rcases List.mem_cons.mp z with z | z
    · rw [z]; exact ⟨_, h2, fun ps z => by cases z⟩
    · rw [List.mem_singleton.mp z]; exact ⟨_, h3, fun ps z => by cases z⟩
  le := fun n H H' ⟨ws, cs, r, t, h1, h2, h3, h4, h5⟩ l => ⟨ws, cs, r, t, l.keep d _ h1 (fun ps z => by cases z), l.keep lw _ h2 (fun ps z => by cases z), l.keep lc _ h3 (fun ps z => by cases z), h4, h5⟩
  less := fun n m H ⟨ws, cs, r, t, h1, h2, h3, h4, h5⟩ hm => ⟨ws, cs, r, t, h1, h2, h3, h4, by omega⟩
theorem hu1 {A : Around} {k : Nat} (r : Room k A) : A.units + 1 < cLine := by
  have := r.un
  omega
theorem ints_ds {K : PySem.W.Frag} {H : Hp} : ∀ cs : List Int, Ds K H (cs.map V.int) (cs.map PyData.int)
  | [] => .nil
  | c :: cs => .cons (.int c) (ints_ds cs)
section
variable {P : Program} {w : World} {K : PySem.W.Frag} {mg : Str → Option Value} {base : Heap} {f : Addr} {fd : FuncData} {T : List Addr} {d lw lc : Addr}
theorem scMix : FnScope ["draw", "turn", "found", "prime", "blend", "grain"] ["draw"] (defScope sMix) := ⟨rfl, rfl, rfl, by decide +kernel, rfl, by decide +kernel, by decide +kernel⟩
theorem ndMix : List.Nodup (["draw", "turn", "found", "prime", "blend", "grain"] : List Str) := by decide +kernel
theorem prime_of {i : Nat} {x : PyData} (h : ([.int 2147483647, .int 2147483629, .int 2147483587, .int 2147483579] : List PyData)[i]? = some x) : ∃ p : Int, x = .int p ∧ 0 < p ∧ p < 2147483648 := by
  have m := List.mem_of_getElem? h
  simp only [List.mem_cons, List.not_mem_nil, or_false] at m
  rcases m with rfl | rfl | rfl | rfl
  · exact ⟨_, rfl, by decide, by decide⟩
  · exact ⟨_, rfl, by decide, by decide⟩
  · exact ⟨_, rfl, by decide, by decide⟩
  · exact ⟨_, rfl, by decide, by decide⟩
theorem ok_mix (BL : Blt mg) (hTD : ∀ a ∈ [d, lw, lc], a ∉ T) (F : L2.Fun K "_law_mixed" "_law_mixed" sMix f fd) : FnOk P w K mg base CX0 1 f fd ["draw"] (spJ K T [d, lw, lc] (DJ d lw lc) (.ref d) 0 1 (· = []) (fun _ r => ∃ i, r = .int i)) := by
  refine fn_draw hTD F scMix rfl fun cdv A outer s H vs B ds m Q E hr hcd t l ap j hd hl hp q => ?_
  have e0 : vs = [] := List.eq_nil_of_length_eq_zero hl
  subst e0
  obtain ⟨ws, cs, r, t0, hH, hw, hc, h0, hb⟩ := j
  have hu := hu64 hr
  refine wb_cons ⟨_, ps_par (i := 1) (j := 2) rfl ndMix rfl rfl (by decide) rfl rfl pa_w rfl, ?_⟩
  refine (ea_cons (ee_op op_add rr_add (ee_dget (i := 0) hu rfl hH get_turn (.int t0)) ee_int) (ea_cons ee_int ea_nil)) H (Le.refl H) _ fun us B1 H1 u1 dus => ?_
  obtain ⟨x, y, rfl, dx, dy⟩ := ds2 (K := K) dus
  cases dx
  cases dy
  refine ⟨_, _, rfl, ?_⟩
  refine wb_cons ⟨_, ps_dput (hu1 hr) (pe_var (i := 0) rfl (Or.inl rfl)) pe_str (pe_var (i := 1) rfl (Or.inl rfl)) rfl, _, rfl, _, rfl, d, _, rfl, DPut.k (k := .inr "turn") (u1.h.keep d _ hH (fun ps z => by cases z)) (by show 4 < sizeLine; decide), ?_⟩
  rw [put_turn]
  have hHd : H1 d = some (.dK (drK lw lc r t0)) := u1.h.keep d _ hH (fun ps z => by cases z)
  have hdD : d ∈ [d, lw, lc] := List.mem_cons_self
  have lx : LeX [d, lw, lc] H (upd H1 d (.dK (drK lw lc r (t0 + 1)))) := LeX.put (.of u1.h) hdD hHd fun ps z => by cases z
  have lb : Le B (upd H1 d (.dK (drK lw lc r (t0 + 1)))) := (l.trans u1.h).mut (ap d hdD)
  have hlw : lw ≠ d := ne_of (H := H) hw hH (by intro z; cases z)
  have hlc : lc ≠ d := ne_of (H := H) hc hH (by intro z; cases z)
  have hw4 : (upd H1 d (.dK (drK lw lc r (t0 + 1)))) lw = some (.lst (ws.map V.int)) := by rw [upd_ne hlw]; exact u1.h.keep lw _ hw (fun ps z => by cases z)
  have hc4 : (upd H1 d (.dK (drK lw lc r (t0 + 1)))) lc = some (.lst (cs.map V.int)) := by rw [upd_ne hlc]; exact u1.h.keep lc _ hc (fun ps z => by cases z)
  have hd4 : (upd H1 d (.dK (drK lw lc r (t0 + 1)))) d = some (.dK (drK lw lc r (t0 + 1))) := upd_same
  have j4 : DJ d lw lc m (upd H1 d (.dK (drK lw lc r (t0 + 1)))) := ⟨ws, cs, r, t0 + 1, hd4, hw4, hc4, by omega, by omega⟩
  generalize upd H1 d (.dK (drK lw lc r (t0 + 1))) = H4 at lx lb hw4 hc4 hd4 j4 ⊢
  have ht : 0 ≤ t0 + 1 ∧ t0 + 1 ≤ 2 ^ 40 := by omega
  generalize t0 + 1 = t1 at hd4 ht ⊢
  refine wb_cons (ws_for (B := H4) (tjs := [3]) (pat := patN) (ds := [.int 2147483647, .int 2147483629, .int 2147483587, .int 2147483579]) (Le.refl H4) (ei_lst (ee_lst (ea_cons ee_int (ea_cons ee_int (ea_cons ee_int (ea_cons ee_int ea_nil)))) (by show 4 ≤ sizeLine; decide))) (eg_name ndMix) (fun d hd => ⟨[d], rfl⟩) PassesOwn.never rfl
    (fun i σ' B' H' => ∃ g a b c, σ' = [some (.ref d), some (.int t1), some (.int g), a, b, c]) (fun B' H' u => ⟨0, _, _, _, rfl⟩) (fun i e es vs σ' B' H' B'' H'' hi hd' lb' hI u4 he dvs N hN => ?_) fun σ' B' H' lb' ls hI => ?_)
  · obtain ⟨g, a, b, c, rfl⟩ := hI
    obtain ⟨p, rfl, p1, p2⟩ := prime_of hd'
    cases he
    obtain ⟨x, rfl, hx⟩ := ds1 (K := K) dvs
    cases hx
    have lb2 := lb'.trans u4.b
    refine wb_cons (ws_set (i := 4) (d := .int (48271 * t1 + p / 37)) u4.s (ee_op op_add rr_add (ee_op op_mul (rr_I (.inl ⟨by decide, by decide⟩)) ee_int (ee_var (i := 1) rfl (.int t1))) (ee_op op_fdiv (rr_I ⟨by decide, by decide⟩) (ee_var (i := 3) rfl (.int p)) ee_int)) (fun v5 B5 H5 u5 d5 => ?_) ndMix)
    cases d5
    have lb5 := lb2.trans u5.b
    have k0 : 0 ≤ 48271 * t1 + p / 37 ∧ 48271 * t1 + p / 37 < 2 ^ 60 := by omega
    refine wb_cons (ws_for (B := B5) (tjs := [5]) (pat := patN) (ds := cs.map PyData.int) u5.s (ei_lst (ee_dget (i := 0) hu rfl (lb5.keep d _ hd4 (fun ps z => by cases z)) get_cells (.new_lst (lb5.keep lc _ hc4 (fun ps z => by cases z)) (ints_ds cs)))) (eg_name ndMix) (fun d hd => ⟨[d], rfl⟩) PassesOwn.never rfl
      (fun i σ' B' H' => ∃ z c, σ' = [some (.ref d), some (.int t1), some (.int g), some (.int p), some (.int z), c] ∧ 0 ≤ z ∧ z < 2 ^ 60) (fun B' H' u => ⟨_, _, rfl, k0.1, k0.2⟩) (fun i e es vs σ' B' H' B'' H'' hi hd' lb' hI u4 he dvs N hN => ?_) fun σ' B' H' lb' ls hI => ?_)
    · obtain ⟨z, c, rfl, z1, z2⟩ := hI
      obtain ⟨y, hy, rfl⟩ := List.mem_map.mp (List.mem_of_getElem? hd')
      cases he
      obtain ⟨x, rfl, hx⟩ := ds1 (K := K) dvs
      cases hx
      refine wb_one (ws_set (i := 4) (d := .int ((z * 69621 + y + t1) % p)) u4.s (ee_op op_mod (rr_I p1) (ee_int1 BL (ee_op op_add rr_add (ee_op op_add rr_add (ee_op op_mul (rr_I (.inr ⟨by decide, by decide⟩)) (ee_var (i := 4) rfl (.int z)) ee_int) (ee_var (i := 5) rfl (.int y))) (ee_var (i := 1) rfl (.int t1)))) (ee_var (i := 3) rfl (.int p))) (fun v6 B6 H6 u6 d6 => ?_) ndMix)
      cases d6
      refine hN _ B6 H6 u6.b u6.s ⟨_, _, rfl, Int.emod_nonneg _ (by omega), ?_⟩
      have := Int.emod_lt_of_pos (z * 69621 + y + t1) p1
      omega
    · obtain ⟨z, c, rfl, z1, z2⟩ := hI
      have lb6 := lb5.trans lb'
      refine wb_one (ws_set (i := 2) (d := .int (g * 2147483647 + z ^ (5 : Int).toNat % p)) ls (ee_op op_add rr_add (ee_op op_mul (rr_I (.inr ⟨by decide, by decide⟩)) (ee_var (i := 2) rfl (.int g)) ee_int) (ee_op op_mod (rr_I p1) (ee_int1 BL (ee_op op_pow (rr_I ⟨by decide, by decide, by omega⟩) (ee_var (i := 4) rfl (.int z)) ee_int)) (ee_var (i := 3) rfl (.int p)))) (fun v7 B7 H7 u7 d7 => ?_) ndMix)
      cases d7
      exact hN _ B7 H7 ((u5.b.trans lb').trans u7.b) u7.s ⟨_, _, _, _, rfl⟩
  · obtain ⟨g, a, b, c, rfl⟩ := hI
    refine wb_one (ws_ret (d := .int g) ls (ee_var (i := 2) rfl (.int g)) fun v B3 H3 u3 d3 => ?_)
    have e4 : Le H4 H3 := ((lb'.trans u3.b).trans u3.s)
    exact q v (.int g) B H3 (UpX.self (lx.trans (.of e4)) (lb.trans e4)) (cells_DJ.le m _ _ j4 e4) (by cases d3; exact .int g) ⟨g, rfl⟩
end
end K0


set_option Elab.async false
set_option linter.all false
set_option maxRecDepth 100000
set_option maxHeartbeats 2000000
namespace K0
open PySem PySem.Spec PyProof.Rows L2 GxR Tk
variable [LamTab]
abbrev sTake : Stmt := t__law_take
theorem ints_lay : ∀ cs : List Int, PyData.canLayAll0 (cs.map PyData.int) = true
  | [] => by simp only [List.map_nil, PyData.canLayAll0]
  | c :: cs => by
    simp only [List.map_cons, PyData.canLayAll0, PyData.canLay0, Bool.true_and]
    exact ints_lay cs
theorem ints_depth : ∀ cs : List Int, PyData.depthAll (cs.map PyData.int) = 0
  | [] => by simp only [List.map_nil, PyData.depthAll]
  | c :: cs => by
    simp only [List.map_cons, PyData.depthAll, PyData.depth, ints_depth cs]
    rfl
theorem ints_shaped (cs : List Int) : SeqAt.shaped (.list (cs.map PyData.int)) = true := by
  unfold SeqAt.shaped
  rw [Bool.and_eq_true]
  refine ⟨?_, ?_⟩
  · simp only [PyData.canLay0]
    exact ints_lay cs
  · simp only [PyData.depth, ints_depth cs]
    decide
theorem ints_noDicts : ∀ cs : List Int, noDicts (cs.map PyData.int) = true
  | [] => rfl
  | c :: cs => by
    show (noDict (PyData.int c) && noDicts (cs.map PyData.int)) = true
    rw [ints_noDicts cs]
    rfl
/-- what is drawn -/
def takeP (ds : List PyData) : Prop := ∃ m : Int, ds = [.int m] ∧ 0 < m ∧ m < 1000000
def takeR (ds : List PyData) (r : PyData) : Prop := ∃ m i : Int, ds = [.int m] ∧ r = .int i ∧ 0 ≤ i ∧ i < m
section
variable {P : Program} {w : World} {K : PySem.W.Frag} {mg : Str → Option Value} {base : Heap} {f : Addr} {fd : FuncData} {T : List Addr} {d lw lc : Addr}
abbrev KnJ (P : Program) (w : World) (K : PySem.W.Frag) (mg : Str → Option Value) (base : Heap) (lv : Nat) (x : Str) (ps : List Str) (T : List Addr) (d lw lc : Addr) (k n : Nat) (pre : List PyData → Prop) (R : List PyData → PyData → Prop) : Prop :=
  Kn P w K mg base lv x ps (spJ K T [d, lw, lc] (DJ d lw lc) (.ref d) k n pre R)
theorem scTake : FnScope ["draw", "many", "found"] ["draw", "many"] (defScope sTake) := ⟨rfl, rfl, rfl, by decide +kernel, rfl, by decide +kernel, by decide +kernel⟩
theorem ndTake : List.Nodup (["draw", "many", "found"] : List Str) := by decide +kernel
theorem dj_put {m : Nat} {H H1 : Hp} {ws cs : List Int} {r t r' : Int} (h1 : H1 d = some (.dK (drK lw lc r t))) (h2 : H1 lw = some (.lst (ws.map V.int))) (h3 : H1 lc = some (.lst (cs.map V.int))) (h4 : 0 ≤ t) (h5 : t + m ≤ 2 ^ 40) (hx : LeX [d, lw, lc] H H1) {B : Hp} (lb : Le B H1) (ap : Apt [d, lw, lc] B) :
    LeX [d, lw, lc] H (upd H1 d (.dK (drK lw lc r' t))) ∧ Le B (upd H1 d (.dK (drK lw lc r' t))) ∧ DJ d lw lc m (upd H1 d (.dK (drK lw lc r' t))) := by
  refine ⟨hx.put List.mem_cons_self h1 (fun ps z => by cases z), lb.mut (ap d List.mem_cons_self), ws, cs, r', t, upd_same, ?_, ?_, h4, h5⟩
  · rw [upd_ne (ne_of (H := H1) h2 h1 (by intro z; cases z))]
    exact h2
  · rw [upd_ne (ne_of (H := H1) h3 h1 (by intro z; cases z))]
    exact h3
theorem ok_take (BL : Blt mg) (hTD : ∀ a ∈ [d, lw, lc], a ∉ T) (hne : lw ≠ lc) (Fmix : KnJ P w K mg base 1 "_law_mixed" ["draw"] T d lw lc 0 1 (· = []) (fun _ r => ∃ i, r = .int i)) (F : L2.Fun K "_law_take" "_law_take" sTake f fd) :
    FnOk P w K mg base CX0 2 f fd ["draw", "many"] (spJ K T [d, lw, lc] (DJ d lw lc) (.ref d) 1 1 takeP takeR) := by
  refine fn_draw hTD F scTake rfl fun cdv A outer s H vs B ds m Q E hr hcd t l ap j hd hl hp q => ?_
  obtain ⟨many, rfl, hm0, hm1⟩ := hp
  obtain ⟨v1, rfl, h1⟩ := ds1 (K := K) hd
  cases h1
  have hu := hu64 hr
  have rest : ∀ H', LeX [d, lw, lc] H H' → Le B H' → DJ d lw lc m H' → WB (cxOf CX0 P w K mg base ["draw", "many", "found"] "_law_take" (defScope sTake) f cdv A outer s H E).nox ((defBody sTake).drop 1) { nx := fun _ H' => Q .non H', rt := Q } (start ["draw", "many", "found"] [.ref d, .int many]) H' := fun H' lx lb j' => by
    obtain ⟨ws, cs, r, t0, hH, hw, hc, h0, hb⟩ := id j'
    refine wb_cons (ws_set (i := 2) (d := .int (r % many)) (Le.refl H') (ee_op op_mod (rr_I hm0) (ee_int1 BL (ee_dget (i := 0) hu rfl hH get_rest (.int r))) (ee_var (i := 1) rfl (.int many))) (fun v5 B5 H5 u5 d5 => ?_) ndTake)
    cases d5
    have hH5 : H5 d = some (.dK (drK lw lc r t0)) := u5.h.keep d _ hH (fun ps z => by cases z)
    refine wb_cons ⟨_, ps_dput (hu1 hr) (pe_var (i := 0) rfl (Or.inl rfl)) pe_str pe_w rfl, (ee_op op_fdiv (rr_I ⟨hm0, by omega⟩) (ee_dget (i := 0) hu rfl hH5 get_rest (.int r)) (ee_var (i := 1) rfl (.int many))) H5 (Le.refl _) _ fun v6 B6 H6 u6 d6 => ⟨_, rfl, d, _, rfl, DPut.k (k := .inr "rest") (u6.h.keep d _ hH5 (fun ps z => by cases z)) (by show 4 < sizeLine; decide), ?_⟩⟩
    cases d6
    rw [put_rest]
    have k6 : ∀ {a : Addr} {xs : List V}, H' a = some (.lst xs) → H6 a = some (.lst xs) := fun e => (u5.h.trans u6.h).keep _ _ e (fun ps z => by cases z)
    obtain ⟨x1, x2, x3⟩ := dj_put (m := m) (r' := r / many) (u6.h.keep d _ hH5 (fun ps z => by cases z)) (k6 hw) (k6 hc) h0 hb (lx.trans (.of (u5.h.trans u6.h))) (lb.trans (u5.h.trans u6.h)) ap
    generalize upd H6 d (.dK (drK lw lc (r / many) t0)) = H7 at x1 x2 x3 ⊢
    refine wb_one (ws_ret (B := B) (d := .int (r % many)) x2 (ee_var (i := 2) rfl (.int _)) fun v B3 H3 u3 d3 => q v _ B3 H3 ((UpX.self x1 x2).trans cells_DJ x3 (.of u3)) (cells_DJ.le m _ _ x3 u3.h) d3 ⟨many, _, rfl, rfl, Int.emod_nonneg _ (by omega), Int.emod_lt_of_pos _ hm0⟩)
  obtain ⟨ws, cs, r, t0, hH, hw, hc, h0, hb⟩ := id j
  refine wb_cons (ws_if (B := H) (k := decide (r = 0)) (Le.refl H) (et_cmp op_eq rr_eqI (ee_dget (i := 0) hu rfl hH get_rest (.int r)) ee_int) (fun _ H1 l1 => ?_) fun _ H1 l1 => wb_nil (rest H1 (.of l1) (l.trans l1) (cells_DJ.less _ _ _ (cells_DJ.le _ _ _ j l1) (by omega))))
  have hH1 : H1 d = some (.dK (drK lw lc r t0)) := l1.keep d _ hH (fun ps z => by cases z)
  have hw1 : H1 lw = some (.lst (ws.map V.int)) := l1.keep lw _ hw (fun ps z => by cases z)
  have hc1 : H1 lc = some (.lst (cs.map V.int)) := l1.keep lc _ hc (fun ps z => by cases z)
  refine wb_one ⟨_, ps_dput (hu1 hr) (pe_var (i := 0) rfl (Or.inl rfl)) pe_str (pe_ifExp pt_w pe_w pe_w) rfl, ?_⟩
  refine (et_cmp (op_neD hu) (rr_neD (d := .list (ws.map PyData.int)) (e := .list []) (ints_noDicts ws) rfl (ints_shaped ws) (by decide)) (ee_dget (i := 0) hu rfl hH1 get_wide (.new_lst hw1 (ints_ds ws))) (ee_lst ea_nil (by decide))) H1 (Le.refl _) _ fun H2 l2 => ?_
  have j2 : DJ d lw lc (m + (0 + 1)) H2 := cells_DJ.le _ _ _ j (l1.trans l2)
  have hH2 : H2 d = some (.dK (drK lw lc r t0)) := l2.keep d _ hH1 (fun ps z => by cases z)
  have hw2 : H2 lw = some (.lst (ws.map V.int)) := l2.keep lw _ hw1 (fun ps z => by cases z)
  have hc2 : H2 lc = some (.lst (cs.map V.int)) := l2.keep lc _ hc1 (fun ps z => by cases z)
  have lb2 : Le B H2 := l.trans (l1.trans l2)
  have lx2 : LeX [d, lw, lc] H H2 := .of (l1.trans l2)
  split
  · rename_i hk
    cases ws with
    | nil => exact absurd hk (by decide)
    | cons w0 ws' =>
      refine ⟨_, pe_bm PySem.F.plainAttrs_list PySem.F.slot_list_pop PySem.F.type_list_pop mt_popAt (pe_dget (hu1 hr) (pe_var (i := 0) rfl (Or.inl rfl)) pe_str (fun _ _ => rfl)) (pa_cons pe_int pa_nil), _, rfl, d, .ref lw, rfl, ?_, .inl ⟨rfl, _, SqL.of hw2⟩, lw, _, 0, 0, .int w0, rfl, rfl, hw2, by decide, by decide, (by rw [List.length_map, List.length_cons]; unfold seqIndex?; simp), rfl, ?_⟩
      · have := DGet.k (k := .inr "wide") hH2
        rw [get_wide] at this
        exact this
      have lx3 : LeX [d, lw, lc] H (upd H2 lw (.lst (((w0 :: ws').map V.int).eraseIdx 0))) := lx2.put (List.mem_cons_of_mem _ List.mem_cons_self) hw2 fun ps z => by cases z
      have lb3 : Le B (upd H2 lw (.lst (((w0 :: ws').map V.int).eraseIdx 0))) := lb2.mut (ap lw (List.mem_cons_of_mem _ List.mem_cons_self))
      have hw3 : (upd H2 lw (.lst (((w0 :: ws').map V.int).eraseIdx 0))) lw = some (.lst (ws'.map V.int)) := upd_same
      have hH3 : (upd H2 lw (.lst (((w0 :: ws').map V.int).eraseIdx 0))) d = some (.dK (drK lw lc r t0)) := by rw [upd_ne (ne_of (H := H2) hH2 hw2 (by intro z; cases z))]; exact hH2
      have hc3 : (upd H2 lw (.lst (((w0 :: ws').map V.int).eraseIdx 0))) lc = some (.lst (cs.map V.int)) := by rw [upd_ne (fun z => hne z.symm)]; exact hc2
      generalize upd H2 lw (.lst (((w0 :: ws').map V.int).eraseIdx 0)) = H3 at lx3 lb3 hw3 hH3 hc3 ⊢
      refine ⟨_, rfl, d, _, rfl, DPut.k (k := .inr "rest") hH3 (by show 4 < sizeLine; decide), ?_⟩
      rw [put_rest]
      obtain ⟨x1, x2, x3⟩ := dj_put (m := m) (r' := w0) hH3 hw3 hc3 h0 (by omega) lx3 lb3 ap
      exact rest _ x1 x2 x3
  · refine (ej_call cells_DJ Fmix hr (by decide) t (i := 0) rfl eaj_nil (fun ds h => ⟨h, by rw [h]; rfl⟩)) m H2 lb2 ap j2 _ fun v e B3 H3 u3 j3 dv re => ?_
    obtain ⟨_, _, i, rfl⟩ := re
    cases dv
    obtain ⟨ws3, cs3, r3, t3, g1, g2, g3, g4, g5⟩ := id j3
    refine ⟨_, rfl, d, _, rfl, DPut.k (k := .inr "rest") g1 (by show 4 < sizeLine; decide), ?_⟩
    rw [put_rest]
    obtain ⟨x1, x2, x3⟩ := dj_put (m := m) (r' := i) g1 g2 g3 g4 g5 (lx2.trans u3.h) (u3.b.trans u3.s) ap
    exact rest _ x1 x2 x3
end
end K0


set_option Elab.async false
set_option linter.all false
set_option maxRecDepth 100000
set_option maxHeartbeats 1000000
/-! Tk8: list comprehensions whose elements draw. -/
namespace Tk
open PySem PySem.Spec PyProof.Rows L2 GxR Gx
variable [LamTab]
theorem Le.add {B H : Hp} {p : Addr} {o : HO} (l : Le B H) (h : H p = some o) (n : ∀ ps, o ≠ .tbl ps) : Le (upd B p o) H :=
  ⟨fun a u q k => by
    by_cases z : a = p
    · rw [z, upd_same] at q
      rw [z, h]
      exact q
    · rw [upd_ne z] at q
      exact l.keep a u q k, fun P t => by
    obtain ⟨ps, q1, q2⟩ := t
    by_cases z : P = p
    · rw [z, upd_same] at q1
      exact absurd (Option.some.inj q1) (n ps)
    · rw [upd_ne z] at q1
      exact l.tab P ⟨ps, q1, q2⟩, fun a q => by
    by_cases z : a = p
    · rw [z, h] at q
      cases q
    · rw [upd_ne z]
      exact l.there a q⟩
theorem LeX.mut {D : List Addr} {H H1 : Hp} {p : Addr} {o : HO} (l : LeX D H H1) (h : H p = none) : LeX D H (upd H1 p o) :=
  ⟨fun a u hx q n => by
    rw [upd_ne fun z => by rw [z, h] at q; cases q]
    exact l.keep a u hx q n, fun P t => by
    obtain ⟨ps, q1, q2⟩ := l.tab P t
    refine ⟨ps, ?_, q2⟩
    obtain ⟨ps0, r1, _⟩ := t
    rw [upd_ne fun z => by rw [z, h] at r1; cases r1]
    exact q1, fun a q => by
    by_cases z : a = p
    · rw [z, upd_same] at q
      cases q
    · rw [upd_ne z] at q
      exact l.there a q⟩
theorem yes_read {σ : L2.St} {H : Hp} {Q : Bool → Hp → Prop} (h : Q true H) : tYes σ H Q := h
def Off (D : List Addr) (J : Nat → Hp → Prop) : Prop := ∀ n H p o, J n H → p ∉ D → J n (upd H p o)
section
variable {X : Cx} {tg iter elt : Expr} {scope : Scope} {own : List (Str × Nat)} {pos : Pos} {σ : L2.St} {B : Hp} {tjs : List Nat} {pat : PyData → Option (List PyData)} {D : List Addr} {J : Nat → Hp → Prop}
/-- a walk that may draw -/
def EIJ (X : Cx) (D : List Addr) (J : Nat → Hp → Prop) (tg iter : Expr) (σ : L2.St) (B : Hp) (n : Nat) (RI : List PyData → Prop) : Prop := ∀ m H1, Le B H1 → Apt D B → J (m + n) H1 → ∀ R : It → Hp → Prop, (∀ Jt B2 H2 ds, UpX D B H1 B2 H2 → J m H2 → Walk X.K Jt B2 ds → RI ds → R Jt H2) → WI X tg iter σ H1 R
theorem eij_pure (C : Cells D J) {ds : List PyData} (h : EI X tg iter σ B ds) : EIJ X D J tg iter σ B 0 (· = ds) := fun m H1 l ap j R q => h H1 l R fun Jt B2 H2 u w => q Jt B2 H2 ds (.of u) (C.le _ _ _ j u.h) w rfl
theorem eij_lst {n : Nat} {R : List PyData → Prop} (h : EJ X D J iter σ B n (fun d => ∃ ds, d = .list ds ∧ R ds)) : EIJ X D J tg iter σ B n R := fun m H1 l ap j R' q => ⟨_, pi_list pe_w, h m H1 l ap j _ fun v d B2 H2 u jj dv r => by
  obtain ⟨ds, rfl, r⟩ := r
  cases dv with
  | lst s t h0 =>
    refine ⟨_, rfl, ⟨_, sqL_le u.s s⟩, q _ B2 H2 ds u jj (fun B' H' l1 l2 => ⟨fun i hi => ?_, ⟨_, sqL_le (l1.trans l2) s, Nat.le_of_eq h0.length⟩, fun i x H'' hi hy => ?_⟩) r⟩
    · obtain ⟨v, h1, _⟩ := h0.get (List.getElem?_eq_getElem hi)
      exact ⟨_, v, sqL_le (l1.trans l2) s, h1⟩
    · obtain ⟨e1, hy⟩ := hy
      subst e1
      obtain ⟨d, h1, h2⟩ := h0.getV (hy _ (sqL_le (l1.trans l2) s))
      exact ⟨B', d, Up.refl l2, h1, Dt.le l1 h2⟩⟩
/-- each of both lists -/
inductive Both (R : PyData → PyData → Prop) : List PyData → List PyData → Prop
  | nil : Both R [] []
  | cons {a b as bs} : R a b → Both R as bs → Both R (a :: as) (b :: bs)
theorem Both.snoc {R : PyData → PyData → Prop} : ∀ {as bs : List PyData} {a b : PyData}, Both R as bs → R a b → Both R (as ++ [a]) (bs ++ [b])
  | _, _, _, _, .nil, h => .cons h .nil
  | _, _, _, _, .cons r t, h => .cons r (t.snoc h)
theorem Both.length {R : PyData → PyData → Prop} : ∀ {as bs : List PyData}, Both R as bs → as.length = bs.length
  | _, _, .nil => rfl
  | _, _, .cons _ t => by rw [List.length_cons, List.length_cons, t.length]
theorem Both.mem {R : PyData → PyData → Prop} : ∀ {as bs : List PyData} {b : PyData}, Both R as bs → b ∈ bs → ∃ a ∈ as, R a b
  | _, _, _, .nil, h => by cases h
  | _, _, _, .cons r t, h => by
    rcases List.mem_cons.mp h with z | z
    · rw [z]; exact ⟨_, List.mem_cons_self, r⟩
    · obtain ⟨a, ha, hr⟩ := t.mem z
      exact ⟨a, List.mem_cons_of_mem _ ha, hr⟩
abbrev tokJ (X : Cx) (tg iter elt : Expr) (scope : Scope) (own : List (Str × Nat)) : TE := tLc (WI X tg iter) (fun v σ H Q => ∀ s H0 C cl fp, WG (blkX X s H0 scope C cl fp) tg v σ H Q) (fun σ H Q => ∀ s H0 C cl fp, WTs (blkX X s H0 scope C cl fp) [] σ H Q) (fun σ H Q => ∀ s H0 C cl fp, WE (blkX X s H0 scope C cl fp) elt σ H Q) (own.map (·.2))
theorem lcJ_read {n1 n2 k : Nat} {RI : List PyData → Prop} {RE : PyData → PyData → Prop} (C : Cells D J) (O : Off D J) (hc : X.calm = true) (nd : X.N.Nodup) (hi : EIJ X D J tg iter σ B n1 RI) (hk : ∀ ds, RI ds → ds.length ≤ k) (hks : k < sizeLine)
    (hg : ∀ s H C cl fp, EG (blkX X s H scope C cl fp) tg tjs pat) (hpat : ∀ ds, RI ds → ∀ d ∈ ds, ∃ es, pat d = some es ∧ es.length = tjs.length)
    (hw : ∀ vs : List V, vs.length = tjs.length → wipe (setsS (wipe σ (own.map (·.2))) tjs vs) (own.map (·.2)) = wipe σ (own.map (·.2)))
    (body : ∀ B' ds d es vs, Le B B' → RI ds → d ∈ ds → pat d = some es → Ds X.K B' vs es → ∀ s H C cl fp, EJ (blkX X s H scope C cl fp) D J elt (setsS (wipe σ (own.map (·.2))) tjs vs) B' n2 (RE d)) :
    ∀ m H1, Le B H1 → Apt D B → J (m + (n1 + k * n2)) H1 → ∀ Q : VK, (∀ A acc B2 H2 ds rs, H1 A = none → UpX D B H1 B2 H2 → J m H2 → B2 A = some (.lst acc) → H2 A = some (.lst acc) → Ds X.K B2 acc rs → RI ds → Both RE ds rs → Q (.ref A) H2) → tokJ X tg iter elt scope own σ H1 Q := fun m H1 l ap j Q q => by
  refine hi (m + k * n2) H1 l ap (by rw [show m + k * n2 + n1 = m + (n1 + k * n2) by omega]; exact j) _ fun Jt B2 H2 ds u2 j2 wk ri A hA => ?_
  have hlen := hk ds ri
  have hA1 : H1 A = none := u2.h.there A hA
  have hAD : A ∉ D := fun z => by
    obtain ⟨o, e, _⟩ := C.at_ _ H2 j2 A z
    rw [hA] at e
    cases e
  have hB2A : B2 A = none := u2.s.there A hA
  refine ⟨fun i mm H' => mm = ds.length - i ∧ i ≤ ds.length ∧ ∃ B' acc rs, Le B2 B' ∧ UpX D B H1 B' H' ∧ J (m + (k - i) * n2) H' ∧ B' A = none ∧ H' A = some (.lst acc) ∧ Ds X.K B' acc rs ∧ Both RE (ds.take i) rs, ⟨ds.length, rfl, Nat.zero_le _, B2, [], [], Le.refl _, ⟨u2.h.trans (.of (Le.new hA)), u2.b, u2.s.trans (Le.new hA), u2.n⟩, C.le _ _ _ j2 (Le.new hA), hB2A, upd_same, .nil, by rw [List.take_zero]; exact .nil⟩, ?_⟩
  rintro i mm H' ⟨rfl, hi', B', acc, rs, lb, u', jj, hBA, hacc, dacc, rr⟩
  obtain ⟨w1, w2, w3⟩ := wk B' H' lb u'.s
  by_cases hlt : i < ds.length
  · refine .inr ⟨w1 i hlt, fun H'' => ∃ B'' acc' rs', Le B2 B'' ∧ UpX D B H1 B'' H'' ∧ J (m + (k - (i + 1)) * n2) H'' ∧ B'' A = none ∧ H'' A = some (.lst acc') ∧ Ds X.K B'' acc' rs' ∧ Both RE (ds.take (i + 1)) rs', fun H'' h => ⟨ds.length - (i + 1), by omega, rfl, hlt, h⟩, fun x H4 hy => ?_⟩
    obtain ⟨B4, d, u4, hd, dx⟩ := w3 i x H4 hlt hy
    have hmem : d ∈ ds := List.mem_of_getElem? hd
    obtain ⟨es, hes, hel⟩ := hpat ds ri d hmem
    have hB4A : B4 A = none := by
      cases h : B4 A with
      | none => rfl
      | some o =>
        rcases u4.n A (by rw [h]; simp) with y | y | ⟨⟨ps, y⟩, _⟩
        · exact absurd hBA y
        · rw [hacc] at y; cases y
        · rw [hacc] at y; cases y
    have hH4A : H4 A = some (.lst acc) := u4.h.keep A _ hacc fun ps z => by cases z
    intro s H0 C' cl fp
    refine hg s H0 C' cl fp x d es _ B4 H4 u4.s dx hes _ fun vs dvs => ?_
    have hvl : vs.length = tjs.length := by rw [dvs.length, hel]
    refine ⟨hw vs hvl, fun s H0 C' cl fp => ⟨_, pts_nil, ?_⟩⟩
    have ta : ds.take (i + 1) = ds.take i ++ [d] := by rw [List.take_add_one, hd]; rfl
    have j4 := C.le _ _ _ jj u4.h
    have u5 : UpX D B H1 B4 H4 := u'.trans C jj (.of u4)
    refine yes_read ((if_pos rfl).mpr ?_)
    intro s H0 C' cl fp
    have lb4 : Le B B4 := u5.b
    have ap4 : Apt D B4 := u5.apt C j ap
    have kk : k - i = (k - (i + 1)) + 1 := by omega
    refine body B4 ds d es vs lb4 ri hmem hes dvs s H0 C' cl fp (m + (k - (i + 1)) * n2) H4 u5.s ap4 (by rw [kk, Nat.add_mul, Nat.one_mul, ← Nat.add_assoc] at j4; exact j4) _ fun v r B6 H6 u6 j6 dv re => ?_
    have hB6A : B6 A = none := by
      cases h : B6 A with
      | none => rfl
      | some o =>
        rcases u6.n A (by rw [h]; simp) with y | y | ⟨⟨ps, y⟩, _⟩
        · exact absurd hB4A y
        · rw [hH4A] at y; cases y
        · rw [hH4A] at y; cases y
    have hlen2 : acc.length < sizeLine := by
      have e1 := dacc.length
      have e2 := rr.length
      rw [List.length_take] at e2
      omega
    have u7 := u5.trans C j4 u6
    refine ⟨acc, u6.h.keep A _ hAD hH4A (fun ps z => by cases z), hlen2, B6, acc ++ [v], rs ++ [r], (lb.trans u4.b).trans u6.b, ⟨u7.h.mut hA1, u7.b, u7.s.mut hB6A, u7.n⟩, O _ _ _ _ j6 hAD, hB6A, upd_same, (Ds.le (u4.b.trans u6.b) dacc).snoc dv, ?_⟩
    rw [ta]
    exact rr.snoc re
  · have ei : i = ds.length := by omega
    subst ei
    rw [List.take_length] at rr
    refine .inl ⟨w2, ?_⟩
    have hs8 : Le (upd B' A (.lst acc)) H' := u'.s.add hacc (fun ps z => by cases z)
    have u8 : UpX D B H1 (upd B' A (.lst acc)) H' := ⟨u'.h, u'.b.trans (Le.new hBA), hs8, fun a qa => by
      by_cases z : a = A
      · rw [z]
        exact .inr (.inl hA1)
      · rw [upd_ne z] at qa
        exact u'.n a qa⟩
    exact q A acc _ _ ds rs hA1 u8 (C.less _ _ _ jj (by omega)) upd_same hacc (Ds.le (Le.new hBA) dacc) ri rr
theorem ej_lc {n1 n2 k : Nat} {RI : List PyData → Prop} {RE : PyData → PyData → Prop} (C : Cells D J) (O : Off D J) (hc : X.calm = true) (nd : X.N.Nodup) (hi : EIJ X D J tg iter σ B n1 RI) (hk : ∀ ds, RI ds → ds.length ≤ k) (hks : k < sizeLine) (hb : BlkOk X.N X.env.scope scope own)
    (hg : ∀ s H C cl fp, EG (blkX X s H scope C cl fp) tg tjs pat) (hpat : ∀ ds, RI ds → ∀ d ∈ ds, ∃ es, pat d = some es ∧ es.length = tjs.length)
    (hw : ∀ vs : List V, vs.length = tjs.length → wipe (setsS (wipe σ (own.map (·.2))) tjs vs) (own.map (·.2)) = wipe σ (own.map (·.2)))
    (body : ∀ B' ds d es vs, Le B B' → RI ds → d ∈ ds → pat d = some es → Ds X.K B' vs es → ∀ s H C cl fp, EJ (blkX X s H scope C cl fp) D J elt (setsS (wipe σ (own.map (·.2))) tjs vs) B' n2 (RE d)) (hs : ∀ x, foldedSetIterable iter X.env x = pure x := by intro _; rfl) :
    EJ X D J (.ListComp elt [⟨tg, iter, [], 0⟩] scope pos) σ B (n1 + k * n2) (fun d => ∃ ds rs, d = .list rs ∧ RI ds ∧ Both RE ds rs) := fun m H1 l ap j Q q =>
  ⟨_, pe_lc (wi := WI X tg iter) (g := fun v σ H Q => ∀ s H0 C cl fp, WG (blkX X s H0 scope C cl fp) tg v σ H Q) (tt := fun σ H Q => ∀ s H0 C cl fp, WTs (blkX X s H0 scope C cl fp) [] σ H Q) (te := fun σ H Q => ∀ s H0 C cl fp, WE (blkX X s H0 scope C cl fp) elt σ H Q) hc nd pi_w hb
    (fun s H C cl fp => ⟨fun pins s' σ H' v u Q I r h => pg_w.run pins s' σ H' v u Q I r (h s H C cl fp)⟩) (fun s H C cl fp => ⟨fun pins s' σ H' Q I h => pts_w.run pins s' σ H' Q I (h s H C cl fp)⟩) (fun s H C cl fp => ⟨fun pins s' σ H' Q I h => pe_w.run pins s' σ H' Q I (h s H C cl fp)⟩) hs,
    lcJ_read C O hc nd hi hk hks hg hpat hw body m H1 l ap j Q fun A acc B2 H2 ds rs _ u jj e _ dv ri rr => q _ _ B2 H2 u jj (.new_lst e dv) ⟨ds, rs, rfl, ri, rr⟩⟩
end
end Tk


set_option Elab.async false
set_option linter.all false
set_option maxRecDepth 100000
set_option maxHeartbeats 2000000
namespace K0
open PySem PySem.Spec PyProof.Rows L2 GxR Tk
variable [LamTab]
abbrev sPick : Stmt := t__law_pick
abbrev sShuf : Stmt := t__law_shuffled
section
variable {P : Program} {w : World} {K : PySem.W.Frag} {mg : Str → Option Value} {base : Heap} {f : Addr} {fd : FuncData} {T : List Addr} {d lw lc : Addr}
abbrev KnTake (P : Program) (w : World) (K : PySem.W.Frag) (mg : Str → Option Value) (base : Heap) (T : List Addr) (d lw lc : Addr) : Prop := KnJ P w K mg base 2 "_law_take" ["draw", "many"] T d lw lc 1 1 takeP takeR
def pickP (ds : List PyData) : Prop := ∃ xs, ds = [.list xs] ∧ 0 < xs.length ∧ xs.length < 1000000
def pickR (ds : List PyData) (r : PyData) : Prop := ∃ xs, ds = [.list xs] ∧ r ∈ xs
theorem scPick : FnScope ["draw", "some"] ["draw", "some"] (defScope sPick) := ⟨rfl, rfl, rfl, by decide +kernel, rfl, by decide +kernel, by decide +kernel⟩
/-- take of what a pure expression is worth -/
theorem ej_take {X : Cx} {σ : L2.St} {B : Hp} {many : Int} {a : Expr} {p p2 pos : Pos} {j i : Nat} {y : Str} (F : KnTake P w K mg base T d lw lc) (hr : Room j X.A) (hk : 2 ≤ j) (t : Tbs T B) (hσ : σ[i]? = some (some (.ref d))) (ha : EE X a σ B (.int many)) (h0 : 0 < many) (h1 : many < 1000000)
    (eP : X.prog = P := by rfl) (ew : X.w = w := by rfl) (eK : X.K = K := by rfl) (em : X.mg = mg := by rfl) (eb : X.base = base := by rfl) (hg : Gl X "_law_take" := by rfl)
    (hN : X.N[i]? = some y := by rfl) (hv : Vis X.env.scope y := by first | exact Or.inl rfl | exact Or.inr (Or.inl rfl) | exact Or.inr (Or.inr rfl)) (hdy : (y == ("__debug__" : Str)) = false := by decide) (hcy : (y == ("__classdict__" : Str)) = false := by decide)
    (he : starEach [.Name y p2, a] X.env = (false, eval (.Name y p2) X.env) :: starEach [a] X.env := by rfl) (he2 : starEach [a] X.env = (false, eval a X.env) :: starEach [] X.env := by rfl) (hpl : (backTo pos (starEach [a] X.env)).any (·.1) = false := by rfl) :
    EJ X [d, lw, lc] (DJ d lw lc) (.Call (.Name "_law_take" p) [.Name y p2, a] [] pos) σ B 1 (fun r => ∃ i : Int, r = .int i ∧ 0 ≤ i ∧ i < many) := by
  have := ej_call (p := p) (pos := pos) (p2 := p2) (i := i) cells_DJ F hr hk t hσ (eaj_cons cells_DJ (ej_pure (R := (· = .int many)) cells_DJ ha rfl) (fun B' l => eaj_nil) he2) (fun ds h => by
    obtain ⟨e, r, rfl, rfl, rfl⟩ := h
    exact ⟨⟨many, rfl, h0, h1⟩, rfl⟩) eP ew eK em eb hg hN hv hdy hcy (by decide) he hpl
  refine this.weak cells_DJ (fun e h => ?_) (by omega)
  obtain ⟨ds, ⟨e1, r, rfl, rfl, rfl⟩, m, i, e2, rfl, i0, i1⟩ := h
  cases e2
  exact ⟨i, rfl, i0, i1⟩
theorem atI_mem {xs : List PyData} {i : Int} (h0 : 0 ≤ i) (h1 : i < xs.length) : ∃ x, atI xs i = some x ∧ x ∈ xs := by
  have hi : i.toNat < xs.length := by omega
  have e : Int.ofNat i.toNat = i := Int.toNat_of_nonneg h0
  have g := atI_nat (j := i.toNat) (List.getElem?_eq_getElem hi)
  refine ⟨xs[i.toNat], ?_, List.getElem_mem hi⟩
  exact (congrArg (atI xs) e).symm.trans g
theorem ok_pick (BL : Blt mg) (hTD : ∀ a ∈ [d, lw, lc], a ∉ T) (Ft : KnTake P w K mg base T d lw lc) (F : L2.Fun K "_law_pick" "_law_pick" sPick f fd) :
    FnOk P w K mg base CX0 3 f fd ["draw", "some"] (spJ K T [d, lw, lc] (DJ d lw lc) (.ref d) 1 1 pickP pickR) := by
  refine fn_draw hTD F scPick rfl fun cdv A outer s H vs B ds m Q E hr hcd t l ap j hd hl hp q => ?_
  obtain ⟨xs, rfl, n0, n1⟩ := hp
  obtain ⟨v1, rfl, h1⟩ := ds1 (K := K) hd
  refine wb_one (ws_retJ (n := 1) (R := (· ∈ xs)) l ap j ?_ fun v e B' H' u jj dv r => q v e B' H' u jj dv ⟨xs, rfl, r⟩)
  refine (ej_ix (n1 := 0) (n2 := 1) (R3 := (· ∈ xs)) cells_DJ ix_list ?_ (ej_pure (R := (· = .list xs)) cells_DJ (ee_var (i := 1) rfl h1) rfl) (ej_take Ft hr (by decide) t (i := 0) rfl (ee_len BL (ee_var (i := 1) rfl h1) rfl fun x z => by cases z) (by omega) (by omega))).weak cells_DJ (fun _ h => h) (by omega)
  refine rj_of fun d1 d2 h1 h2 => ?_
  obtain ⟨i, rfl, i0, i1⟩ := h2
  subst h1
  obtain ⟨x, e, hx⟩ := atI_mem i0 i1
  exact ⟨x, rr_ixL e, hx⟩
theorem seqIx {i : Int} {n : Nat} (h0 : 0 ≤ i) (h1 : i < n) : seqIndex? i n = some i.toNat := by
  have e : ¬ i < 0 := by omega
  unfold seqIndex?
  rw [if_neg e]
  have e2 : (decide (0 ≤ i) && decide (i < (n : Int))) = true := by rw [decide_eq_true h0, decide_eq_true h1]; rfl
  exact if_pos e2
/-- in another order -/
def shufP (ds : List PyData) : Prop := ∃ xs, ds = [.list xs] ∧ xs.length ≤ 90 ∧ (∀ x ∈ xs, isStr x = true ∧ okD x = true)
def shufR (ds : List PyData) (r : PyData) : Prop := ∃ xs ys, ds = [.list xs] ∧ r = .list ys ∧ ys.Perm xs
theorem scShuf : FnScope ["draw", "some", "left", "found"] ["draw", "some"] (defScope sShuf) := ⟨rfl, rfl, rfl, by decide +kernel, rfl, by decide +kernel, by decide +kernel⟩
theorem ndShuf : List.Nodup (["draw", "some", "left", "found"] : List Str) := by decide +kernel
theorem strs_shaped {xs : List PyData} (h : ∀ x ∈ xs, isStr x = true ∧ okD x = true) : noDict (.list xs) = true ∧ SeqAt.shaped (.list xs) = true := by
  have n : noDicts xs = true := noDicts_of fun x hx => flat_noDict (str_flat (h x hx).1)
  have o : okDs xs = true := okDs_of fun x hx => (h x hx).2
  refine ⟨n, ?_⟩
  have dp : PyData.depthAll xs ≤ 0 := depthAll_le fun x hx => Nat.le_of_eq (flat_depth (str_flat (h x hx).1))
  unfold SeqAt.shaped
  rw [Bool.and_eq_true]
  refine ⟨?_, decide_eq_true ?_⟩
  · simp only [PyData.canLay0]
    exact okDs_lay o n
  · simp only [PyData.depth]
    omega
theorem eqv_cons_nil {x : PyData} {xs : List PyData} : PyData.eqv (.list (x :: xs)) (.list []) = false := by
  simp [PyData.eqv, PyData.eqvAll]
theorem erase_split : ∀ {xs : List PyData} {i : Nat} {x : PyData}, xs[i]? = some x → xs.Perm (x :: xs.eraseIdx i)
  | y :: xs, 0, x, h => by cases h; exact List.Perm.refl _
  | y :: xs, i + 1, x, h => by
    have p := erase_split (xs := xs) (i := i) (x := x) h
    exact (p.cons y).trans (List.Perm.swap x y _)
theorem ds_erase {H : Hp} : ∀ {vs : List V} {ds : List PyData} (i : Nat), Ds K H vs ds → Ds K H (vs.eraseIdx i) (ds.eraseIdx i)
  | _, _, _, .nil => by simp only [List.eraseIdx_nil]; exact .nil
  | _, _, 0, .cons h t => t
  | _, _, i + 1, .cons h t => .cons h (ds_erase i t)
theorem ok_shuf (BL : Blt mg) (hTD : ∀ a ∈ [d, lw, lc], a ∉ T) (Ft : KnTake P w K mg base T d lw lc) (F : L2.Fun K "_law_shuffled" "_law_shuffled" sShuf f fd) :
    FnOk P w K mg base CX0 3 f fd ["draw", "some"] (spJ K T [d, lw, lc] (DJ d lw lc) (.ref d) 1 90 shufP shufR) := by
  refine fn_draw hTD F scShuf rfl fun cdv A outer s H vs B ds m Q E hr hcd t l ap j hd hl hp q => ?_
  obtain ⟨xs, rfl, hn, hs⟩ := hp
  obtain ⟨v1, rfl, h1⟩ := ds1 (K := K) hd
  have hu := hu64 hr
  refine wb_cons ⟨_, ps_par (i := 2) (j := 3) rfl ndShuf rfl rfl (by decide) rfl rfl pa_w rfl, ?_⟩
  -- left, a new list
  refine ⟨_, pa_cons (pe_callTy c_list rfl BL.list boot_list' (pa_cons (pe_var (i := 1) rfl (Or.inl rfl)) pa_nil) (by decide) (by decide) rfl rfl) (pa_cons (pe_lst pa_nil) pa_nil) rfl, _, rfl, ?_⟩
  cases h1 with
  | lst s1 t1 hds =>
  rename_i a us
  refine ⟨a, us, rfl, .inl (sqL_le l s1), fun ll hll => ⟨by decide, fun lf hlf => ⟨_, _, rfl, ?_⟩⟩⟩
  have hlf0 : H lf = none := (Le.new hll).there lf hlf
  have hne : lf ≠ ll := fun z => by rw [z, upd_same] at hlf; cases hlf
  have e1 : (upd (upd H ll (.lst us)) lf (.lst [])) ll = some (.lst us) := by rw [upd_ne (fun z => hne z.symm)]; exact upd_same
  have e2 : (upd (upd H ll (.lst us)) lf (.lst [])) lf = some (.lst []) := upd_same
  have l2 : Le H (upd (upd H ll (.lst us)) lf (.lst [])) := (Le.new hll).trans (Le.new hlf)
  have hBl : B ll = none := l.there ll hll
  have hBf : B lf = none := l.there lf hlf0
  have hDl : ll ∉ [d, lw, lc] := fun z => by
    obtain ⟨o, e, _⟩ := (cells_DJ (d := d) (lw := lw) (lc := lc)).at_ _ H j ll z
    rw [hll] at e
    cases e
  have hDf : lf ∉ [d, lw, lc] := fun z => by
    obtain ⟨o, e, _⟩ := (cells_DJ (d := d) (lw := lw) (lc := lc)).at_ _ H j lf z
    rw [hlf0] at e
    cases e
  have lx0 : LeX [d, lw, lc] H (upd (upd H ll (.lst us)) lf (.lst [])) := .of l2
  have lb0 : Le B (upd (upd H ll (.lst us)) lf (.lst [])) := l.trans l2
  have j0 : DJ d lw lc (m + xs.length) (upd (upd H ll (.lst us)) lf (.lst [])) := cells_DJ.le _ _ _ (cells_DJ.less _ _ _ j (by omega)) l2
  generalize upd (upd H ll (.lst us)) lf (.lst []) = H0 at e1 e2 lx0 lb0 j0 ⊢
  refine wb_cons ⟨_, ps_while PassesOwn.never pt_w pss_w, ?_⟩
  refine ⟨fun k σ' H' => ∃ (ls fs : List PyData) (lv fv : List V), σ' = [some (.ref d), some (.ref a), some (.ref ll), some (.ref lf)] ∧ k = ls.length ∧ H' ll = some (.lst lv) ∧ H' lf = some (.lst fv) ∧ LeX [d, lw, lc] H H' ∧ Le B H' ∧ Ds K B lv ls ∧ Ds K B fv fs ∧ (fs ++ ls).Perm xs ∧ DJ d lw lc (m + ls.length) H',
    ⟨xs.length, xs, [], us, [], rfl, rfl, e1, e2, lx0, lb0, hds, .nil, by rw [List.nil_append], j0⟩, ?_⟩
  rintro k σ' H' ⟨ls, fs, lv, fv, rfl, rfl, hl1, hf1, lx1, lb1, dl, df, pm, j1⟩
  have hls : ∀ x ∈ ls, isStr x = true ∧ okD x = true := fun x hx => hs x (pm.mem_iff.mp (List.mem_append_right _ hx))
  obtain ⟨nd, sh⟩ := strs_shaped hls
  have lenp := pm.length_eq
  rw [List.length_append] at lenp
  refine (et_cmp (k := !PyData.eqv (.list ls) (.list [])) (op_neD hu) (rr_neD nd rfl sh (by decide)) (ee_var (i := 2) rfl (.new_lst hl1 (Ds.le lb1 dl))) (ee_lst ea_nil (by decide))) H' (Le.refl _) _ fun H2 l2 => ?_
  have hl2 : H2 ll = some (.lst lv) := l2.keep ll _ hl1 (fun ps z => by cases z)
  have hf2 : H2 lf = some (.lst fv) := l2.keep lf _ hf1 (fun ps z => by cases z)
  have lx2 : LeX [d, lw, lc] H H2 := lx1.trans (.of l2)
  have lb2 : Le B H2 := lb1.trans l2
  have j2 := cells_DJ.le _ _ _ j1 l2
  cases ls with
  | nil =>
    refine (if_neg (by decide)).mpr ?_
    rw [List.append_nil] at pm
    have hs2 : Le (upd B lf (.lst fv)) H2 := lb2.add hf2 (fun ps z => by cases z)
    refine wb_one (ws_ret (B := upd B lf (.lst fv)) (d := .list fs) hs2 (ee_var (i := 3) rfl (.new_lst upd_same (Ds.le (Le.new hBf) df))) fun v B3 H3 u3 d3 => ?_)
    have ux : UpX [d, lw, lc] B H (upd B lf (.lst fv)) H2 := ⟨lx2, Le.new hBf, hs2, fun x hx => by
      by_cases z : x = lf
      · rw [z]; exact .inr (.inl hlf0)
      · rw [upd_ne z] at hx; exact .inl hx⟩
    exact q v _ B3 H3 (ux.trans cells_DJ j2 (.of u3)) (cells_DJ.le m _ _ (cells_DJ.less _ _ _ j2 (by omega)) u3.h) d3 ⟨xs, fs, rfl, rfl, pm⟩
  | cons y ls =>
    rw [eqv_cons_nil]
    refine (if_pos rfl).mpr ?_
    have hk : Le (upd B ll (.lst lv)) H2 := lb2.add hl2 (fun ps z => by cases z)
    have apk : Apt [d, lw, lc] (upd B ll (.lst lv)) := fun x hx => by
      rw [upd_ne fun z => hDl (by rw [← z]; exact hx)]
      exact ap x hx
    have tk : Tbs T (upd B ll (.lst lv)) := t.le (Le.new hBl)
    have jk : DJ d lw lc ((m + ls.length) + 1) H2 := by
      rw [List.length_cons] at j2
      exact cells_DJ.less _ _ _ j2 (by omega)
    have len8 : (y :: ls).length ≤ 90 := by omega
    refine ⟨fun σ2 H5 => ∃ (ls' fs : List PyData) (lv fv : List V), ls'.length = ls.length ∧ σ2 = [some (.ref d), some (.ref a), some (.ref ll), some (.ref lf)] ∧ H5 ll = some (.lst lv) ∧ H5 lf = some (.lst fv) ∧ LeX [d, lw, lc] H H5 ∧ Le B H5 ∧ Ds K B lv ls' ∧ Ds K B fv fs ∧ (fs ++ ls').Perm xs ∧ DJ d lw lc (m + ls'.length) H5,
      fun σ2 H5 ⟨ls', fs, lv, fv, z0, z⟩ => ⟨ls'.length, by rw [z0, List.length_cons]; omega, ls', fs, lv, fv, z.1, rfl, z.2⟩, ?_⟩
    refine wb_one ⟨_, ps_expr (pe_bm PySem.F.plainAttrs_list PySem.F.slot_list_append PySem.F.type_list_append mt_append (pe_var (i := 3) rfl (Or.inl rfl)) (pa_cons (pe_bm PySem.F.plainAttrs_list PySem.F.slot_list_pop PySem.F.type_list_pop mt_popAt (pe_var (i := 2) rfl (Or.inl rfl)) (pa_cons pe_w pa_nil)) pa_nil)),
      _, rfl, .inl ⟨rfl, _, SqL.of hf2⟩, _, rfl, .inl ⟨rfl, _, SqL.of hl2⟩, ?_⟩
    refine (ej_take (B := upd B ll (.lst lv)) (many := ((y :: ls).length : Int)) Ft hr (by decide) tk (i := 0) rfl (ee_len BL (ee_var (i := 2) rfl (.new_lst upd_same (Ds.le (Le.new hBl) dl))) rfl fun x z => by cases z) (by rw [List.length_cons]; omega) (by omega)) (m + ls.length) H2 hk apk jk _ fun v e B3 H3 u3 j3 dv re => ?_
    obtain ⟨i, rfl, i0, i1⟩ := re
    cases dv
    have hl3 : H3 ll = some (.lst lv) := u3.h.keep ll _ hDl hl2 (fun ps z => by cases z)
    have hf3 : H3 lf = some (.lst fv) := u3.h.keep lf _ hDf hf2 (fun ps z => by cases z)
    have ix : i.toNat < (y :: ls).length := by omega
    obtain ⟨x, hx1, hx2⟩ := dl.get (List.getElem?_eq_getElem ix)
    have lvl := dl.length
    refine ⟨ll, lv, i, i.toNat, x, rfl, rfl, hl3, by omega, by omega, seqIx i0 (by rw [lvl]; exact i1), hx1, ?_⟩
    refine ⟨lf, fv, x, rfl, rfl, by rw [upd_ne hne]; exact hf3, ?_, ?_⟩
    · rw [df.length]
      exact Nat.lt_of_le_of_lt (show fs.length ≤ 90 by omega) (by decide)
    have pe := erase_split (List.getElem?_eq_getElem ix)
    have el : ((y :: ls).eraseIdx i.toNat).length = ls.length := by
      have := pe.length_eq
      simp only [List.length_cons] at this ⊢
      omega
    have lx4 : LeX [d, lw, lc] H (upd (upd H3 ll (.lst (lv.eraseIdx i.toNat))) lf (.lst (fv ++ [x]))) := ((lx2.trans u3.h).mut hll).mut hlf0
    have lb4 : Le B (upd (upd H3 ll (.lst (lv.eraseIdx i.toNat))) lf (.lst (fv ++ [x]))) := (((Le.new hBl).trans (u3.b.trans u3.s)).mut hBl).mut hBf
    obtain ⟨ws, cs, r, t0, g1, g2, g3, g4, g5⟩ := j3
    have off : ∀ {b : Addr} {o : HO}, b ∈ [d, lw, lc] → H3 b = some o → (upd (upd H3 ll (.lst (lv.eraseIdx i.toNat))) lf (.lst (fv ++ [x]))) b = some o := fun {b o} hb e => by
      rw [upd_ne fun z => hDf (by rw [← z]; exact hb), upd_ne fun z => hDl (by rw [← z]; exact hb)]
      exact e
    refine ⟨(y :: ls).eraseIdx i.toNat, fs ++ [(y :: ls)[i.toNat]], lv.eraseIdx i.toNat, fv ++ [x], el, rfl, by rw [upd_ne (fun z => hne z.symm)]; exact upd_same, upd_same, lx4, lb4, ds_erase _ dl, df.snoc hx2, ?_, ?_⟩
    · refine List.Perm.trans ?_ pm
      rw [List.append_assoc]
      exact List.Perm.append_left fs pe.symm
    · rw [el]
      exact ⟨ws, cs, r, t0, off List.mem_cons_self g1, off (List.mem_cons_of_mem _ List.mem_cons_self) g2, off (List.mem_cons_of_mem _ (List.mem_cons_of_mem _ List.mem_cons_self)) g3, g4, g5⟩
end
end K0


set_option Elab.async false
set_option linter.all false
set_option maxRecDepth 100000
set_option maxHeartbeats 2000000
namespace K0
open PySem PySem.Spec PyProof.Rows L2 GxR Tk
variable [LamTab]
theorem rr_ge {K : PySem.W.Frag} {H : Hp} {i j : Int} : RR K (rI0 fun i j => .bl (decide (j ≤ i))) H (.int i) (.int j) (.bool (decide (j ≤ i))) := fun B H1 l l1 x y hx hy Q q => by
  cases hx
  cases hy
  exact ⟨i, j, rfl, rfl, q _ B H1 (Up.refl l1) (.bl _)⟩
def rAbs : List V → Hp → VK → Prop := fun xs H Q => ∃ i, xs = [V.int i] ∧ Q (.int (if i < 0 then -i else i)) H
theorem c_abs {X : Cx} : CallR X (.builtin "abs") rAbs := call_abs
theorem boot_abs' : bootBuiltins "abs" = some (.builtin "abs") := by decide +kernel
theorem ee_abs {X : Cx} {e : Expr} {σ : L2.St} {H : Hp} {i : Int} {p pos : Pos} (BL : X.mg "abs" = none) (ha : EE X e σ H (.int i)) (hg : Gl X "abs" := by rfl) (he : starEach [e] X.env = (false, eval e X.env) :: starEach [] X.env := by rfl) :
    EE X (.Call (.Name "abs" p) [e] [] pos) σ H (.int (if i < 0 then -i else i)) := ee_callB c_abs hg BL boot_abs' (fun B H1 l l1 vs hv Q q => by
      obtain ⟨v, rfl, h⟩ := ds1 hv
      cases h
      exact ⟨i, rfl, q _ B H1 (Up.refl l1) (.int _)⟩) (ea_cons ha ea_nil he) (by decide) (by decide) he rfl
/-- a def of any promise -/
theorem fn_any {P : Program} {w : World} {K : PySem.W.Frag} {mg : Str → Option Value} {base : Heap} {x qual : Str} {st : Stmt} {fa : Addr} {fd : FuncData} {N ps : List Str} {lv : Nat} {sp : Sp}
    (F : L2.Fun K x qual st fa fd) (S : FnScope N ps (defScope st)) (hn : ∀ vs H Q E, sp vs H Q E → vs.length = ps.length)
    (hbody : ∀ (cdv : Value) (A : Around) (outer : List Env) (s : Shared) (H : Hp) (vs : List V) (Q : VK) (E : XK), Room lv (A.deeper (envOfC qual (defScope st) s.heap.objs.size fa cdv)) → fd.code = cdv → sp vs H Q E →
      WB (cxOf CX0 P w K mg base N qual (defScope st) fa cdv A outer s H E).nox (defBody st) { nx := fun _ H' => Q .non H', rt := Q } (start N vs) H) :
    FnOk P w K mg base CX0 (lv + 1) fa fd ps sp := by
  obtain ⟨oc, od, kV, doc, pm, an, cdv, ct, osl, rfl, lk, hcd⟩ := F.ex
  refine fn_of lk hcd S (fun vs H Q E h => hn vs H Q E h) fun A outer s H vs Q E hr h => ?_
  obtain ⟨t, t1, t2⟩ := hbody cdv A outer s H vs Q E hr rfl h
  exact ⟨t, t1.nox, t2⟩
abbrev sBegun : Stmt := t__law_begun
def spBegun (K : PySem.W.Frag) : Sp := fun vs H Q _ => ∃ (a : Addr) (B : Hp) (xs : List Int), vs = [.ref a] ∧ Le B H ∧ Dt K B (.ref a) (.list (xs.map PyData.int)) ∧ xs.length ≤ 1000 ∧
  ∀ (d lw lc : Addr) (H' : Hp), Le H H' → H d = none → H lw = none → H lc = none → lw ≠ lc → DJ d lw lc (2 ^ 40) H' → Q (.ref d) H'
def absI (i : Int) : Int := if i < 0 then -i else i
def wideB : PyData → Bool
  | .int i => decide ((10 : Int) ^ (18 : Int).toNat ≤ absI i)
  | _ => false
def wideD : PyData → PyData
  | .int i => .int (absI i - (10 : Int) ^ (18 : Int).toNat)
  | _ => .none
def cellD : PyData → PyData
  | .int i => .int (absI i % 2147483629)
  | _ => .none
theorem ints_map {xs : List Int} {p : PyData → Bool} {f : PyData → PyData} (g : Int → Int) (h : ∀ i, f (.int i) = .int (g i)) : ∃ ys : List Int, ((xs.map PyData.int).filter p).map f = ys.map PyData.int := by
  induction xs with
  | nil => exact ⟨[], rfl⟩
  | cons x xs ih =>
    obtain ⟨ys, e⟩ := ih
    rw [List.map_cons, List.filter_cons]
    split
    · exact ⟨g x :: ys, by rw [List.map_cons, e, h]; rfl⟩
    · exact ⟨ys, e⟩
theorem ds_ints {K : PySem.W.Frag} {H : Hp} : ∀ {ys : List Int} {vs : List V}, Ds K H vs (ys.map PyData.int) → vs = ys.map V.int
  | [], _, .nil => rfl
  | y :: ys, _, .cons h t => by
    cases h
    rw [ds_ints t]
    rfl
section
variable {P : Program} {w : World} {K : PySem.W.Frag} {mg : Str → Option Value} {base : Heap} {f : Addr} {fd : FuncData} {T : List Addr} {d lw lc : Addr}
theorem scBegun : FnScope ["script", "wide", "grain"] ["script"] (defScope sBegun) := ⟨rfl, rfl, rfl, by decide +kernel, rfl, by decide +kernel, by decide +kernel⟩
theorem ndBegun : List.Nodup (["script", "wide", "grain"] : List Str) := by decide +kernel
theorem ok_begun (BL : Blt mg) (habs : mg "abs" = none) (F : L2.Fun K "_law_begun" "_law_begun" sBegun f fd) : FnOk P w K mg base CX0 1 f fd ["script"] (spBegun K) := by
  refine fn_any F scBegun (fun vs H Q E h => by obtain ⟨a, B, xs, rfl, _⟩ := h; rfl) fun cdv A outer s H vs Q E hr hcd h => ?_
  obtain ⟨a, B, xs, rfl, l, dv, hn, q⟩ := h
  have t0 : ∀ i : Int, ∀ {X : Cx} {σ : L2.St} {B' : Hp} {e : Expr} {pos pos2 : Pos}, X.mg = mg → Gl X "abs" → EE X e σ B' (.int i) → starEach [e] X.env = (false, eval e X.env) :: starEach [] X.env → EE X (.Call (.Name "abs" pos) [e] [] pos2) σ B' (.int (absI i)) := fun i X σ B' e pos pos2 hm hg he hs => ee_abs (by rw [hm]; exact habs) he hg hs
  refine wb_cons (ws_setLc (own := [("grain", 2)]) (tjs := [2]) (pat := patN) (i := 1) wideB wideD l rfl ndBegun (ei_lst (ee_var (i := 0) rfl dv))
    (blkOk_by (show blkC ["script", "wide", "grain"] (defScope sBegun) _ [("grain", 2)] = true by decide +kernel)) (fun s H C cl fp => eg_name ndBegun) (fun d hd => ⟨[d], rfl, rfl⟩) (fun vs hv => ?_)
    (fun B' e es vs lb hd he hv s H C cl fp => ?_) (fun B' e es vs lb hd hb he hv s H C cl fp => ?_) ?_ (fun lw wl B1 H1 n1 u1 e1 e2 dw => ?_) (sw_true rfl rfl rfl (by decide +kernel)))
  · match vs, hv with
    | [a], _ => rfl
  · obtain ⟨i, _, rfl⟩ := List.mem_map.mp hd
    cases he
    obtain ⟨v, rfl, hx⟩ := ds1 (K := K) hv
    exact ets_one (et_cmp op_ge rr_ge (t0 i rfl rfl (ee_var (i := 2) rfl hx) rfl) (ee_op op_pow (rr_I ⟨by decide, by decide, by decide⟩) ee_int ee_int))
  · obtain ⟨i, _, rfl⟩ := List.mem_map.mp hd
    cases he
    obtain ⟨v, rfl, hx⟩ := ds1 (K := K) hv
    exact ee_op op_sub rr_sub (t0 i rfl rfl (ee_var (i := 2) rfl hx) rfl) (ee_op op_pow (rr_I ⟨by decide, by decide, by decide⟩) ee_int ee_int)
  · rw [List.length_map]
    exact Nat.lt_of_le_of_lt hn (by decide)
  obtain ⟨ws, hws⟩ := ints_map (xs := xs) (p := wideB) (f := wideD) (fun i => absI i - (10 : Int) ^ (18 : Int).toNat) fun _ => rfl
  rw [hws] at dw
  have ewl := ds_ints dw
  subst ewl
  refine wb_one ⟨_, ps_ret (pe_disp (pps_cons pe_str (pe_var (i := 1) rfl (Or.inl rfl)) (pps_cons pe_str pe_w (pps_cons pe_str pe_int (pps_cons pe_str pe_int pps_nil)))) (by rfl) (by rfl) (fun z => by cases z) (by decide)), fun p hp => ⟨_, rfl, ?_⟩⟩
  have hB1p : B1 p = none := u1.s.there p hp
  have dv1 : Dt K B1 (.ref a) (.list (xs.map PyData.int)) := Dt.le u1.b dv
  refine ee_lcR (own := [("grain", 2)]) (tjs := [2]) (pat := patN) (fun _ => true) cellD rfl ndBegun (ei_lst (ee_var (i := 0) rfl dv1))
    (blkOk_by (show blkC ["script", "wide", "grain"] (defScope sBegun) _ [("grain", 2)] = true by decide +kernel)) (fun s H C cl fp => eg_name ndBegun) (fun d hd => ⟨[d], rfl, rfl⟩) (fun vs hv => ?_)
    (fun B' e es vs lb hd he hv s H C cl fp => ets_nil) (fun B' e es vs lb hd hb he hv s H C cl fp => ?_) ?_ (fun _ => rfl) _ (u1.s.trans (Le.new hp)) _ fun lc cl B2 H2 n2 u2 e3 e4 dc => ?_
  · match vs, hv with
    | [a], _ => rfl
  · obtain ⟨i, _, rfl⟩ := List.mem_map.mp hd
    cases he
    obtain ⟨v, rfl, hx⟩ := ds1 (K := K) hv
    exact ee_op op_mod (rr_I (by decide)) (ee_int1 BL (t0 i rfl rfl (ee_var (i := 2) rfl hx) rfl)) ee_int
  · rw [List.length_map]
    exact Nat.lt_of_le_of_lt hn (by decide)
  obtain ⟨cs, hcs⟩ := ints_map (xs := xs) (p := fun _ => true) (f := cellD) (fun i => absI i % 2147483629) fun _ => rfl
  rw [hcs] at dc
  have ecl := ds_ints dc
  subst ecl
  have hp2 : H2 p = some (.dK []) := u2.h.keep p _ upd_same (fun ps z => by cases z)
  have hlp : lw ≠ p := fun z => by rw [z, hp] at e2; cases e2
  have hcp : lc ≠ p := fun z => by rw [z, upd_same] at n2; cases n2
  have hlw1 : (upd H1 p (.dK [])) lw = some (.lst (ws.map V.int)) := by rw [upd_ne hlp]; exact e2
  have hlc : lw ≠ lc := fun z => by rw [z, n2] at hlw1; cases hlw1
  have hlw2 : H2 lw = some (.lst (ws.map V.int)) := u2.h.keep lw _ hlw1 (fun ps z => by cases z)
  refine ⟨hp2, [(.inr "wide", .ref lw), (.inr "cells", .ref lc), (.inr "rest", .int 0), (.inr "turn", .int 0)], rfl, (by show 4 ≤ 15; decide), ?_⟩
  have em : mergeK [] [(.inr "wide", .ref lw), (.inr "cells", .ref lc), (.inr "rest", .int 0), (.inr "turn", .int 0)] = drK lw lc 0 0 := by rfl
  rw [em]
  have hHp : H p = none := u1.h.there p hp
  have l2 : Le H H2 := (u1.h.trans (Le.new hp)).trans u2.h
  refine q p lw lc _ (l2.mut hHp) hHp n1 ?_ hlc ⟨ws, cs, 0, 0, upd_same, by rw [upd_ne hlp]; exact hlw2, by rw [upd_ne hcp]; exact e4, by decide, by decide⟩
  exact u1.h.there lc ((Le.new hp).there lc n2)
end
end K0


set_option Elab.async false
set_option linter.all false
set_option maxRecDepth 100000
set_option maxHeartbeats 1000000
namespace Tk
open PySem PySem.Spec PyProof.Rows L2 GxR Gx
variable [LamTab]
/-- a call of one that draws, with one more argument -/
theorem ej_call1 {X : Cx} {D : List Addr} {J : Nat → Hp → Prop} {a : Expr} {σ : L2.St} {B : Hp} {n : Nat} {T : List Addr} {lv : Nat} {pre : List PyData → Prop} {R : List PyData → PyData → Prop} {x y : Str} {ps : List Str} {dr : V} {d1 : PyData}
    {P : Program} {w : World} {K : PySem.W.Frag} {mg : Str → Option Value} {base : Heap} {p p2 pos : Pos} {j i : Nat} (C : Cells D J) (F : Kn P w K mg base lv x ps (spJ K T D J dr 1 n pre R)) (hr : Room j X.A) (hk : lv ≤ j) (t : Tbs T B) (hσ : σ[i]? = some (some dr))
    (ha : EE X a σ B d1) (hp : pre [d1]) (eP : X.prog = P := by rfl) (ew : X.w = w := by rfl) (eK : X.K = K := by rfl) (em : X.mg = mg := by rfl) (eb : X.base = base := by rfl) (hg : Gl X x := by rfl)
    (hN : X.N[i]? = some y := by rfl) (hv : Vis X.env.scope y := by first | exact Or.inl rfl | exact Or.inr (Or.inl rfl) | exact Or.inr (Or.inr rfl)) (hdy : (y == ("__debug__" : Str)) = false := by decide) (hcy : (y == ("__classdict__" : Str)) = false := by decide)
    (hdb : (x == ("__debug__" : Str)) = false := by decide) (he : starEach [.Name y p2, a] X.env = (false, eval (.Name y p2) X.env) :: starEach [a] X.env := by rfl) (he2 : starEach [a] X.env = (false, eval a X.env) :: starEach [] X.env := by rfl) (hpl : (backTo pos (starEach [a] X.env)).any (·.1) = false := by rfl) :
    EJ X D J (.Call (.Name x p) [.Name y p2, a] [] pos) σ B n (R [d1]) := by
  have := ej_call (p := p) (pos := pos) (p2 := p2) (i := i) C F hr hk t hσ (eaj_cons C (ej_pure (R := (· = d1)) C ha rfl) (fun B' l => eaj_nil) he2) (fun ds h => by
    obtain ⟨e, r, rfl, rfl, rfl⟩ := h
    exact ⟨hp, rfl⟩) eP ew eK em eb hg hN hv hdy hcy hdb he hpl
  refine this.weak C (fun e h => ?_) (by omega)
  obtain ⟨ds, ⟨e1, r, rfl, rfl, rfl⟩, hx⟩ := h
  exact hx
end Tk


set_option Elab.async false
set_option linter.all false
set_option maxRecDepth 100000
set_option maxHeartbeats 2000000
namespace K0
open PySem PySem.Spec PyProof.Rows L2 GxR Tk
variable [LamTab]
abbrev sNames : Stmt := t__law_names
theorem off_DJ {d lw lc : Addr} : Off [d, lw, lc] (DJ d lw lc) := fun n H p o ⟨ws, cs, r, t, h1, h2, h3, h4, h5⟩ hp => by
  have k : ∀ {b : Addr}, b ∈ [d, lw, lc] → b ≠ p := fun hb z => hp (z ▸ hb)
  exact ⟨ws, cs, r, t, by rw [upd_ne (k List.mem_cons_self)]; exact h1, by rw [upd_ne (k (List.mem_cons_of_mem _ List.mem_cons_self))]; exact h2, by rw [upd_ne (k (List.mem_cons_of_mem _ (List.mem_cons_of_mem _ List.mem_cons_self)))]; exact h3, h4, h5⟩
/-- a list's part -/
theorem ej_cutL {X : Cx} {D : List Addr} {J : Nat → Hp → Prop} {e : Expr} {σ : L2.St} {B : Hp} {n : Nat} {R : List PyData → Prop} {hi : Option Expr} {j : Option Int} {pos p2 : Pos} (C : Cells D J) (ha : EJ X D J e σ B n (fun d => ∃ ds, d = .list ds ∧ R ds)) (h2 : EO X hi σ B j) :
    EJ X D J (.Subscript e (.Slice none hi none p2) pos) σ B n (fun d => ∃ ds, d = .list (Tk.cutD ds none j) ∧ R ds) := fun m H1 l ap jj Q q =>
  ⟨_, pe_slice sl_list pe_w po_none po_w, ha m H1 l ap jj _ fun v d B2 H2 u j2 dv r => h2 H2 (u.b.trans u.s) _ fun H4 l4 => by
    obtain ⟨ds, rfl, r⟩ := r
    have u4 := u.trans C j2 (.of (Up.le u.s l4))
    cases dv with
    | lst s t h0 =>
      refine ⟨_, _, rfl, sqL_le u4.s s, fun p hp => q _ _ _ _ (u4.new hp fun ps z => by cases z) (C.le _ _ _ (C.le _ _ _ j2 l4) (Le.new hp)) (.new_lst upd_same ?_) ⟨ds, rfl, r⟩⟩
      unfold cutV Tk.cutD
      rw [h0.length]
      exact ((Ds.le (Le.new (u4.s.there p hp)) h0).drop _).take _⟩
def plusS (x : PyData) : PyData → PyData
  | .str b => match x with
    | .str a => .str (a ++ b)
    | _ => .none
  | _ => .none
def stemAcc (vs : List PyData) : List PyData → List PyData → List PyData
  | acc, [] => acc
  | acc, x :: xs => stemAcc vs (acc ++ (vs.filter fun _ => true).map (plusS x)) xs
def consS : Str := "bcdfghklmnprstvwxz"
def vowS : Str := "aeiou"
def stems : List PyData := stemAcc (Tk.signs vowS) [] (Tk.signs consS)
theorem stem_take {vs acc : List PyData} : ∀ {xs : List PyData} {i : Nat} {x : PyData}, xs[i]? = some x → stemAcc vs acc (xs.take (i + 1)) = stemAcc vs acc (xs.take i) ++ (vs.filter fun _ => true).map (plusS x)
  | y :: xs, 0, x, h => by cases h; rfl
  | y :: xs, i + 1, x, h => by
    rw [List.take_succ_cons, List.take_succ_cons]
    exact stem_take (acc := acc ++ (vs.filter fun _ => true).map (plusS y)) (xs := xs) (i := i) h
theorem stem_len {vs : List PyData} : ∀ {xs acc : List PyData}, (stemAcc vs acc xs).length = acc.length + vs.length * xs.length
  | [], acc => by simp [stemAcc]
  | x :: xs, acc => by
    have e : (vs.filter fun _ => true) = vs := List.filter_eq_self.mpr fun _ _ => rfl
    show (stemAcc vs _ xs).length = _
    rw [stem_len, List.length_append, List.length_map, e, List.length_cons, Nat.mul_succ]
    omega
def stemB : PyData → Bool
  | .str z => decide (z.cps.size = 2) && okD (.str z)
  | _ => false
theorem stems_ok : stems.all stemB = true := by decide +kernel
theorem stems_len : stems.length = 90 := by decide +kernel
def sufs : List PyData := [.str "q", .str "k", .str "x", .str "mu"]
/-- a name of a stem -/
def nameOf (s n : PyData) : Prop := ∃ z b, s = .str z ∧ .str b ∈ sufs ∧ n = .str (z ++ b)
def namesP (ds : List PyData) : Prop := ∃ m : Int, ds = [.int m] ∧ 0 ≤ m ∧ m ≤ 3
def namesR (ds : List PyData) (r : PyData) : Prop := ∃ ss ys zs : List PyData, r = .list ys ∧ ss.Perm stems ∧ zs = ss.take ys.length ∧ ys.length ≤ 3 ∧ Both nameOf zs ys
section
variable {P : Program} {w : World} {K : PySem.W.Frag} {mg : Str → Option Value} {base : Heap} {f : Addr} {fd : FuncData} {T : List Addr} {d lw lc : Addr}
abbrev KnShuf (P : Program) (w : World) (K : PySem.W.Frag) (mg : Str → Option Value) (base : Heap) (T : List Addr) (d lw lc : Addr) : Prop := KnJ P w K mg base 3 "_law_shuffled" ["draw", "some"] T d lw lc 1 90 shufP shufR
abbrev KnPick (P : Program) (w : World) (K : PySem.W.Frag) (mg : Str → Option Value) (base : Heap) (T : List Addr) (d lw lc : Addr) : Prop := KnJ P w K mg base 3 "_law_pick" ["draw", "some"] T d lw lc 1 1 pickP pickR
/-- pick of a list that is known -/
theorem ej_pick {X : Cx} {σ : L2.St} {B : Hp} {xs : List PyData} {a : Expr} {p p2 pos : Pos} {j i : Nat} {y : Str} (F : KnPick P w K mg base T d lw lc) (hr : Room j X.A) (hk : 3 ≤ j) (t : Tbs T B) (hσ : σ[i]? = some (some (.ref d))) (ha : EE X a σ B (.list xs)) (h0 : 0 < xs.length) (h1 : xs.length < 1000000)
    (eP : X.prog = P := by rfl) (ew : X.w = w := by rfl) (eK : X.K = K := by rfl) (em : X.mg = mg := by rfl) (eb : X.base = base := by rfl) (hg : Gl X "_law_pick" := by rfl)
    (hN : X.N[i]? = some y := by rfl) (hv : Vis X.env.scope y := by first | exact Or.inl rfl | exact Or.inr (Or.inl rfl) | exact Or.inr (Or.inr rfl)) (hdy : (y == ("__debug__" : Str)) = false := by decide) (hcy : (y == ("__classdict__" : Str)) = false := by decide)
    (he : starEach [.Name y p2, a] X.env = (false, eval (.Name y p2) X.env) :: starEach [a] X.env := by rfl) (he2 : starEach [a] X.env = (false, eval a X.env) :: starEach [] X.env := by rfl) (hpl : (backTo pos (starEach [a] X.env)).any (·.1) = false := by rfl) :
    EJ X [d, lw, lc] (DJ d lw lc) (.Call (.Name "_law_pick" p) [.Name y p2, a] [] pos) σ B 1 (· ∈ xs) := by
  have := ej_call (p := p) (pos := pos) (p2 := p2) (i := i) cells_DJ F hr hk t hσ (eaj_cons cells_DJ (ej_pure (R := (· = .list xs)) cells_DJ ha rfl) (fun B' l => eaj_nil) he2) (fun ds h => by
    obtain ⟨e, r, rfl, rfl, rfl⟩ := h
    exact ⟨⟨xs, rfl, h0, h1⟩, rfl⟩) eP ew eK em eb hg hN hv hdy hcy (by decide) he hpl
  refine this.weak cells_DJ (fun e h => ?_) (by omega)
  obtain ⟨ds, ⟨e1, r, rfl, rfl, rfl⟩, xs', e2, hx⟩ := h
  cases e2
  exact hx
theorem scNames : FnScope ["draw", "many", "some", "one", "other", "stem"] ["draw", "many"] (defScope sNames) := ⟨rfl, rfl, rfl, by decide +kernel, rfl, by decide +kernel, by decide +kernel⟩
theorem ndNames : List.Nodup (["draw", "many", "some", "one", "other", "stem"] : List Str) := by decide +kernel
theorem rr_addS {H : Hp} {i j : Str} (h : i.length + j.length ≤ sizeLine) : RR K (fun x y H Q => ∃ i j, x = V.str i ∧ y = V.str j ∧ i.length + j.length ≤ sizeLine ∧ Q (.str (i ++ j)) H) H (.str i) (.str j) (.str (i ++ j)) := fun B H1 l l1 x y hx hy Q q => by
  cases hx
  cases hy
  exact ⟨i, j, rfl, rfl, h, q _ B H1 (Up.refl l1) (.str _)⟩
theorem sign_one {z : Str} {i : Nat} {x : PyData} (h : x ∈ Tk.signs z) : ∃ c, x = .str ⟨#[c]⟩ := by
  unfold Tk.signs at h
  obtain ⟨c, _, rfl⟩ := List.mem_map.mp h
  exact ⟨c, rfl⟩
theorem ok_names (BL : Blt mg) (hTD : ∀ a ∈ [d, lw, lc], a ∉ T) (Fs : KnShuf P w K mg base T d lw lc) (Fp : KnPick P w K mg base T d lw lc) (F : L2.Fun K "_law_names" "_law_names" sNames f fd) :
    FnOk P w K mg base CX0 4 f fd ["draw", "many"] (spJ K T [d, lw, lc] (DJ d lw lc) (.ref d) 1 100 namesP namesR) := by
  refine fn_draw hTD F scNames rfl fun cdv A outer s H vs B ds m Q E hr hcd t l ap j hd hl hp q => ?_
  obtain ⟨many, rfl, hm0, hm3⟩ := hp
  obtain ⟨v1, rfl, h1⟩ := ds1 (K := K) hd
  cases h1
  refine wb_cons (ws_set (i := 2) (d := .list []) l (ee_lst ea_nil (by decide)) (fun v2 B2 H2 u2 d2 => ?_) ndNames)
  refine wb_cons (ws_for (tjs := [3]) (pat := patN) u2.s (ei_str (x := consS) ee_str) (eg_name ndNames) (fun d hd => ⟨[d], rfl⟩) PassesOwn.never rfl
    (fun i σ' B' H' => Up B2 H2 B' H' ∧ ∃ vf a, σ' = [some (.ref d), some (.int many), some vf, a, none, none] ∧ Dt K B' vf (.list (stemAcc (Tk.signs vowS) [] ((Tk.signs consS).take i)))) (fun B' H' u => ⟨u, v2, none, rfl, Dt.le u.b d2⟩) (fun i e es vs σ' B' H' B'' H'' hi hd' lb hI u4 he dvs N hN => ?_) fun σ' B' H' lb ls hI => ?_)
  · obtain ⟨u', vf, a, rfl, df⟩ := hI
    cases he
    obtain ⟨x, rfl, hx⟩ := ds1 (K := K) dvs
    have df' := Dt.le u4.b df
    obtain ⟨c0, rfl⟩ := sign_one (i := i) (List.mem_of_getElem? hd')
    refine wb_one (ws_set (i := 2) (d := .list (stemAcc (Tk.signs vowS) [] ((Tk.signs consS).take (i + 1)))) u4.s ?_ (fun v3 B3 H3 u3 d3 => hN _ B3 H3 u3.b u3.s ⟨(u'.trans u4).trans u3, v3, _, rfl, d3⟩) ndNames)
    rw [stem_take hd']
    refine ee_op op_catL (rr_catL ?_) (ee_var (i := 2) rfl df') ?_
    · rw [stem_len, List.length_map, List.length_take]
      have e5 : (Tk.signs vowS).length = 5 := by decide +kernel
      have e18 : (Tk.signs consS).length = 18 := by decide +kernel
      have := List.length_filter_le (fun _ => true) (Tk.signs vowS)
      rw [e5] at this ⊢
      rw [e18, List.length_nil]
      refine Nat.le_trans (show _ ≤ 200 from ?_) (by decide)
      have : min i 18 ≤ 18 := Nat.min_le_right _ _
      omega
    refine ee_lc (own := [("other", 4)]) (tjs := [4]) (pat := patN) (fun _ => true) (plusS (.str ⟨#[c0]⟩)) rfl ndNames (ei_str (x := vowS) ee_str)
      (blkOk_by (show blkC ["draw", "many", "some", "one", "other", "stem"] (defScope sNames) _ [("other", 4)] = true by decide +kernel))
      (fun s H C cl fp => eg_name ndNames) (fun d hd => ⟨[d], rfl, rfl⟩) (fun vs hv => ?_) (fun B' d es vs lb hd he hv s H C cl fp => ets_nil) (fun B' d' es vs lb hd hb he hv s H C cl fp => ?_) (by decide +kernel)
    · match vs, hv with
      | [a], _ => rfl
    · cases he
      obtain ⟨y, rfl, hy⟩ := ds1 (K := K) hv
      obtain ⟨c1, rfl⟩ := sign_one (i := i) hd
      exact ee_op op_add_str (rr_addS (show 1 + 1 ≤ sizeLine by decide)) (ee_var (i := 3) rfl (Dt.le lb hx)) (ee_var (i := 4) rfl hy)
  · obtain ⟨u', vf, a, rfl, df⟩ := hI
    rw [List.take_length] at df
    have uu := u2.trans u'
    have j' : DJ d lw lc (m + 100) H' := cells_DJ.le _ _ _ j uu.h
    have lx : UpX [d, lw, lc] B H B' H' := .of uu
    have ap' : Apt [d, lw, lc] B' := lx.apt cells_DJ j ap
    have t' : Tbs T B' := t.le uu.b
    refine wb_one (ws_retJ (n := 100) (R := namesR [.int many]) ls ap' j' ?_ fun v e B3 H3 u3 j3 dv r => q v e B3 H3 (lx.trans cells_DJ j' u3) j3 dv r)
    refine (ej_lc (own := [("stem", 5)]) (tjs := [5]) (pat := patN) (n1 := 90) (n2 := 1) (k := 3) (RI := fun ds => ∃ ss, ss.Perm stems ∧ ds = Tk.cutD ss none (some many)) (RE := nameOf) cells_DJ off_DJ rfl ndNames (eij_lst ?_) ?_ (by decide)
      (blkOk_by (show blkC ["draw", "many", "some", "one", "other", "stem"] (defScope sNames) _ [("stem", 5)] = true by decide +kernel)) (fun s H C cl fp => eg_name ndNames) (fun ds _ d hd => ⟨[d], rfl, rfl⟩) (fun vs hv => ?_) (fun B' ds e es vs lb ri hd he hv s H C cl fp => ?_)).weak cells_DJ (fun e h => ?_) (by omega)
    · refine (ej_cutL (R := fun ss => ss.Perm stems) cells_DJ ((ej_call1 (d1 := .list stems) (i := 0) cells_DJ Fs hr (Nat.le_refl _) t' rfl (ee_var (i := 2) rfl df) ⟨stems, rfl, Nat.le_of_eq stems_len, fun x hx => ?_⟩).weak (n1 := 90) cells_DJ (fun e h => ?_) (Nat.le_refl _)) (eo_some (ee_var (i := 1) rfl (.int many)))).weak cells_DJ (fun e ⟨ds, h1, h2⟩ => ⟨_, h1, ds, h2, rfl⟩) (Nat.le_refl _)
      · have := List.all_eq_true.mp stems_ok x hx
        cases x with
        | str z => exact ⟨rfl, ((Bool.and_eq_true _ _).mp this).2⟩
        | _ => cases this
      · obtain ⟨xs, ys, e2, rfl, pm⟩ := h
        cases e2
        exact ⟨ys, rfl, pm⟩
    · rintro ds ⟨ss, hp, rfl⟩
      obtain ⟨k, rfl⟩ : ∃ k : Nat, many = (k : Int) := ⟨many.toNat, (Int.toNat_of_nonneg hm0).symm⟩
      rw [cutD_take (by rw [hp.length_eq, stems_len]; omega), List.length_take]
      omega
    · match vs, hv with
      | [a], _ => rfl
    · obtain ⟨ss, hp, rfl⟩ := ri
      cases he
      obtain ⟨y, rfl, hy⟩ := ds1 (K := K) hv
      have hmem : e ∈ stems := hp.mem_iff.mp (List.mem_of_mem_drop (List.mem_of_mem_take hd))
      have hb := List.all_eq_true.mp stems_ok e hmem
      cases e with
      | str z =>
        have hz : z.cps.size = 2 := of_decide_eq_true ((Bool.and_eq_true _ _).mp hb).1
        refine (ej_op (n1 := 0) (n2 := 1) (Ra := (· = .str z)) (Rb := (· ∈ sufs)) (R3 := nameOf (.str z)) cells_DJ op_add_str ?_ (ej_pure cells_DJ (ee_var (i := 5) rfl hy) rfl) (ej_pick Fp hr (Nat.le_refl _) (t'.le lb) (i := 0) rfl (ee_lst (ea_cons ee_str (ea_cons ee_str (ea_cons ee_str (ea_cons ee_str ea_nil)))) (by show 4 ≤ sizeLine; decide)) (by decide) (by decide))).weak cells_DJ (fun _ h => h) (by omega)
        refine rj_of fun d1 d2 h1 h2 => ?_
        subst h1
        have hb2 : ∃ b : Str, d2 = .str b ∧ b.length ≤ 2 := by
          unfold sufs at h2
          simp only [List.mem_cons, List.not_mem_nil, or_false] at h2
          rcases h2 with rfl | rfl | rfl | rfl
          · exact ⟨_, rfl, by decide⟩
          · exact ⟨_, rfl, by decide⟩
          · exact ⟨_, rfl, by decide⟩
          · exact ⟨_, rfl, by decide⟩
        obtain ⟨b, rfl, hbl⟩ := hb2
        exact ⟨.str (z ++ b), rr_addS (by
          have e : z.length = 2 := hz
          exact Nat.le_trans (show z.length + b.length ≤ 4 by omega) (by decide)), z, b, rfl, h2, rfl⟩
      | _ => cases hb
    · obtain ⟨ds, rs, rfl, ⟨ss, hp, rfl⟩, rr⟩ := h
      obtain ⟨k, rfl⟩ : ∃ k : Nat, many = (k : Int) := ⟨many.toNat, (Int.toNat_of_nonneg hm0).symm⟩
      have hle : k ≤ ss.length := by rw [hp.length_eq, stems_len]; omega
      rw [cutD_take hle] at rr
      have e2 := rr.length
      rw [List.length_take, Nat.min_eq_left hle] at e2
      exact ⟨ss, rs, ss.take k, rfl, hp, by rw [e2], by omega, rr⟩
end
end K0


set_option Elab.async false
set_option linter.all false
set_option maxRecDepth 100000
set_option maxHeartbeats 2000000
namespace Tk
open PySem PySem.Spec PyProof.Rows L2 GxR Gx
variable [LamTab]
/-- a built-in's answer, of one argument -/
def RCJ (K : PySem.W.Frag) (r : List V → Hp → VK → Prop) (B : Hp) (R R' : PyData → Prop) : Prop := ∀ B1 H1, Le B B1 → Le B1 H1 → ∀ x d, Dt K B1 x d → R d → ∀ Q : VK, (∀ v d' B2 H2, Up B1 H1 B2 H2 → Dt K B2 v d' → R' d' → Q v H2) → r [x] H1 Q
theorem rcj_of {K : PySem.W.Frag} {r : List V → Hp → VK → Prop} {B : Hp} {R R' : PyData → Prop} (h : ∀ d, R d → ∃ d', RC1 K r B [d] d' ∧ R' d') : RCJ K r B R R' := fun B1 H1 l l1 x d dx rd Q q => by
  obtain ⟨d', hr, r'⟩ := h d rd
  exact hr B1 H1 l l1 [x] (.cons dx .nil) Q fun v B2 H2 u dv => q v d' B2 H2 u dv r'
section
variable {X : Cx} {D : List Addr} {J : Nat → Hp → Prop} {e : Expr} {σ : L2.St} {B : Hp} {n : Nat} {R R' : PyData → Prop}
theorem ej_b1 {x : Str} {p pos : Pos} {id : String} {r : List V → Hp → VK → Prop} (C : Cells D J) (hc : CallR X (.builtin id) r) (hm : X.mg x = none) (hv : bootBuiltins x = some (.builtin id)) (hr : RCJ X.K r B R R') (ha : EJ X D J e σ B n R) (hg : Gl X x := by rfl)
    (h1 : x ≠ "__name__" := by decide) (h2 : (x == ("__debug__" : Str)) = false := by decide) (he : starEach [e] X.env = (false, eval e X.env) :: starEach [] X.env := by rfl) :
    EJ X D J (.Call (.Name x p) [e] [] pos) σ B n R' := fun m H1 l ap j Q q =>
  ⟨_, pe_callB hc hg hm hv (pa_cons pe_w pa_nil he) h1 h2 he rfl, ha m H1 l ap j _ fun v d B2 H2 u jj dv rd => hr B2 H2 u.b u.s v d dv rd Q fun v' d' B3 H3 u3 d3 r3 => q v' d' B3 H3 (u.trans C jj (.of u3)) (C.le _ _ _ jj u3.h) d3 r3⟩
theorem ej_t1 {x : Str} {p pos : Pos} {T : String} {r : List V → Hp → VK → Prop} (C : Cells D J) (hc : CallR X (.type T) r) (hm : X.mg x = none) (hv : bootBuiltins x = some (.type T)) (hr : RCJ X.K r B R R') (ha : EJ X D J e σ B n R) (hg : Gl X x := by rfl)
    (h1 : x ≠ "__name__" := by decide) (h2 : (x == ("__debug__" : Str)) = false := by decide) (he : starEach [e] X.env = (false, eval e X.env) :: starEach [] X.env := by rfl) :
    EJ X D J (.Call (.Name x p) [e] [] pos) σ B n R' := fun m H1 l ap j Q q =>
  ⟨_, pe_callTy hc hg hm hv (pa_cons pe_w pa_nil he) h1 h2 he rfl, ha m H1 l ap j _ fun v d B2 H2 u jj dv rd => hr B2 H2 u.b u.s v d dv rd Q fun v' d' B3 H3 u3 d3 r3 => q v' d' B3 H3 (u.trans C jj (.of u3)) (C.le _ _ _ jj u3.h) d3 r3⟩
end
theorem boot_sorted' : bootBuiltins "sorted" = some (.builtin "sorted") := by decide +kernel
theorem ds_strs {K : PySem.W.Frag} {H : Hp} : ∀ {ys : List Str} {vs : List V}, Ds K H vs (ys.map PyData.str) → vs = ys.map V.str
  | [], _, .nil => rfl
  | y :: ys, _, .cons h t => by
    cases h
    rw [ds_strs t]
    rfl
theorem strs_ds {K : PySem.W.Frag} {H : Hp} : ∀ ys : List Str, Ds K H (ys.map V.str) (ys.map PyData.str)
  | [] => .nil
  | y :: ys => .cons (.str y) (strs_ds ys)
theorem rcj_sorted {K : PySem.W.Frag} {B : Hp} {R : List Str → Prop} : RCJ K (rSortedS K) B (fun d => ∃ xs : List Str, d = .list (xs.map .str) ∧ xs.length < 64 ∧ R xs) (fun d => ∃ xs ys : List Str, d = .list (ys.map .str) ∧ ys.Perm xs ∧ sortedS ys = true ∧ R xs) := fun B1 H1 l l1 x d dx rd Q q => by
  obtain ⟨xs, rfl, hn, r⟩ := rd
  cases dx with
  | lst s t h0 =>
    have e := ds_strs h0
    subst e
    exact ⟨_, xs, rfl, sqL_le l1 s, hn, fun ys p pm so hp => q _ _ _ _ ((Up.refl l1).new hp fun ps z => by cases z) (.new_lst upd_same (strs_ds ys)) ⟨xs, ys, rfl, pm, so, r⟩⟩
end Tk
namespace K0
open PySem PySem.Spec PyProof.Rows L2 GxR Tk
variable [LamTab]
theorem names_ok : stems.all (fun s => sufs.all fun b => nameB (plusS s b) && okD (plusS s b)) = true := by decide +kernel
def strOf : PyData → List Nat
  | .str z => z.cps.toList
  | _ => []
theorem stems_nodup0 : (stems.map strOf).Nodup := by decide +kernel
theorem nodup_of_map {α β : Type} (f : α → β) : ∀ {l : List α}, (l.map f).Nodup → l.Nodup
  | [], _ => List.nodup_nil
  | x :: l, h => by
    rw [List.map_cons, List.nodup_cons] at h
    exact List.nodup_cons.mpr ⟨fun m => h.1 (List.mem_map_of_mem m), nodup_of_map f h.2⟩
theorem stems_nodup : stems.Nodup := nodup_of_map strOf stems_nodup0
theorem nameOf_inj {a b n : PyData} (ha : stemB a = true) (hb : stemB b = true) (h : nameOf a n) (k : nameOf b n) : a = b := by
  obtain ⟨z1, b1, rfl, _, e1⟩ := h
  obtain ⟨z2, b2, rfl, _, e2⟩ := k
  have s1 : z1.cps.size = 2 := of_decide_eq_true ((Bool.and_eq_true _ _).mp ha).1
  have s2 : z2.cps.size = 2 := of_decide_eq_true ((Bool.and_eq_true _ _).mp hb).1
  rw [e1] at e2
  have e3 : z1 ++ b1 = z2 ++ b2 := PyData.str.inj e2
  have e4 : (z1.cps ++ b1.cps).toList = (z2.cps ++ b2.cps).toList := congrArg (fun x : Str => x.cps.toList) e3
  rw [Array.toList_append, Array.toList_append] at e4
  have l1 : z1.cps.toList.length = z2.cps.toList.length := by rw [Array.length_toList, Array.length_toList, s1, s2]
  have e5 := (List.append_inj e4 l1).1
  have e6 : z1.cps = z2.cps := Array.toList_inj.mp e5
  have e7 : z1 = z2 := by
    cases z1
    cases z2
    cases e6
    rfl
  rw [e7]
theorem both_nodup : ∀ {zs xs : List PyData}, Both nameOf zs xs → zs.Nodup → (∀ z ∈ zs, stemB z = true) → xs.Nodup
  | _, _, .nil, _, _ => List.nodup_nil
  | _, _, .cons r t, h, k => by
    rw [List.nodup_cons] at h
    refine List.nodup_cons.mpr ⟨fun m => ?_, both_nodup t h.2 fun z hz => k z (List.mem_cons_of_mem _ hz)⟩
    obtain ⟨a', ha', r'⟩ := t.mem m
    exact h.1 (by rw [nameOf_inj (k _ List.mem_cons_self) (k _ (List.mem_cons_of_mem _ ha')) r r']; exact ha')
theorem both_names : ∀ {zs xs : List PyData}, Both nameOf zs xs → (∀ z ∈ zs, z ∈ stems) → ∀ x ∈ xs, nameB x = true ∧ okD x = true
  | _, _, .nil, _, x, h => by cases h
  | _, _, .cons r t, k, x, h => by
    rcases List.mem_cons.mp h with z | z
    · rw [z]
      have m := k _ List.mem_cons_self
      obtain ⟨z1, b1, rfl, hs, rfl⟩ := r
      have := List.all_eq_true.mp (List.all_eq_true.mp names_ok _ m) _ hs
      exact (Bool.and_eq_true _ _).mp this
    · exact both_names t (fun z hz => k z (List.mem_cons_of_mem _ hz)) x z
def allNames : List PyData := stems.flatMap fun s => sufs.map (plusS s)
theorem both_all : ∀ {zs xs : List PyData}, Both nameOf zs xs → (∀ z ∈ zs, z ∈ stems) → ∀ x ∈ xs, x ∈ allNames
  | _, _, .nil, _, x, h => by cases h
  | _, _, .cons r t, k, x, h => by
    rcases List.mem_cons.mp h with z | z
    · rw [z]
      have m := k _ List.mem_cons_self
      obtain ⟨z1, b1, rfl, hs, rfl⟩ := r
      exact List.mem_flatMap.mpr ⟨_, m, List.mem_map.mpr ⟨_, hs, rfl⟩⟩
    · exact both_all t (fun z hz => k z (List.mem_cons_of_mem _ hz)) x z
theorem lt_of_rise {a b : Str} (h : (!Spec.ltCps b.cps.toList a.cps.toList) = true) (n : a ≠ b) : ltD (.str a) (.str b) = true := by
  rw [ltCps_eq] at h
  show decide (a.cps.toList < b.cps.toList) = true
  refine decide_eq_true (Std.lt_of_le_of_ne (List.not_lt.mp fun z => ?_) fun z => n ?_)
  · rw [decide_eq_true z] at h
    cases h
  · have e : a.cps = b.cps := Array.toList_inj.mp z
    cases a
    cases b
    cases e
    rfl
theorem asc_rise : ∀ {ys : List Str}, ys.length ≤ 3 → sortedS ys = true → ys.Nodup → ascB (ys.map PyData.str) = true
  | [], _, _, _ => rfl
  | [a], _, _, _ => rfl
  | [a, b], _, s, n => by
    have s1 : (!Spec.ltCps b.cps.toList a.cps.toList) = true := ((Bool.and_eq_true _ _).mp s).1
    have n1 : a ≠ b := fun z => by rw [z] at n; simp at n
    show (ltD (.str a) (.str b) && true) = true
    rw [lt_of_rise s1 n1]
    rfl
  | [a, b, c], _, s, n => by
    have s1 : (!Spec.ltCps b.cps.toList a.cps.toList) = true := ((Bool.and_eq_true _ _).mp s).1
    have s2 : (!Spec.ltCps c.cps.toList b.cps.toList) = true := ((Bool.and_eq_true _ _).mp ((Bool.and_eq_true _ _).mp s).2).1
    have n1 : a ≠ b := fun z => by rw [z] at n; simp at n
    have n2 : b ≠ c := fun z => by rw [z] at n; simp at n
    show (ltD (.str a) (.str b) && (ltD (.str b) (.str c) && true)) = true
    rw [lt_of_rise s1 n1, lt_of_rise s2 n2]
    rfl
  | _ :: _ :: _ :: _ :: r, h, _, _ => by simp at h
theorem strs_of : ∀ {xs : List PyData}, (∀ x ∈ xs, isStr x = true) → ∃ ys : List Str, xs = ys.map PyData.str
  | [], _ => ⟨[], rfl⟩
  | x :: xs, h => by
    obtain ⟨ys, e⟩ := strs_of fun y hy => h y (List.mem_cons_of_mem _ hy)
    have := h x List.mem_cons_self
    cases x with
    | str z => exact ⟨z :: ys, by rw [e]; rfl⟩
    | _ => cases this
/-- what a drawn scope is -/
theorem scope_good {ss xs : List PyData} {xs' ys : List Str} (hp : ss.Perm stems) (hn : xs.length ≤ 3) (hb : Both nameOf (ss.take xs.length) xs) (e : xs = xs'.map PyData.str) (pm : ys.Perm xs') (so : sortedS ys = true) :
    scopeB (.tuple (ys.map PyData.str)) = true ∧ okD (.tuple (ys.map PyData.str)) = true ∧ ys.length ≤ 3 ∧ ∀ x ∈ ys.map PyData.str, x ∈ allNames := by
  subst e
  rw [List.length_map] at hn hb
  have hl : ys.length ≤ 3 := by rw [pm.length_eq]; exact hn
  have hm : ∀ z ∈ ss.take xs'.length, z ∈ stems := fun z hz => hp.mem_iff.mp (List.mem_of_mem_take hz)
  have nm := both_names hb hm
  have nd : (xs'.map PyData.str).Nodup := both_nodup hb ((List.Nodup.sublist (List.take_sublist _ _) (hp.nodup_iff.mpr stems_nodup))) fun z hz => List.all_eq_true.mp stems_ok z (hm z hz)
  have nd2 : ys.Nodup := pm.nodup_iff.mpr (nodup_of_map _ nd)
  have all2 : ∀ x ∈ ys.map PyData.str, nameB x = true ∧ okD x = true := fun x hx => nm x ((pm.map PyData.str).mem_iff.mp hx)
  refine ⟨?_, ?_, hl, fun x hx => both_all hb hm x ((pm.map PyData.str).mem_iff.mp hx)⟩
  · show (rowB (.tuple (ys.map PyData.str)) 0 3 && ((ys.map PyData.str).all nameB && ascB (ys.map PyData.str))) = true
    rw [asc_rise hl so nd2, List.all_eq_true.mpr fun x hx => (all2 x hx).1]
    show (decide (0 ≤ ((ys.map PyData.str).length : Int)) && decide (((ys.map PyData.str).length : Int) ≤ 3)) && true = true
    rw [decide_eq_true (by omega), decide_eq_true (by rw [List.length_map]; omega)]
    rfl
  · show (decide ((ys.map PyData.str).length ≤ 100000) && okDs (ys.map PyData.str)) = true
    rw [decide_eq_true (by rw [List.length_map]; omega), okDs_of fun x hx => (all2 x hx).2]
    rfl
abbrev sLScope : Stmt := t__law_scope
def mostP (ds : List PyData) : Prop := ds = [.int 3]
def scopeR (ds : List PyData) (r : PyData) : Prop := ∃ ys : List Str, r = .tuple (ys.map PyData.str) ∧ scopeB r = true ∧ okD r = true ∧ ys.length ≤ 3 ∧ ∀ x ∈ ys.map PyData.str, x ∈ allNames
section
variable {P : Program} {w : World} {K : PySem.W.Frag} {mg : Str → Option Value} {base : Heap} {f : Addr} {fd : FuncData} {T : List Addr} {d lw lc : Addr}
abbrev KnNames (P : Program) (w : World) (K : PySem.W.Frag) (mg : Str → Option Value) (base : Heap) (T : List Addr) (d lw lc : Addr) : Prop := KnJ P w K mg base 4 "_law_names" ["draw", "many"] T d lw lc 1 100 namesP namesR
theorem scLScope : FnScope ["draw", "most"] ["draw", "most"] (defScope sLScope) := ⟨rfl, rfl, rfl, by decide +kernel, rfl, by decide +kernel, by decide +kernel⟩
theorem ok_lscope (BL : Blt mg) (hso : mg "sorted" = none) (hTD : ∀ a ∈ [d, lw, lc], a ∉ T) (Ft : KnTake P w K mg base T d lw lc) (Fn : KnNames P w K mg base T d lw lc) (F : L2.Fun K "_law_scope" "_law_scope" sLScope f fd) :
    FnOk P w K mg base CX0 5 f fd ["draw", "most"] (spJ K T [d, lw, lc] (DJ d lw lc) (.ref d) 1 101 mostP scopeR) := by
  refine fn_draw hTD F scLScope rfl fun cdv A outer s H vs B ds m Q E hr hcd t l ap j hd hl hp q => ?_
  cases hp
  obtain ⟨v1, rfl, h1⟩ := ds1 (K := K) hd
  cases h1
  refine wb_one (ws_retJ (n := 101) (R := scopeR [.int 3]) l ap j ?_ fun v e B3 H3 u3 j3 dv r => q v e B3 H3 u3 j3 dv r)
  refine ej_t1 (R := fun d => ∃ ys : List Str, d = .list (ys.map .str) ∧ scopeR [.int 3] (.tuple (ys.map .str))) cells_DJ c_tup BL.tuple boot_tuple' (rcj_of fun d ⟨ys, h1, h2⟩ => ⟨.tuple (ys.map .str), by subst h1; exact rc_tup, h2⟩) ?_
  refine (ej_b1 (R := fun d => ∃ xs : List Str, d = .list (xs.map .str) ∧ xs.length < 64 ∧ ∃ ss : List PyData, ss.Perm stems ∧ xs.length ≤ 3 ∧ Both nameOf (ss.take xs.length) (xs.map .str)) cells_DJ cr_sortedS hso boot_sorted' rcj_sorted ?_).weak (n1 := 101) cells_DJ (fun e h => ?_) (Nat.le_refl _)
  · refine (ej_call (i := 0) cells_DJ Fn hr (Nat.le_refl _) t rfl (eaj_cons cells_DJ (ej_take Ft hr (by decide) t (i := 0) rfl (ee_op op_add rr_add (ee_var (i := 1) rfl (.int 3)) ee_int) (by decide) (by decide)) (fun B' l => eaj_nil)) (fun ds h => ?_)).weak cells_DJ (fun e h => ?_) (by omega)
    · obtain ⟨e, r, rfl, ⟨i, rfl, i0, i1⟩, rfl⟩ := h
      exact ⟨⟨i, rfl, i0, by omega⟩, rfl⟩
    · obtain ⟨ds, _, ss, ys, zs, rfl, hp, rfl, hn, hb⟩ := h
      obtain ⟨xs, rfl⟩ := strs_of fun x hx => name_str (both_names hb (fun z hz => hp.mem_iff.mp (List.mem_of_mem_take hz)) x hx).1
      rw [List.length_map] at hn hb
      exact ⟨xs, rfl, by omega, ss, hp, hn, hb⟩
  · obtain ⟨xs, ys, rfl, pm, so, ss, hp, hn, hb⟩ := h
    obtain ⟨g1, g2, g3, g4⟩ := scope_good (xs := xs.map .str) hp (by rw [List.length_map]; exact hn) (by rw [List.length_map]; exact hb) rfl pm so
    exact ⟨ys, rfl, ys, rfl, g1, g2, g3, g4⟩
end
end K0


set_option Elab.async false
set_option linter.all false
set_option maxRecDepth 100000
set_option maxHeartbeats 2000000
namespace Tk
open PySem PySem.Spec PyProof.Rows L2 GxR Gx
variable [LamTab]
section
variable {X : Cx} {tg iter elt : Expr} {scope : Scope} {own : List (Str × Nat)} {pos : Pos} {σ : L2.St} {B : Hp} {tjs : List Nat} {pat : PyData → Option (List PyData)} {D : List Addr} {J : Nat → Hp → Prop}
theorem ws_setLcJ {Dn : L2.Ends} {H : Hp} {m : Nat} {y : Str} {py spos : Pos} {i : Nat} {n1 n2 k : Nat} {RI : List PyData → Prop} {RE : PyData → PyData → Prop} (l : Le B H) (ap : Apt D B) (j : J (m + (n1 + k * n2)) H) (C : Cells D J) (O : Off D J) (hc : X.calm = true) (nd : X.N.Nodup) (hi : EIJ X D J tg iter σ B n1 RI) (hk : ∀ ds, RI ds → ds.length ≤ k) (hks : k < sizeLine) (hb : BlkOk X.N X.env.scope scope own)
    (hg : ∀ s H C cl fp, EG (blkX X s H scope C cl fp) tg tjs pat) (hpat : ∀ ds, RI ds → ∀ d ∈ ds, ∃ es, pat d = some es ∧ es.length = tjs.length)
    (hw : ∀ vs : List V, vs.length = tjs.length → wipe (setsS (wipe σ (own.map (·.2))) tjs vs) (own.map (·.2)) = wipe σ (own.map (·.2)))
    (body : ∀ B' ds d es vs, Le B B' → RI ds → d ∈ ds → pat d = some es → Ds X.K B' vs es → ∀ s H C cl fp, EJ (blkX X s H scope C cl fp) D J elt (setsS (wipe σ (own.map (·.2))) tjs vs) B' n2 (RE d))
    (q : ∀ A acc B2 H2 ds rs, H A = none → UpX D B H B2 H2 → J m H2 → B2 A = some (.lst acc) → H2 A = some (.lst acc) → Ds X.K B2 acc rs → RI ds → Both RE ds rs → Dn.nx (σ.set i (some (.ref A))) H2)
    (hsw : swapsWith (.ListComp elt [⟨tg, iter, [], 0⟩] scope pos) (some (.Name y py)) spos.line X.env = pure true) (hy : X.N[i]? = some y := by rfl) (hyl : X.env.scope.names.lookup y = some .local := by rfl) (hs : ∀ x, foldedSetIterable iter X.env x = pure x := by intro _; rfl) :
    WS X (.Assign [.Name y py] (.ListComp elt [⟨tg, iter, [], 0⟩] scope pos) spos) Dn σ H :=
  ⟨_, ps_setLc (wi := WI X tg iter) (g := fun v σ H Q => ∀ s H0 C cl fp, WG (blkX X s H0 scope C cl fp) tg v σ H Q) (tt := fun σ H Q => ∀ s H0 C cl fp, WTs (blkX X s H0 scope C cl fp) [] σ H Q) (te := fun σ H Q => ∀ s H0 C cl fp, WE (blkX X s H0 scope C cl fp) elt σ H Q) hc nd hy hyl hsw pi_w hb
    (fun s H C cl fp => ⟨fun pins s' σ H' v u Q I r h => pg_w.run pins s' σ H' v u Q I r (h s H C cl fp)⟩) (fun s H C cl fp => ⟨fun pins s' σ H' Q I h => pts_w.run pins s' σ H' Q I (h s H C cl fp)⟩) (fun s H C cl fp => ⟨fun pins s' σ H' Q I h => pe_w.run pins s' σ H' Q I (h s H C cl fp)⟩) hs,
    lcJ_read C O hc nd hi hk hks hg hpat hw body m H l ap j _ fun A acc B2 H2 ds rs h u jj e1 e2 dv ri rr => q A acc B2 H2 ds rs h u jj e1 e2 dv ri rr⟩
theorem ws_tgtJ {Dn : L2.Ends} {H : Hp} {m n : Nat} {e : Expr} {R : PyData → Prop} (l : Le B H) (ap : Apt D B) (j : J (m + n) H) (h : EJ X D J e σ B n R) (hg : EG X tg tjs pat) (hp : ∀ d, R d → ∃ es, pat d = some es) (q : ∀ vs es d B' H', UpX D B H B' H' → J m H' → pat d = some es → R d → Ds X.K B' vs es → Dn.nx (setsS σ tjs vs) H')
    (h1 : swapsWithSole [tg] e pos.line X.env = pure false := by rfl) (h2 : swappedStores [tg] e X.env = pure none := by rfl) (h3 : (assignEach [tg] X.env).map (fun x => x.2) = [assign tg X.env] := by rfl) : WS X (.Assign [tg] e pos) Dn σ H :=
  ⟨_, ps_asg pe_w pg_w h1 h2 h3, h m H l ap j _ fun v d B' H' u jj dv r => by
    obtain ⟨es, he⟩ := hp d r
    exact hg v d es σ B' H' u.s dv he _ fun vs dvs => q vs es d B' H' u jj he r dvs⟩
end
end Tk
namespace K0
open PySem PySem.Spec PyProof.Rows L2 GxR Tk
variable [LamTab]
abbrev sLWood : Stmt := t__law_wood
def woodP (ds : List PyData) : Prop := ∃ xs, ds = [.tuple xs, .int 5] ∧ xs.length ≤ 3
def woodRows (xs rs : List PyData) : Prop := 1 ≤ rs.length ∧ rs.length ≤ 5 ∧ ∀ x ∈ rs, ∃ (l : PyData) (a b : Int), x = .tuple [l, .int a, .int b] ∧ l ∈ lawLet [.tuple []] xs ∧ 0 ≤ a ∧ a < rs.length ∧ 0 ≤ b ∧ b < rs.length
def woodR (ds : List PyData) (r : PyData) : Prop := ∃ xs rs, ds = [.tuple xs, .int 5] ∧ r = .tuple [.str "wood", .tuple xs, .tuple rs] ∧ woodRows xs rs
section
variable {P : Program} {w : World} {K : PySem.W.Frag} {mg : Str → Option Value} {base : Heap} {f : Addr} {fd : FuncData} {T : List Addr} {d lw lc : Addr}
abbrev KnLet (P : Program) (w : World) (K : PySem.W.Frag) (mg : Str → Option Value) (base : Heap) (T : List Addr) : Prop := Kn P w K mg base 1 "_law_letters" ["scope"] (spF K T 1 letOfP lawLetF)
theorem scLWood : FnScope ["draw", "scope", "most", "many", "marks", "rows", "k"] ["draw", "scope", "most"] (defScope sLWood) := ⟨rfl, rfl, rfl, by decide +kernel, rfl, by decide +kernel, by decide +kernel⟩
theorem ndLWood : List.Nodup (["draw", "scope", "most", "many", "marks", "rows", "k"] : List Str) := by decide +kernel
theorem lawLet_small {xs : List PyData} (h : xs.length ≤ 3) : 0 < (lawLet [.tuple []] xs).length ∧ (lawLet [.tuple []] xs).length ≤ 8 := by
  rw [lawLet_len]
  have h1 : 2 ^ xs.length ≤ 2 ^ 3 := Nat.pow_le_pow_right (by decide) h
  have h2 : 0 < 2 ^ xs.length := Nat.pow_pos (by decide)
  simp only [List.length_cons, List.length_nil]
  omega
theorem ok_lwood (BL : Blt mg) (hTD : ∀ a ∈ [d, lw, lc], a ∉ T) (Ft : KnTake P w K mg base T d lw lc) (Fp : KnPick P w K mg base T d lw lc) (Fl : KnLet P w K mg base T) (F : L2.Fun K "_law_wood" "_law_wood" sLWood f fd) :
    FnOk P w K mg base CX0 4 f fd ["draw", "scope", "most"] (spJ K T [d, lw, lc] (DJ d lw lc) (.ref d) 2 16 woodP woodR) := by
  refine fn_draw hTD F scLWood rfl fun cdv A outer s H vs B ds m Q E hr hcd t l ap j hd hl hp q => ?_
  obtain ⟨xs, rfl, hn⟩ := hp
  obtain ⟨v1, v2, rfl, h1, h2⟩ := ds2 (K := K) hd
  cases h2
  obtain ⟨len0, len8⟩ := lawLet_small hn
  refine wb_cons (ws_tgtJ (m := m + 15) (n := 1) (tjs := [3, 4]) (pat := patT 2) (R := fun r => ∃ i : Int, r = .tuple [.int i, .list (lawLet [.tuple []] xs)] ∧ 1 ≤ i ∧ i ≤ 5) l ap j
    ((ej_tup (n := 1 + (0 + 0)) cells_DJ (eaj_cons cells_DJ ((ej_op (n1 := 0) (n2 := 1) (Ra := (· = .int 1)) (Rb := fun r => ∃ i : Int, r = .int i ∧ 0 ≤ i ∧ i < 5) (R3 := fun r => ∃ i : Int, r = .int i ∧ 1 ≤ i ∧ i ≤ 5) cells_DJ op_add (rj_of fun d1 d2 e1 e2 => ?_) (ej_pure cells_DJ ee_int rfl) (ej_take Ft hr (by decide) t (i := 0) rfl (ee_var (i := 2) rfl (.int 5)) (by decide) (by decide))).weak cells_DJ (fun _ h => h) (by omega))
      fun B' lb => eaj_cons cells_DJ (ej_pure (R := (· = .list (lawLet [.tuple []] xs))) cells_DJ (ee_call (f := lawLetF) (d := .list (lawLet [.tuple []] xs)) Fl hr (by decide) (t.le lb) (ea_cons (ee_var (i := 1) rfl (Dt.le lb h1)) ea_nil) ⟨xs, rfl, hn⟩) rfl) fun B' l => eaj_nil) fun ds h => ?_).weak cells_DJ (fun e h => ?_) (by omega))
    (eg_tup rfl (st_cons (st_cons st_nil ndLWood) ndLWood)) (fun e ⟨i, h, _⟩ => by subst h; exact ⟨_, rfl⟩) fun us es e B1 H1 u1 j1 pe re dus => ?_)
  · subst e1
    obtain ⟨i, rfl, i0, i1⟩ := e2
    exact ⟨.int (1 + i), rr_add, 1 + i, rfl, by omega, by omega⟩
  · obtain ⟨a, b, rfl, _, c, g, rfl, _, rfl⟩ := h
    show 2 ≤ sizeLine
    decide
  · obtain ⟨ds, rfl, a, b, rfl, ⟨i, rfl, i0, i1⟩, c, g, rfl, rfl, rfl⟩ := h
    exact ⟨i, rfl, i0, i1⟩
  obtain ⟨many, rfl, m1, m5⟩ := re
  cases pe
  obtain ⟨x, y, rfl, dx, dy⟩ := ds2 (K := K) dus
  cases dx
  have ap1 := u1.apt cells_DJ j ap
  have t1 := t.le u1.b
  refine wb_cons (ws_setLcJ (own := [("k", 6)]) (tjs := [6]) (pat := patN) (i := 5) (n1 := 0) (n2 := 3) (k := 5) (m := m) (RI := (· = upto many.toNat)) (RE := fun _ r => ∃ (l : PyData) (a b : Int), r = .tuple [l, .int a, .int b] ∧ l ∈ lawLet [.tuple []] xs ∧ 0 ≤ a ∧ a < many ∧ 0 ≤ b ∧ b < many) u1.s ap1 (cells_DJ.less _ _ _ j1 (by omega)) cells_DJ off_DJ rfl ndLWood (eij_pure cells_DJ (ei_range (n := many) BL.range (ee_var (i := 3) rfl (.int many)) (by omega) (by omega))) (fun ds e => ?_) (by decide)
    (blkOk_by (show blkC ["draw", "scope", "most", "many", "marks", "rows", "k"] (defScope sLWood) _ [("k", 6)] = true by decide +kernel)) (fun s H C cl fp => eg_name ndLWood) (fun ds _ d hd => ⟨[d], rfl, rfl⟩) (fun vs hv => ?_)
    (fun B' ds e es vs lb ri hd he hv s H C cl fp => ?_) (fun A acc B2 H2 ds rs hA u2 j2 e1 e2 dv ri rr => ?_) (sw_true rfl rfl rfl (by decide +kernel)))
  · subst e
    unfold upto
    rw [List.length_map, List.length_range]
    omega
  · match vs, hv with
    | [a], _ => rfl
  · cases he
    obtain ⟨v, rfl, hx⟩ := ds1 (K := K) hv
    refine (ej_tup (n := 1 + (1 + (1 + 0))) cells_DJ (eaj_cons cells_DJ (ej_pick Fp hr (by decide) (t1.le lb) (i := 0) rfl (ee_var (i := 4) rfl (Dt.le lb dy)) len0 (by omega)) fun B3 l3 => eaj_cons cells_DJ (ej_take Ft hr (by decide) ((t1.le lb).le l3) (i := 0) rfl (ee_var (i := 3) rfl (.int many)) (by omega) (by omega)) fun B4 l4 => eaj_cons cells_DJ (ej_take Ft hr (by decide) (((t1.le lb).le l3).le l4) (i := 0) rfl (ee_var (i := 3) rfl (.int many)) (by omega) (by omega)) fun B5 l5 => eaj_nil) (fun ds h => ?_)).weak cells_DJ (fun e h => ?_) (by omega)
    · obtain ⟨a, b, rfl, _, c, g, rfl, _, k, n, rfl, _, rfl⟩ := h
      show 3 ≤ sizeLine
      decide
    · obtain ⟨ds, rfl, a, b, rfl, ha, c, g, rfl, ⟨i1, rfl, g1, g2⟩, k, n, rfl, ⟨i2, rfl, g3, g4⟩, rfl⟩ := h
      exact ⟨a, i1, i2, rfl, ha, g1, g2, g3, g4⟩
  · have hlen : (rs.length : Int) = many := by
      rw [← rr.length, ri]
      unfold upto
      rw [List.length_map, List.length_range]
      omega
    have ux := u1.trans cells_DJ j1 u2
    refine wb_one (ws_ret (B := B2) (d := .tuple [.str "wood", .tuple xs, .tuple rs]) u2.s (ee_tup (ea_cons ee_str (ea_cons (ee_var (i := 1) rfl (Dt.le ux.b h1)) (ea_cons (ee_tuple BL (ee_var (i := 5) rfl (.new_lst e1 dv))) ea_nil))) (by show 3 ≤ sizeLine; decide)) fun v B3 H3 u3 d3 => ?_)
    refine q v _ B3 H3 (ux.trans cells_DJ j2 (.of u3)) (cells_DJ.le _ _ _ j2 u3.h) d3 ⟨xs, rs, rfl, rfl, by omega, by omega, fun x hx => ?_⟩
    obtain ⟨_, _, l, a, b, h1, h2, h3, h4, h5, h6⟩ := rr.mem hx
    exact ⟨l, a, b, h1, h2, h3, by omega, h5, by omega⟩
end
end K0


set_option Elab.async false
set_option linter.all false
set_option maxRecDepth 100000
set_option maxHeartbeats 2000000
namespace Tk
open PySem PySem.Spec PyProof.Rows L2 GxR Gx
variable [LamTab]
theorem ee_neg {X : Cx} {e : Expr} {σ : L2.St} {B : Hp} {i : Int} {pos : Pos} (ha : EE X e σ B (.int i)) : EE X (.UnaryOp .USub e pos) σ B (.int (-i)) := fun H1 l Q q =>
  ⟨_, pe_un un_neg pe_w, ha H1 l _ fun v B2 H2 u dv => by
    cases dv
    exact ⟨i, rfl, q _ B2 H2 u (.int _)⟩⟩
end Tk
namespace K0
open PySem PySem.Spec PyProof.Rows L2 GxR Tk
variable [LamTab]
abbrev sLBad : Stmt := t__law_bad_wood
def oneD : PyData := .tuple [.tuple [], .int 0, .int 0]
def wd (w : PyData) (a b : PyData) : PyData := .tuple [w, a, b]
def bad1 : List PyData := [.none, .int 5, .str "wood", .tuple [.str "wood", .tuple []], .tuple [.str "wood", .tuple [], .tuple []], .tuple [.str "wood", .tuple [], .tuple [.tuple [.tuple [], .int 0, .int 1]]], .tuple [.str "wood", .tuple [], .list [oneD]], .tuple [.str "wood", .tuple [.str "a", .str "a"], .tuple [oneD]]]
def bad2 : List PyData := [.tuple [.str "wood", .tuple [.str "b", .str "a"], .tuple [oneD]], .tuple [.str "wood", .tuple [.str "a", .str "b", .str "c", .str "d"], .tuple [oneD]], .tuple [.str "wood", .tuple [.str "a"], .tuple [.tuple [.tuple [.str "b"], .int 0, .int 0]]]]
def bad3 : List PyData := [.tuple [.str "wood", .tuple [], .tuple [.tuple [.int 0, .int 0]]], .tuple [.str "wood", .tuple [], .tuple [.tuple [.tuple [], .int 0, .bool true]]], .tuple [.str "woods", .tuple [], .tuple [oneD]], .list [.str "wood", .tuple [], .tuple [oneD]], .tuple [.str "wood", .tuple [], .tuple [.tuple [.tuple [], .int (-1), .int 0]]]]
def bad4 : List PyData := [.tuple [.str "wood", .tuple [.str "A"], .tuple [oneD]], .tuple [.str "wood", .tuple [.str "a"], .tuple [.tuple [.list [.str "a"], .int 0, .int 0]]], .tuple [.str "wood", .tuple [], .tuple [.tuple [.tuple [], .int 0, .int 0, .int 0]]]]
def bads : List PyData := bad1 ++ bad2 ++ bad3 ++ bad4
theorem bads_ok : bads.all (fun x => !woodB x && okD x) = true := by decide +kernel
section
variable {P : Program} {w : World} {K : PySem.W.Frag} {mg : Str → Option Value} {base : Heap} {f : Addr} {fd : FuncData} {T : List Addr} {d lw lc : Addr}
theorem scLBad : FnScope ["draw", "one", "some"] ["draw"] (defScope sLBad) := ⟨rfl, rfl, rfl, by decide +kernel, rfl, by decide +kernel, by decide +kernel⟩
theorem ndLBad : List.Nodup (["draw", "one", "some"] : List Str) := by decide +kernel
def badR (ds : List PyData) (r : PyData) : Prop := r ∈ bads
theorem ok_lbad (BL : Blt mg) (hTD : ∀ a ∈ [d, lw, lc], a ∉ T) (Fp : KnPick P w K mg base T d lw lc) (F : L2.Fun K "_law_bad_wood" "_law_bad_wood" sLBad f fd) :
    FnOk P w K mg base CX0 4 f fd ["draw"] (spJ K T [d, lw, lc] (DJ d lw lc) (.ref d) 0 1 (· = []) badR) := by
  refine fn_draw hTD F scLBad rfl fun cdv A outer s H vs B ds m Q E hr hcd t l ap j hd hl hp q => ?_
  have e0 : vs = [] := List.eq_nil_of_length_eq_zero hl
  subst e0
  refine wb_cons (ws_set (i := 1) (d := oneD) l (ee_tup (ea_cons (ee_tup ea_nil (by decide)) (ea_cons ee_int (ea_cons ee_int ea_nil))) (by decide)) (fun v1 B1 H1 u1 d1 => ?_) ndLBad)
  refine wb_cons (ws_set (i := 2) (d := .list bad1) u1.s ?_ (fun v2 B2 H2 u2 d2 => ?_) ndLBad)
  · unfold bad1
    repeat (first | exact ea_nil | exact ee_non | exact ee_int | exact ee_str | exact ee_bl | exact ee_var (i := 1) rfl d1 | refine ee_tup ?_ (by decide) | refine ee_lst ?_ (by decide) | refine ea_cons ?_ ?_)
  refine wb_cons (ws_set (i := 2) (d := .list (bad1 ++ bad2)) u2.s (ee_op op_catL (rr_catL (by decide)) (ee_var (i := 2) rfl d2) ?_) (fun v3 B3 H3 u3 d3 => ?_) ndLBad)
  · have d1 := Dt.le u2.b d1
    unfold bad2
    repeat (first | exact ea_nil | exact ee_non | exact ee_int | exact ee_str | exact ee_bl | exact ee_var (i := 1) rfl d1 | refine ee_tup ?_ (by decide) | refine ee_lst ?_ (by decide) | refine ea_cons ?_ ?_)
  refine wb_cons (ws_set (i := 2) (d := .list (bad1 ++ bad2 ++ bad3)) u3.s (ee_op op_catL (rr_catL (by decide)) (ee_var (i := 2) rfl d3) ?_) (fun v4 B4 H4 u4 d4 => ?_) ndLBad)
  · have d1 := Dt.le (u2.b.trans u3.b) d1
    unfold bad3
    repeat (first | exact ea_nil | exact ee_non | exact ee_int | exact ee_str | exact ee_bl | exact ee_var (i := 1) rfl d1 | exact ee_neg (i := 1) ee_int | refine ee_tup ?_ (by decide) | refine ee_lst ?_ (by decide) | refine ea_cons ?_ ?_)
  have uu := ((u1.trans u2).trans u3).trans u4
  have ux : UpX [d, lw, lc] B H B4 H4 := .of uu
  have j4 := cells_DJ.le _ _ _ j uu.h
  refine wb_one (ws_retJ (n := 1) (R := badR []) u4.s (ux.apt cells_DJ j ap) j4 (ej_pick (xs := bads) Fp hr (Nat.le_refl _) (t.le uu.b) (i := 0) rfl (ee_op op_catL (rr_catL (by decide)) (ee_var (i := 2) rfl d4) ?_) (by decide) (by decide)) fun v e B5 H5 u5 j5 dv r => q v e B5 H5 (ux.trans cells_DJ j4 u5) j5 dv r)
  have d1 := Dt.le ((u2.b.trans u3.b).trans u4.b) d1
  unfold bad4
  repeat (first | exact ea_nil | exact ee_non | exact ee_int | exact ee_str | exact ee_bl | exact ee_var (i := 1) rfl d1 | refine ee_tup ?_ (by decide) | refine ee_lst ?_ (by decide) | refine ea_cons ?_ ?_)
end
end K0


set_option Elab.async false
set_option linter.all false
set_option maxRecDepth 100000
set_option maxHeartbeats 2000000
namespace K0
open PySem PySem.Spec PyProof.Rows L2 GxR Tk
variable [LamTab]
abbrev sLPaths : Stmt := t__law_paths
abbrev sLPart : Stmt := t__law_part
abbrev sLPut : Stmt := t__law_put
/-- what stands at a path -/
def atP : PyData → List Nat → PyData
  | d, [] => d
  | .tuple xs, i :: p => atP (xs.getD i .none) p
  | _, _ => .none
def okP : PyData → List Nat → Prop
  | _, [] => True
  | .tuple xs, i :: p => i < xs.length ∧ okP (xs.getD i .none) p
  | _, _ => False
def putP : PyData → List Nat → PyData → PyData
  | _, [], x => x
  | .tuple xs, i :: p, x => .tuple (xs.take i ++ [putP (xs.getD i .none) p x] ++ xs.drop (i + 1))
  | _, _, _ => .none
def pathD (p : List Nat) : PyData := .tuple (p.map fun (n : Nat) => PyData.int (n : Int))
def natOf : PyData → Nat
  | .int i => i.toNat
  | _ => 0
theorem natOf_path : ∀ p : List Nat, (p.map fun (n : Nat) => PyData.int (n : Int)).map natOf = p
  | [] => rfl
  | n :: p => by
    rw [List.map_cons, List.map_cons, natOf_path p]
    show (n : Int).toNat :: p = n :: p
    rfl
def partF : List PyData → PyData
  | [d, .tuple p] => atP d (p.map natOf)
  | _ => .none
def partP (n : Nat) (ds : List PyData) : Prop := ∃ d p, ds = [d, pathD p] ∧ okP d p ∧ p.length ≤ n
def putF : List PyData → PyData
  | [d, .tuple p, x] => putP d (p.map natOf) x
  | _ => .none
def lens : PyData → List Nat → Prop
  | _, [] => True
  | .tuple xs, i :: p => xs.length ≤ 100000 ∧ lens (xs.getD i .none) p
  | _, _ => True
def putPre (n : Nat) (ds : List PyData) : Prop := ∃ d p x, ds = [d, pathD p, x] ∧ okP d p ∧ p.length ≤ n ∧ lens d p
theorem path_shaped (p : List Nat) : noDict (pathD p) = true ∧ SeqAt.shaped (pathD p) = true := by
  have e : (p.map fun (n : Nat) => PyData.int (n : Int)) = (p.map fun (n : Nat) => (n : Int)).map PyData.int := by rw [List.map_map]; rfl
  refine ⟨?_, ?_⟩
  · show noDicts _ = true
    rw [e]
    exact ints_noDicts _
  · unfold pathD
    rw [e]
    unfold SeqAt.shaped
    rw [Bool.and_eq_true]
    refine ⟨?_, ?_⟩
    · simp only [PyData.canLay0]
      exact ints_lay _
    · simp only [PyData.depth, ints_depth]
      decide
theorem path_eqv (i : Nat) (p : List Nat) : PyData.eqv (pathD (i :: p)) (.tuple []) = false := by
  unfold pathD
  simp [PyData.eqv, PyData.eqvAll]
theorem path_drop (i : Nat) (p : List Nat) : PyData.tuple (Tk.cutD ((i :: p).map fun (n : Nat) => PyData.int (n : Int)) (some (1 : Int)) none) = pathD p := by
  have := cutD_drop (xs := (i :: p).map fun (n : Nat) => PyData.int (n : Int)) (n := 1) (by simp)
  show PyData.tuple (Tk.cutD _ (some ((1 : Nat) : Int)) none) = _
  rw [this]
  rfl
section
variable {P : Program} {w : World} {K : PySem.W.Frag} {mg : Str → Option Value} {base : Heap} {f : Addr} {fd : FuncData} {T : List Addr} {d lw lc : Addr}
theorem scLPart : FnScope ["thing", "path"] ["thing", "path"] (defScope sLPart) := ⟨rfl, rfl, rfl, by decide +kernel, rfl, by decide +kernel, by decide +kernel⟩
theorem all_part (F : L2.Fun K "_law_part" "_law_part" sLPart f fd) (hm : mg "_law_part" = some (.ref f)) (b : Binds K fd ["thing", "path"] []) : ∀ n, Kn P w K mg base (n + 1) "_law_part" ["thing", "path"] (spF K T 2 (partP n) partF) := by
  intro n
  induction n with
  | zero =>
    refine Kn.mk' F hm (fn_pure F scLPart rfl fun cdv A outer s H vs B ds Q E hr hcd t l hd hl hp q => ?_) b
    obtain ⟨e, p, rfl, hok, hn⟩ := hp
    cases p with
    | cons i p => simp at hn
    | nil =>
    obtain ⟨v1, v2, rfl, h1, h2⟩ := ds2 hd
    refine wb_one (ws_ret (d := e) l ?_ q)
    exact ee_if (p := true) ((et_cmp (op_eqD (hu64 hr)) (rr_eqD (path_shaped []).1 rfl (path_shaped []).2 (by decide)) (ee_var (i := 1) rfl h2) (ee_tup ea_nil (by decide))).cast (by decide)) (fun _ => ee_var (i := 0) rfl h1) fun e => by cases e
  | succ n ih =>
    refine Kn.mk' F hm (fn_pure F scLPart rfl fun cdv A outer s H vs B ds Q E hr hcd t l hd hl hp q => ?_) b
    obtain ⟨e, p, rfl, hok, hn⟩ := hp
    obtain ⟨v1, v2, rfl, h1, h2⟩ := ds2 hd
    cases p with
    | nil =>
      refine wb_one (ws_ret (d := e) l ?_ q)
      exact ee_if (p := true) ((et_cmp (op_eqD (hu64 hr)) (rr_eqD (path_shaped []).1 rfl (path_shaped []).2 (by decide)) (ee_var (i := 1) rfl h2) (ee_tup ea_nil (by decide))).cast (by decide)) (fun _ => ee_var (i := 0) rfl h1) fun e => by cases e
    | cons i p =>
      cases e with
      | tuple xs =>
        obtain ⟨hi, hok⟩ := hok
        refine wb_one (ws_ret (d := atP (xs.getD i .none) p) l ?_ fun v B' H' u dv => q v B' H' u ?_)
        · refine ee_if (p := false) ((et_cmp (op_eqD (hu64 hr)) (rr_eqD (path_shaped _).1 rfl (path_shaped _).2 (by decide)) (ee_var (i := 1) rfl h2) (ee_tup ea_nil (by decide))).cast (path_eqv i p)) (fun e => by cases e) fun _ => ?_
          refine ee_call (f := partF) (ds := [xs.getD i .none, pathD p]) ih hr (Nat.le_refl _) t (ea_cons (ee_ix ix_tup (rr_ixT (atD hi)) (ee_var (i := 0) rfl h1) (ee_ix ix_tup (rr_ixT (d := .int (Int.ofNat i)) at0) (ee_var (i := 1) rfl h2) ee_int)) (ea_cons ((ee_cut (ee_var (i := 1) rfl h2) (eo_some ee_int) eo_no).cast (path_drop i p)) ea_nil)) ⟨_, p, rfl, hok, by simp at hn; exact hn⟩ ?_
          show atP _ ((p.map fun (n : Nat) => PyData.int (n : Int)).map natOf) = _
          rw [natOf_path]
        · show Dt K B' v (atP (.tuple xs) (((i :: p).map fun (n : Nat) => PyData.int (n : Int)).map natOf))
          rw [natOf_path]
          exact dv
      | _ => exact hok.elim
end
end K0


set_option Elab.async false
set_option linter.all false
set_option maxRecDepth 100000
set_option maxHeartbeats 2000000
namespace K0
open PySem PySem.Spec PyProof.Rows L2 GxR Tk
variable [LamTab]
mutual
/-- how deep tuples stand in tuples -/
def td : PyData → Nat
  | .tuple xs => 1 + tds xs
  | _ => 0
def tds : List PyData → Nat
  | [] => 0
  | x :: xs => max (td x) (tds xs)
end
mutual
/-- how great it is: signs, numbers and parts -/
def gz : PyData → Nat
  | .str x => 1 + x.length
  | .int i => 1 + i.natAbs
  | .list xs => 1 + gzs xs
  | .tuple xs => 1 + gzs xs
  | _ => 1
def gzs : List PyData → Nat
  | [] => 0
  | x :: xs => gz x + gzs xs
end
def consP (k : Nat) : PyData → PyData
  | .tuple p => .tuple (.int (k : Int) :: p)
  | _ => .none
mutual
def pathsL : PyData → List PyData
  | .tuple xs => .tuple [] :: pathsAll 0 xs
  | _ => [.tuple []]
def pathsAll : Nat → List PyData → List PyData
  | _, [] => []
  | k, x :: xs => (pathsL x).map (consP k) ++ pathsAll (k + 1) xs
end
mutual
theorem paths_mem : ∀ (d q : PyData), q ∈ pathsL d → ∃ p, q = pathD p ∧ okP d p ∧ p.length ≤ td d
  | .tuple xs, q, h => by
    simp only [pathsL] at h
    rcases List.mem_cons.mp h with z | z
    · exact ⟨[], z, trivial, Nat.zero_le _⟩
    · obtain ⟨i, p, hi, e, ok, hl⟩ := pathsAll_mem 0 xs q z
      refine ⟨i :: p, by rw [e, Nat.zero_add], ⟨hi, ok⟩, ?_⟩
      simp only [td, List.length_cons]
      omega
  | .none, q, h => by simp only [pathsL, List.mem_singleton] at h; exact ⟨[], h, trivial, Nat.zero_le _⟩
  | .bool _, q, h => by simp only [pathsL, List.mem_singleton] at h; exact ⟨[], h, trivial, Nat.zero_le _⟩
  | .int _, q, h => by simp only [pathsL, List.mem_singleton] at h; exact ⟨[], h, trivial, Nat.zero_le _⟩
  | .str _, q, h => by simp only [pathsL, List.mem_singleton] at h; exact ⟨[], h, trivial, Nat.zero_le _⟩
  | .list _, q, h => by simp only [pathsL, List.mem_singleton] at h; exact ⟨[], h, trivial, Nat.zero_le _⟩
  | .dict _, q, h => by simp only [pathsL, List.mem_singleton] at h; exact ⟨[], h, trivial, Nat.zero_le _⟩
theorem pathsAll_mem : ∀ (k : Nat) (xs : List PyData) (q : PyData), q ∈ pathsAll k xs → ∃ i p, i < xs.length ∧ q = pathD ((k + i) :: p) ∧ okP (xs.getD i .none) p ∧ p.length ≤ tds xs
  | k, [], q, h => by simp only [pathsAll] at h; cases h
  | k, x :: xs, q, h => by
    simp only [pathsAll] at h
    rcases List.mem_append.mp h with z | z
    · obtain ⟨r, hr, rfl⟩ := List.mem_map.mp z
      obtain ⟨p, rfl, ok, hl⟩ := paths_mem x r hr
      refine ⟨0, p, by simp, rfl, ok, ?_⟩
      simp only [tds]
      omega
    · obtain ⟨i, p, hi, e, ok, hl⟩ := pathsAll_mem (k + 1) xs q z
      refine ⟨i + 1, p, by simp only [List.length_cons]; omega, ?_, ok, ?_⟩
      · rw [e, show k + 1 + i = k + (i + 1) by omega]
      · simp only [tds]
        omega
end
theorem gz_pos (d : PyData) : 1 ≤ gz d := by cases d <;> simp only [gz] <;> omega
mutual
theorem paths_len : ∀ d : PyData, (pathsL d).length ≤ gz d
  | .tuple xs => by
    have := pathsAll_len 0 xs
    simp only [pathsL, gz, List.length_cons]
    omega
  | .none => by simp [pathsL, gz]
  | .bool _ => by simp [pathsL, gz]
  | .int _ => by simp [pathsL, gz]
  | .str _ => by simp [pathsL, gz]
  | .list _ => by simp [pathsL, gz]
  | .dict _ => by simp [pathsL, gz]
theorem pathsAll_len : ∀ (k : Nat) (xs : List PyData), (pathsAll k xs).length ≤ gzs xs
  | k, [] => by simp [pathsAll]
  | k, x :: xs => by
    have h1 := paths_len x
    have h2 := pathsAll_len (k + 1) xs
    simp only [pathsAll, gzs, List.length_append, List.length_map]
    omega
end
theorem pathsAll_take : ∀ {xs : List PyData} {k i : Nat} {x : PyData}, xs[i]? = some x → pathsAll k (xs.take (i + 1)) = pathsAll k (xs.take i) ++ (pathsL x).map (consP (k + i))
  | y :: xs, k, 0, x, h => by cases h; simp [pathsAll]
  | y :: xs, k, i + 1, x, h => by
    rw [List.take_succ_cons, List.take_succ_cons]
    simp only [pathsAll]
    rw [pathsAll_take (xs := xs) (k := k + 1) (i := i) h, List.append_assoc, show k + 1 + i = k + (i + 1) by omega]
theorem gzs_mem : ∀ {xs : List PyData} {x : PyData}, x ∈ xs → gz x ≤ gzs xs
  | y :: xs, x, h => by
    simp only [gzs]
    rcases List.mem_cons.mp h with z | z
    · rw [z]; omega
    · have := gzs_mem z
      omega
theorem tds_mem : ∀ {xs : List PyData} {x : PyData}, x ∈ xs → td x ≤ tds xs
  | y :: xs, x, h => by
    simp only [tds]
    rcases List.mem_cons.mp h with z | z
    · rw [z]; omega
    · have := tds_mem z
      omega
theorem gzs_len : ∀ {xs : List PyData}, xs.length ≤ gzs xs
  | [] => Nat.zero_le _
  | x :: xs => by
    have := gzs_len (xs := xs)
    have := gz_pos x
    simp only [gzs, List.length_cons]
    omega
theorem gzs_take : ∀ {xs : List PyData} (i : Nat), gzs (xs.take i) ≤ gzs xs
  | [], i => by simp
  | x :: xs, 0 => by simp [gzs]
  | x :: xs, i + 1 => by
    have := gzs_take (xs := xs) i
    simp only [List.take_succ_cons, gzs]
    omega
mutual
theorem td_le : ∀ d : PyData, td d ≤ gz d
  | .tuple xs => by
    have := tds_le xs
    simp only [td, gz]
    omega
  | .none => by simp [td]
  | .bool _ => by simp [td]
  | .int _ => by simp [td]
  | .str _ => by simp [td]
  | .list _ => by simp [td]
  | .dict _ => by simp [td]
theorem tds_le : ∀ xs : List PyData, tds xs ≤ gzs xs
  | [] => Nat.zero_le _
  | x :: xs => by
    have h1 := td_le x
    have h2 := tds_le xs
    simp only [tds, gzs]
    omega
end
def partsT : PyData → List PyData
  | .tuple xs => xs
  | _ => []
theorem paths_eq (d : PyData) : pathsL d = .tuple [] :: pathsAll 0 (partsT d) := by cases d <;> simp only [pathsL, pathsAll, partsT]
theorem partsT_gz (d : PyData) : gzs (partsT d) ≤ gz d := by cases d <;> simp only [gz, gzs, partsT] <;> omega
def pathsF : List PyData → PyData
  | [d] => .list (pathsL d)
  | _ => .none
def pathsPre (n : Nat) (ds : List PyData) : Prop := ∃ d, ds = [d] ∧ td d ≤ n ∧ gz d ≤ 100000
section
variable {P : Program} {w : World} {K : PySem.W.Frag} {mg : Str → Option Value} {base : Heap} {f : Addr} {fd : FuncData} {T : List Addr} {d lw lc : Addr}
theorem scLPaths : FnScope ["thing", "found", "k", "part", "path"] ["thing"] (defScope sLPaths) := ⟨rfl, rfl, rfl, by decide +kernel, rfl, by decide +kernel, by decide +kernel⟩
theorem ndLPaths : List.Nodup (["thing", "found", "k", "part", "path"] : List Str) := by decide +kernel
theorem step_paths (BL : Blt mg) (F : L2.Fun K "_law_paths" "_law_paths" sLPaths f fd) (hm : mg "_law_paths" = some (.ref f)) (b : Binds K fd ["thing"] []) (n : Nat) (ih : ∀ m, m + 1 = n → Kn P w K mg base (m + 1) "_law_paths" ["thing"] (spF K T 1 (pathsPre m) pathsF)) :
    Kn P w K mg base (n + 1) "_law_paths" ["thing"] (spF K T 1 (pathsPre n) pathsF) := by
  refine Kn.mk' F hm (fn_pure F scLPaths rfl fun cdv A outer s H vs B ds Q E hr hcd t l hd hl hp q => ?_) b
  obtain ⟨e, rfl, htd, hgz⟩ := hp
  obtain ⟨v1, rfl, h1⟩ := ds1 hd
  refine wb_cons (ws_set (i := 1) (d := .list [.tuple []]) l (ee_lst (ea_cons (ee_tup ea_nil (by decide)) ea_nil) (by decide)) (fun v2 B2 H2 u2 d2 => ?_) ndLPaths)
  have h12 := Dt.le u2.b h1
  refine wb_cons (ws_for (tjs := [2, 3]) (pat := patT 2) u2.s (ei_enumT (ds := partsT e) BL.enumerate (ee_if (p := isTup e) (et_val (ee_isTup BL (ee_var (i := 0) rfl h12))) (fun z => ?_) fun z => ?_)) (eg_tup rfl (st_cons (st_cons st_nil ndLPaths) ndLPaths)) (fun d hd => ?_) PassesOwn.never rfl
    (fun i σ' B' H' => Up B H B' H' ∧ ∃ vf a b, σ' = [some v1, some vf, a, b, none] ∧ Dt K B' vf (.list (.tuple [] :: pathsAll 0 ((partsT e).take i)))) (fun B' H' u => ⟨u2.trans u, v2, none, none, rfl, Dt.le u.b d2⟩) (fun i x es vs σ' B' H' B'' H'' hi hd' lb hI u4 he dvs N hN => ?_) fun σ' B' H' lb ls hI => ?_)
  · cases e with
    | tuple xs => exact ee_var (i := 0) rfl h12
    | _ => cases z
  · have ep : partsT e = [] := by cases e <;> first | rfl | cases z
    rw [ep]
    exact ee_tup ea_nil (by decide)
  · obtain ⟨i, x, rfl, _⟩ := mem_nums hd
    exact ⟨_, rfl⟩
  · obtain ⟨u', vf, a, b, rfl, df⟩ := hI
    rw [nums_get, Nat.zero_add] at hd'
    have hi : i < (partsT e).length := by rw [nums_len] at hi; exact hi
    have hx : (partsT e)[i]? = some (partsT e)[i] := List.getElem?_eq_getElem hi
    rw [hx] at hd'
    cases hd'
    obtain ⟨e1, _⟩ := patT_some he
    cases e1
    obtain ⟨y1, y2, rfl, k1, k2⟩ := ds2 (K := K) dvs
    cases k1
    have hmem : (partsT e)[i] ∈ partsT e := List.getElem_mem hi
    generalize (partsT e)[i] = x at hx k2 hmem he
    have df' := Dt.le u4.b df
    have gx : gz x ≤ 100000 := Nat.le_trans (gzs_mem hmem) (Nat.le_trans (partsT_gz e) hgz)
    have hn1 : ∃ m, m + 1 = n ∧ td x ≤ m := by
      cases e with
      | tuple xs =>
        simp only [td] at htd
        have := tds_mem (xs := xs) hmem
        exact ⟨n - 1, by omega, by omega⟩
      | _ => cases hmem
    obtain ⟨m, em, hm2⟩ := hn1
    have plen := paths_len x
    refine wb_one (ws_set (i := 1) (d := .list (.tuple [] :: pathsAll 0 ((partsT e).take (i + 1)))) u4.s ?_ (fun v3 B3 H3 u3 d3 => hN _ B3 H3 u3.b u3.s ⟨(u'.trans u4).trans u3, v3, _, _, rfl, d3⟩) ndLPaths)
    rw [pathsAll_take hx, ← List.cons_append, Nat.zero_add]
    have e0 : ((pathsL x).filter fun _ => true) = pathsL x := List.filter_eq_self.mpr fun _ _ => rfl
    refine ee_op op_catL (rr_catL ?_) (ee_var (i := 1) rfl df') (EE.cast (d := .list (((pathsL x).filter fun _ => true).map (consP i))) ?_ (by rw [e0]))
    · have h1 := pathsAll_len 0 ((partsT e).take i)
      have h2 := gzs_take (xs := partsT e) i
      have h3 := partsT_gz e
      rw [List.length_cons, List.length_map]
      exact Nat.le_trans (show (pathsAll 0 ((partsT e).take i)).length + 1 + (pathsL x).length ≤ 200001 by omega) (by decide)
    refine ee_lc (own := [("path", 4)]) (tjs := [4]) (pat := patN) (fun _ => true) (consP i) rfl ndLPaths (ei_lst (ee_call (f := pathsF) (ds := [x]) (d := .list (pathsL x)) (ih m em) hr (by omega) (t.le (u'.b.trans u4.b)) (ea_cons (ee_var (i := 3) rfl k2) ea_nil) ⟨x, rfl, hm2, gx⟩))
      (blkOk_by (show blkC ["thing", "found", "k", "part", "path"] (defScope sLPaths) _ [("path", 4)] = true by decide +kernel))
      (fun s H C cl fp => eg_name ndLPaths) (fun d hd => ⟨[d], rfl, rfl⟩) (fun vs hv => ?_) (fun B' d es vs lb hd he hv s H C cl fp => ets_nil) (fun B' d' es vs lb hd hb he hv s H C cl fp => ?_) (Nat.lt_of_le_of_lt (Nat.le_trans plen gx) (by decide))
    · match vs, hv with
      | [a], _ => rfl
    · cases he
      obtain ⟨y, rfl, hy⟩ := ds1 (K := K) hv
      obtain ⟨p, rfl, _, hl⟩ := paths_mem x d' hd
      have := td_le x
      exact ee_op op_catA (rr_catT (xs := [.int (i : Int)]) (by rw [List.length_map]; exact Nat.le_trans (show 1 + p.length ≤ 100001 by omega) (by decide))) (ee_tup (ea_cons (ee_var (i := 2) rfl (.int _)) ea_nil) (by show 1 ≤ sizeLine; decide)) (ee_var (i := 4) rfl hy)
  · obtain ⟨u', vf, a, b, rfl, df⟩ := hI
    rw [nums_len, List.take_length] at df
    refine wb_one (ws_ret (d := .list (pathsL e)) ls (ee_var (i := 1) rfl ?_) fun v B3 H3 u3 d3 => q v B3 H3 (u'.trans u3) d3)
    rw [paths_eq]
    exact df
theorem all_paths (BL : Blt mg) (F : L2.Fun K "_law_paths" "_law_paths" sLPaths f fd) (hm : mg "_law_paths" = some (.ref f)) (b : Binds K fd ["thing"] []) : ∀ n, Kn P w K mg base (n + 1) "_law_paths" ["thing"] (spF K T 1 (pathsPre n) pathsF) := by
  intro n
  induction n with
  | zero => exact step_paths BL F hm b 0 fun m e => by cases e
  | succ n ih => exact step_paths BL F hm b (n + 1) fun m e => by cases e; exact ih
theorem scLPut : FnScope ["thing", "path", "part"] ["thing", "path", "part"] (defScope sLPut) := ⟨rfl, rfl, rfl, by decide +kernel, rfl, by decide +kernel, by decide +kernel⟩
theorem all_put (F : L2.Fun K "_law_put" "_law_put" sLPut f fd) (hm : mg "_law_put" = some (.ref f)) (b : Binds K fd ["thing", "path", "part"] []) : ∀ n, Kn P w K mg base (n + 1) "_law_put" ["thing", "path", "part"] (spF K T 3 (putPre n) putF) := by
  intro n
  induction n with
  | zero =>
    refine Kn.mk' F hm (fn_pure F scLPut rfl fun cdv A outer s H vs B ds Q E hr hcd t l hd hl hp q => ?_) b
    obtain ⟨e, p, x, rfl, hok, hn, _⟩ := hp
    cases p with
    | cons i p => simp at hn
    | nil =>
    obtain ⟨v1, v2, v3, rfl, h1, h2, h3⟩ := ds3 hd
    refine wb_one (ws_ret (d := x) l ?_ fun v B' H' u dv => q v B' H' u ?_)
    · exact ee_if (p := true) ((et_cmp (op_eqD (hu64 hr)) (rr_eqD (path_shaped []).1 rfl (path_shaped []).2 (by decide)) (ee_var (i := 1) rfl h2) (ee_tup ea_nil (by decide))).cast (by decide)) (fun _ => ee_var (i := 2) rfl h3) fun e => by cases e
    · have e2 : putF [e, pathD [], x] = x := by cases e <;> rfl
      rw [e2]
      exact dv
  | succ n ih =>
    refine Kn.mk' F hm (fn_pure F scLPut rfl fun cdv A outer s H vs B ds Q E hr hcd t l hd hl hp q => ?_) b
    obtain ⟨e, p, x, rfl, hok, hn, hln⟩ := hp
    obtain ⟨v1, v2, v3, rfl, h1, h2, h3⟩ := ds3 hd
    cases p with
    | nil =>
      refine wb_one (ws_ret (d := x) l ?_ fun v B' H' u dv => q v B' H' u ?_)
      · exact ee_if (p := true) ((et_cmp (op_eqD (hu64 hr)) (rr_eqD (path_shaped []).1 rfl (path_shaped []).2 (by decide)) (ee_var (i := 1) rfl h2) (ee_tup ea_nil (by decide))).cast (by decide)) (fun _ => ee_var (i := 2) rfl h3) fun e => by cases e
      · have e2 : putF [e, pathD [], x] = x := by cases e <;> rfl
        rw [e2]
        exact dv
    | cons i p =>
      cases e with
      | tuple xs =>
        obtain ⟨hi, hok⟩ := hok
        obtain ⟨hl1, hln⟩ := hln
        have c1 : Tk.cutD xs none (some (Int.ofNat i)) = xs.take i := cutD_take (by omega)
        have c2 : Tk.cutD xs (some (Int.ofNat i + 1)) none = xs.drop (i + 1) := cutD_drop (n := i + 1) (by omega)
        refine wb_one (ws_ret (d := putP (.tuple xs) (i :: p) x) l ?_ fun v B' H' u dv => q v B' H' u ?_)
        · refine ee_if (p := false) ((et_cmp (op_eqD (hu64 hr)) (rr_eqD (path_shaped _).1 rfl (path_shaped _).2 (by decide)) (ee_var (i := 1) rfl h2) (ee_tup ea_nil (by decide))).cast (path_eqv i p)) (fun e => by cases e) fun _ => ?_
          refine ee_op op_catA (rr_catT (xs := xs.take i ++ [putP (xs.getD i .none) p x]) (ys := xs.drop (i + 1)) ?_) (ee_op op_catA (rr_catT (xs := xs.take i) (ys := [putP (xs.getD i .none) p x]) ?_) ((ee_cut (ee_var (i := 0) rfl h1) eo_no (eo_some (ee_ix ix_tup (rr_ixT (d := .int (Int.ofNat i)) at0) (ee_var (i := 1) rfl h2) ee_int))).cast (by rw [c1]))
            (ee_tup (ea_cons (ee_call (f := putF) (ds := [xs.getD i .none, pathD p, x]) ih hr (Nat.le_refl _) t (ea_cons (ee_ix ix_tup (rr_ixT (atD hi)) (ee_var (i := 0) rfl h1) (ee_ix ix_tup (rr_ixT (d := .int (Int.ofNat i)) at0) (ee_var (i := 1) rfl h2) ee_int)) (ea_cons ((ee_cut (ee_var (i := 1) rfl h2) (eo_some ee_int) eo_no).cast (path_drop i p)) (ea_cons (ee_var (i := 2) rfl h3) ea_nil))) ⟨_, p, x, rfl, hok, by simp at hn; exact hn, hln⟩ ?_) ea_nil) (by show 1 ≤ sizeLine; decide)))
            ((ee_cut (ee_var (i := 0) rfl h1) (eo_some (ee_op op_add rr_add (ee_ix ix_tup (rr_ixT (d := .int (Int.ofNat i)) at0) (ee_var (i := 1) rfl h2) ee_int) ee_int)) eo_no).cast (by rw [c2]))
          · rw [List.length_append, List.length_take, List.length_drop, List.length_singleton]
            exact Nat.le_trans (show min i xs.length + 1 + (xs.length - (i + 1)) ≤ 100001 by omega) (by decide)
          · rw [List.length_take, List.length_singleton]
            exact Nat.le_trans (show min i xs.length + 1 ≤ 100001 by omega) (by decide)
          · show putP _ ((p.map fun (n : Nat) => PyData.int (n : Int)).map natOf) _ = _
            rw [natOf_path]
        · show Dt K B' v (putP (.tuple xs) (((i :: p).map fun (n : Nat) => PyData.int (n : Int)).map natOf) x)
          rw [natOf_path]
          exact dv
      | _ => exact hok.elim
end
end K0


set_option Elab.async false
set_option linter.all false
set_option maxRecDepth 100000
set_option maxHeartbeats 1000000
/-! Rv0: t[::-1] of a tuple. -/
namespace Tk
open PySem PySem.Spec PyProof.Rows L2 HT
variable [LamTab]
section
variable {prog : Program} {w : World} {A : Around} {E : Value → Shared → Prop} {s : Shared}
theorem rev_places (n : Nat) : Builtin.Slice.slicePlaces ((n : Int) - 1) (-1) (-1) = n := by
  unfold Builtin.Slice.slicePlaces
  rw [if_neg (show ¬ ((-1 : Int) > 0) by decide)]
  by_cases h : ((n : Int) - 1) > -1
  · rw [if_pos h, show -(-1 : Int) = 1 by decide, Int.ediv_one]
    omega
  · rw [if_neg h]
    have : n = 0 := by omega
    subst this
    rfl
theorem fm_map {α β : Type} {f : α → Option β} {g : α → β} : ∀ {l : List α}, (∀ x ∈ l, f x = some (g x)) → l.filterMap f = l.map g
  | [], _ => rfl
  | x :: l, h => by
    rw [List.filterMap_cons, h x List.mem_cons_self, List.map_cons, fm_map fun y hy => h y (List.mem_cons_of_mem _ hy)]
theorem rev_pick (xs : Array Value) : ((List.range xs.size).filterMap fun (m : Nat) => xs[((xs.size : Int) - 1 + (m : Int) * (-1)).toNat]?) = xs.toList.reverse := by
  have e : ((List.range xs.size).filterMap fun (m : Nat) => xs[((xs.size : Int) - 1 + (m : Int) * (-1)).toNat]?) = (List.range xs.size).map fun m => xs.toList.reverse.getD m Value.none := by
    refine fm_map fun m hm => ?_
    have hm : m < xs.size := List.mem_range.mp hm
    have i1 : ((xs.size : Int) - 1 + (m : Int) * (-1)).toNat = xs.size - 1 - m := by omega
    have hr : m < xs.toList.reverse.length := by rw [List.length_reverse, Array.length_toList]; exact hm
    rw [i1]
    show _ = some _
    rw [List.getD_eq_getElem?_getD, List.getElem?_reverse (by rw [Array.length_toList]; exact hm), Array.length_toList, Array.getElem?_toList]
    have h2 : xs.size - 1 - m < xs.size := by omega
    rw [Array.getElem?_eq_getElem h2]
    rfl
  rw [e]
  refine List.ext_getElem ?_ fun i h1 h2 => ?_
  · rw [List.length_map, List.length_range, List.length_reverse, Array.length_toList]
  · rw [List.getElem_map, List.getElem_range, List.getD_eq_getElem?_getD, List.getElem?_eq_getElem h2]
    rfl
theorem applied_rev {sl : Addr} {u : Tok} {n : Nat} {Q : Int × Int × Nat → Shared → Prop} (hs : s.heap.IsSliceOf sl .none .none (.int (-1) u)) (h : Q ((n : Int) - 1, -1, n) s) : wpAny (model prog w) A (Builtin.Slice.sliceApplied (.ref sl) (pure (n : Int))) Q E s := by
  obtain ⟨os, hos, hcs, hds⟩ := id hs
  unfold Builtin.Slice.sliceApplied Builtin.Slice.sliceFields
  refine wpAny_bind (wpAny_bind (wpAny_field hos hds (x := .none) rfl (wpAny_bind (wpAny_field hos hds (x := .none) rfl (wpAny_bind (wpAny_field hos hds (x := .int (-1) u) rfl (wpAny_pure ?_)))))))
  refine wpAny_bind (slicePart_int ?_)
  show wpAny _ _ (if ((-1 : Int) == 0) = true then _ else _) _ _ s
  rw [if_neg (by decide)]
  refine wpAny_bind (slicePart_none (wpAny_bind (slicePart_none (wpAny_bind (wpAny_pure ?_)))))
  show wpAny _ _ (pure ((n : Int) - 1, (-1 : Int), Builtin.Slice.slicePlaces ((n : Int) - 1) (-1) (-1))) _ _ s
  rw [rev_places]
  exact wpAny_pure h
theorem getItem_rev {t sl : Addr} {items : Array Value} {u : Tok} {Q : Value → Shared → Prop} (ht : IsTup s.heap t items) (hs : s.heap.IsSliceOf sl .none .none (.int (-1) u))
    (h : Q (.ref s.heap.objs.size) { s with heap := s.heap.push { cls := .type "tuple", data := .seq items.toList.reverse.toArray } }) (hsz : items.size ≤ sizeLine) : wpAny (model prog w) A (getItem (.ref t) (.ref sl)) Q E s := by
  have hok : sizeOk (.seq items.toList.reverse.toArray) := by
    show items.toList.reverse.toArray.size ≤ sizeLine
    rw [List.size_toArray, List.length_reverse, Array.length_toList]
    exact hsz
  obtain ⟨os, hos, hcs, hds⟩ := id hs
  have hTs : s.TypeIs (.ref sl) "slice" := ⟨os, hos, hcs⟩
  unfold getItem
  try with_reducible refine wpAny_holding ?_
  first | refine wpAny_bind (wpAny_pure ?_) | skip
  refine wpAny_bind (wpAny_sequenceKey ht.typeIs (by decide) ?_)
  refine wpAny_bind (wpAny_callSpecial?_slot (name := Str.ofString "__getitem__") ht.typeIs PyProof.Rows.slot_tuple_getitem
    (wpAny_call_entry PyProof.Rows.slot_tuple_getitem ht.typeIs entry_tuple_getitem ?_ (args_tuple_getitem _ _)))
  show wpAny _ _ (Builtin.Tuple.tupleItemsOf (.ref t) >>= _) _ _ s
  refine wpAny_bind (tupleItemsOf_ ht ?_)
  refine wpAny_bind (wpAny_typeOf hTs ?_)
  rw [if_pos (by decide)]
  refine wpAny_bind (applied_rev hs ?_)
  show wpAny _ _ (if (((items.size : Int) - 1) == 0 && (-1 : Int) == 1 && items.size == items.size) = true then _ else _) _ _ s
  rw [if_neg (by rw [show ((-1 : Int) == 1) = false by decide, Bool.and_false, Bool.false_and]; decide), rev_pick]
  first
    | exact wpAny_bind (m := Builtin.Tuple.tupleExact _) (wpAny_newObj_type (wpAny_pure ⟨_, rfl, wpAny_pure h⟩) hok)
    | exact wpAny_bind (m := Builtin.Tuple.tupleExact _) (wpAny_newObj_type (wpAny_bind (wpAny_pure (wpAny_pure ⟨_, rfl, wpAny_pure h⟩))) hok)
    | exact wpAny_bind (wpAny_bind (m := Builtin.Tuple.tupleExact _) (wpAny_newObj_type (wpAny_pure (wpAny_pure ⟨_, rfl, wpAny_pure h⟩)) hok))
    | exact wpAny_bind (wpAny_bind (m := Builtin.Tuple.tupleExact _) (wpAny_newObj_type (wpAny_pure ⟨_, rfl, wpAny_pure h⟩) hok))
end
section
variable {X : Cx} {e c : Expr} {te tc : TE} {pos p2 : Pos}
def rRevT (K : PySem.W.Frag) : V → Hp → VK → Prop := fun x H Q => ∃ a xs, x = .ref a ∧ SqT K H a xs ∧ ∀ p, H p = none → Q (.ref p) (upd H p (.tup xs.reverse))
theorem vals_rev : ∀ {xs : List V} {us : List Value}, Vals xs us → Vals xs.reverse us.reverse
  | _, _, .nil => .nil
  | _, _, .cons h t => by
    rw [List.reverse_cons, List.reverse_cons]
    exact (vals_rev t).append (.cons h .nil)
theorem pe_rev (he : PE X e te) (hc : PE X c tc) : PE X (.Subscript e (.Slice none none (some c) p2) pos) (fun σ H Q => te σ H fun x H1 => tc σ H1 fun y H2 => y = .int (-1) ∧ rRevT X.K x H2 Q) := by
  refine ⟨fun pins s σ H Q I h => ?_⟩
  refine Subscript_ (thn (he.run pins s σ H _ I h) fun v s1 ⟨x, H1, I1, r1, q1⟩ => ?_)
  refine wpAny_Slice ?_
  rw [evalPart_none]
  refine wpAny_pure ?_
  refine wpAny_pure ?_
  rw [evalPart_some]
  refine thn (hc.run pins s1 σ H1 _ I1 q1) fun vu s3 ⟨y, H3, I3, ry, hy, a, xs, hxa, hx, q⟩ => ?_
  subst hy hxa
  obtain ⟨u, rfl⟩ := ry
  cases r1
  have I4 : Inv X pins σ H3 { s3 with heap := s3.heap.push { cls := .type "slice", data := .fields #[.none, .none, .int (-1) u] } } := I3.kept (t' := s3.toks) fun b ob q => Heap.get?_push_of_some _ q
  obtain ⟨its, r, ht, hz⟩ := I4.tuple hx
  have hlen : its.toArray.size = xs.length := by rw [List.size_toArray]; exact r.length.symm
  show wpAny (model X.prog X.w) X.A (subscriptTail e (.Slice none none (some c) p2) (.ref a) (.ref s3.heap.objs.size)) (EP X pins σ Q) X.xe { s3 with heap := s3.heap.push { cls := .type "slice", data := .fields #[.none, .none, .int (-1) u] } }
  refine tail_any (ops := [.ref a, .ref s3.heap.objs.size]) ht.typeIs PyProof.Rows.slot_tuple_getitem.lookup ?_ (by with_unfolding_all rfl)
  refine getItem_rev ht (Heap.IsSliceOf.new ..) ?_ (by rw [hlen]; exact hz)
  refine ⟨.ref _, _, I4.laid (t' := s3.toks) (o := .tup xs.reverse) (fun b ob q => Heap.get?_push_of_some _ q) (Nat.le_refl _) ?_, rfl, q _ (I4.hok.fresh (Nat.le_refl _))⟩
  exact ⟨by rw [List.length_reverse]; exact hz, _, vals_rev r, IsTup.new _ _⟩
end
section
open GxR Gx
variable {X : Cx} {e c : Expr} {σ : L2.St} {B : Hp} {pos p2 : Pos} {xs : List PyData} {K : PySem.W.Frag} {H : Hp}
theorem _root_.Tk.Ds.rev : ∀ {vs : List V} {ds : List PyData}, Ds K H vs ds → Ds K H vs.reverse ds.reverse
  | _, _, .nil => .nil
  | _, _, .cons h t => by
    rw [List.reverse_cons, List.reverse_cons]
    exact (Ds.rev t).snoc h
theorem ee_rev (ha : EE X e σ B (.tuple xs)) (hc : EE X c σ B (.int (-1))) : EE X (.Subscript e (.Slice none none (some c) p2) pos) σ B (.tuple xs.reverse) := fun H1 l Q q =>
  ⟨_, pe_rev pe_w pe_w, ha H1 l _ fun v B2 H2 u2 dv => hc.mono u2.b H2 u2.s _ fun y B3 H3 u3 dy => by
    cases dy
    cases dv with
    | tup s t h0 =>
      have u := u2.trans u3
      exact ⟨rfl, _, _, rfl, sqT_le (u3.b.trans u3.s) s, fun p hp => q _ _ _ (u.new hp fun ps z => by cases z) (.new_tup upd_same (Ds.rev (Ds.le (u3.b.trans (Le.new (u3.s.there p hp))) h0)))⟩⟩
end
end Tk


set_option Elab.async false
set_option linter.all false
set_option maxRecDepth 100000
set_option maxHeartbeats 2000000
namespace Tk
open PySem PySem.Spec PyProof.Rows L2 GxR Gx
variable [LamTab]
section
variable {X : Cx} {D : List Addr} {J : Nat → Hp → Prop} {a b c e : Expr} {σ : L2.St} {B : Hp} {n : Nat} {R : Bool → Prop} {pos : Pos}
theorem etj_and {p : Bool} (C : Cells D J) (ha : ET X a σ B p) (hb : p = true → ETJ X D J b σ B n R) : ETJ X D J (.BoolOp .And [a, b] pos) σ B n (fun k => k = true → p = true) := fun m H1 l ap j Q q =>
  ⟨_, PW.pt (pw_and pt_w (pw_and1 pt_w)), ha H1 l _ fun H2 l2 => by
    cases p with
    | true =>
      rw [if_pos rfl]
      exact hb rfl m H2 (l.trans l2) ap (C.le _ _ _ j l2) Q fun b H3 lx lb jj r => q b H3 ((LeX.of l2).trans lx) lb jj fun _ => rfl
    | false =>
      rw [if_neg Bool.false_ne_true]
      exact q false H2 (.of l2) (l.trans l2) (C.less _ _ _ (C.le _ _ _ j l2) (by omega)) fun z => by cases z⟩
theorem etj_and3 {p r : Bool} (C : Cells D J) (ha : ET X a σ B p) (hb : p = true → ET X b σ B r) (hc : p = true → r = true → ETJ X D J c σ B n R) : ETJ X D J (.BoolOp .And [a, b, c] pos) σ B n (fun k => k = true → p = true ∧ r = true) := fun m H1 l ap j Q q =>
  ⟨_, PW.pt (pw_and pt_w (pw_and pt_w (pw_and1 pt_w))), ha H1 l _ fun H2 l2 => by
    cases p with
    | true =>
      rw [if_pos rfl]
      refine hb rfl H2 (l.trans l2) _ fun H3 l3 => ?_
      cases r with
      | true =>
        rw [if_pos rfl]
        exact hc rfl rfl m H3 ((l.trans l2).trans l3) ap (C.le _ _ _ j (l2.trans l3)) Q fun b H4 lx lb jj r => q b H4 ((LeX.of (l2.trans l3)).trans lx) lb jj fun _ => ⟨rfl, rfl⟩
      | false =>
        rw [if_neg Bool.false_ne_true]
        exact q false H3 (.of (l2.trans l3)) ((l.trans l2).trans l3) (C.less _ _ _ (C.le _ _ _ j (l2.trans l3)) (by omega)) fun z => by cases z
    | false =>
      rw [if_neg Bool.false_ne_true]
      exact q false H2 (.of l2) (l.trans l2) (C.less _ _ _ (C.le _ _ _ j l2) (by omega)) fun z => by cases z⟩
theorem ee_upper {x : Str} {apos cpos : Pos} (h : EE X e σ B (.str x)) (hx : x.length ≤ 5592405) (hbase : attributeBase e "upper" X.env (eval e X.env) = eval e X.env := by rfl) (hline : (apos.endLine == cpos.line) = true := by rfl) : EE X (.Call (.Attribute e "upper" apos) [] [] cpos) σ B (.str (Txt.upper x)) := fun H1 l Q q =>
  ⟨_, pe_upper pe_w hbase hline, h H1 l _ fun v B2 H2 u dv => by
    cases dv
    exact ⟨⟨x, rfl⟩, x, rfl, rfl, hx, q _ B2 H2 u (.str _)⟩⟩
def rStrI : List V → Hp → VK → Prop := fun xs H Q => ∃ i, xs = [V.int i] ∧ i.natAbs.log2 < 1920 ∧ Q (.str (toString i)) H
theorem c_strI {X : Cx} : CallR X (.type "str") rStrI := call_str_int
theorem ee_strI {i : Int} {p pos : Pos} (BL : Blt X.mg) (h : EE X e σ B (.int i)) (hi : i.natAbs.log2 < 1920) (hg : Gl X "str" := by rfl) (he : starEach [e] X.env = (false, eval e X.env) :: starEach [] X.env := by rfl) : EE X (.Call (.Name "str" p) [e] [] pos) σ B (.str (toString i)) :=
  ee_callTy c_strI hg BL.str boot_str' (fun B1 H1 l l1 vs hv Q q => by
    obtain ⟨v, rfl, hx⟩ := ds1 hv
    cases hx
    exact ⟨i, rfl, hi, q _ B1 H1 (Up.refl l1) (.str _)⟩) (ea_cons h ea_nil he) (by decide) (by decide) he rfl
theorem ee_cutS {x : Str} {lo hi : Option Expr} {i j : Option Int} {p2 : Pos} (ha : EE X e σ B (.str x)) (hx : x.length ≤ sizeLine) (h1 : EO X lo σ B i) (h2 : EO X hi σ B j) : EE X (.Subscript e (.Slice lo hi none p2) pos) σ B (.str (L2.cutS x i j)) := fun H1 l Q q =>
  ⟨_, pe_slice sl_str pe_w po_w po_w, ha H1 l _ fun v B2 H2 u dv => h1 H2 (u.b.trans u.s) _ fun H3 l3 => h2 H3 ((u.b.trans u.s).trans l3) _ fun H4 l4 => by
    cases dv
    exact ⟨x, rfl, hx, q _ B2 H4 ((u.tab l3).tab l4) (.str _)⟩⟩
theorem ee_dnew : EE X (.Dict [] [] pos) σ B (.dict []) := fun H1 l Q q => ⟨_, pe_dnewK, fun p hp => q _ _ _ ((Up.refl l).new hp fun ps z => by cases z) (.dct upd_same)⟩
theorem cutD_drop' {xs : List PyData} {n : Nat} : Tk.cutD xs (some (n : Int)) none = xs.drop n := by
  unfold Tk.cutD
  rw [HT.sIx_none, HT.sIx_nat]
  by_cases h : n ≤ xs.length
  · rw [Nat.min_eq_left h]
    exact List.take_of_length_le (by rw [List.length_drop]; omega)
  · rw [Nat.min_eq_right (by omega), List.drop_of_length_le (by omega : xs.length ≤ n), List.drop_of_length_le (Nat.le_refl _)]
    simp
end
end Tk


set_option Elab.async false
set_option linter.all false
set_option maxRecDepth 100000
set_option maxHeartbeats 2000000
namespace K0
open PySem PySem.Spec PyProof.Rows L2 GxR Tk
variable [LamTab]
/-- no kept word begins it -/
def nkB (x : Str) : Bool := keptS.all fun w => !w.cps.toList.isPrefixOf x.cps.toList
mutual
/-- plain: signs below 128, small numbers, no dict but the empty one -/
def cv (k : Nat) : PyData → Bool
  | .str x => (x.cps.toList.all fun c => decide (c < 128)) && nkB x
  | .int i => decide (-(k : Int) - 1 ≤ i) && decide (i ≤ 301 + k)
  | .list xs => decide (xs.length ≤ 20 + k) && cvs k xs
  | .tuple xs => decide (xs.length ≤ 20 + k) && cvs k xs
  | .dict kvs => decide (kvs.length = 0)
  | _ => true
def cvs (k : Nat) : List PyData → Bool
  | [] => true
  | x :: xs => cv k x && cvs k xs
end
theorem cvs_mem {k : Nat} : ∀ {xs : List PyData}, cvs k xs = true → ∀ x ∈ xs, cv k x = true
  | y :: xs, h, x, m => by
    simp only [cvs, Bool.and_eq_true] at h
    rcases List.mem_cons.mp m with z | z
    · rw [z]; exact h.1
    · exact cvs_mem h.2 x z
theorem cvs_of {k : Nat} : ∀ {xs : List PyData}, (∀ x ∈ xs, cv k x = true) → cvs k xs = true
  | [], _ => by simp only [cvs]
  | y :: xs, h => by
    simp only [cvs, Bool.and_eq_true]
    exact ⟨h y List.mem_cons_self, cvs_of fun x hx => h x (List.mem_cons_of_mem _ hx)⟩
mutual
theorem cv_mono {k : Nat} : ∀ d : PyData, cv k d = true → cv (k + 1) d = true
  | .str x, h => by simp only [cv] at h ⊢; exact h
  | .int i, h => by
    simp only [cv, Bool.and_eq_true, decide_eq_true_eq] at h ⊢
    omega
  | .list xs, h => by
    simp only [cv, Bool.and_eq_true, decide_eq_true_eq] at h ⊢
    exact ⟨by omega, cvs_mono xs h.2⟩
  | .tuple xs, h => by
    simp only [cv, Bool.and_eq_true, decide_eq_true_eq] at h ⊢
    exact ⟨by omega, cvs_mono xs h.2⟩
  | .dict kvs, h => by simp only [cv] at h ⊢; exact h
  | .none, _ => by simp only [cv]
  | .bool _, _ => by simp only [cv]
theorem cvs_mono {k : Nat} : ∀ xs : List PyData, cvs k xs = true → cvs (k + 1) xs = true
  | [], _ => by simp only [cvs]
  | x :: xs, h => by
    simp only [cvs, Bool.and_eq_true] at h ⊢
    exact ⟨cv_mono x h.1, cvs_mono xs h.2⟩
end
mutual
theorem cv_ok {k : Nat} : ∀ d : PyData, cv k d = true → gz d ≤ 100000 → okD d = true
  | .str x, h, g => by
    simp only [cv, Bool.and_eq_true, List.all_eq_true, decide_eq_true_eq] at h
    have h := h.1
    simp only [gz] at g
    show (x.cps.all (· < 0x110000) && decide (x.length ≤ 100000)) = true
    rw [decide_eq_true (by omega), Bool.and_true, ← Array.all_toList, List.all_eq_true]
    intro c hc
    exact decide_eq_true (by have := h c hc; omega)
  | .list xs, h, g => by
    simp only [cv, Bool.and_eq_true] at h
    have h := h.2
    simp only [gz] at g
    have := gzs_len (xs := xs)
    show (decide (xs.length ≤ 100000) && okDs xs) = true
    rw [decide_eq_true (by omega), cvs_ok xs h (by omega)]
    rfl
  | .tuple xs, h, g => by
    simp only [cv, Bool.and_eq_true] at h
    have h := h.2
    simp only [gz] at g
    have := gzs_len (xs := xs)
    show (decide (xs.length ≤ 100000) && okDs xs) = true
    rw [decide_eq_true (by omega), cvs_ok xs h (by omega)]
    rfl
  | .dict kvs, h, g => by simp only [cv] at h; exact h
  | .none, _, _ => rfl
  | .bool _, _, _ => rfl
  | .int _, _, _ => rfl
theorem cvs_ok {k : Nat} : ∀ xs : List PyData, cvs k xs = true → gzs xs ≤ 100000 → okDs xs = true
  | [], _, _ => rfl
  | x :: xs, h, g => by
    simp only [cvs, Bool.and_eq_true] at h
    simp only [gzs] at g
    show (okD x && okDs xs) = true
    rw [cv_ok x h.1 (by omega), cvs_ok xs h.2 (by omega)]
    rfl
end
theorem gzs_append : ∀ {xs ys : List PyData}, gzs (xs ++ ys) = gzs xs + gzs ys
  | [], ys => by simp [gzs]
  | x :: xs, ys => by
    have := gzs_append (xs := xs) (ys := ys)
    simp only [List.cons_append, gzs]
    omega
theorem gzs_drop : ∀ {xs : List PyData} (i : Nat), gzs (xs.drop i) ≤ gzs xs
  | [], i => by simp
  | x :: xs, 0 => by simp
  | x :: xs, i + 1 => by
    have := gzs_drop (xs := xs) i
    simp only [List.drop_succ_cons, gzs]
    omega
theorem gzs_rev : ∀ {xs : List PyData}, gzs xs.reverse = gzs xs
  | [] => rfl
  | x :: xs => by
    have := gzs_rev (xs := xs)
    rw [List.reverse_cons, gzs_append]
    simp only [gzs]
    omega
theorem tds_of {n : Nat} : ∀ {xs : List PyData}, (∀ x ∈ xs, td x ≤ n) → tds xs ≤ n
  | [], _ => Nat.zero_le _
  | x :: xs, h => by
    have h1 := h x List.mem_cons_self
    have h2 := tds_of fun y hy => h y (List.mem_cons_of_mem _ hy)
    simp only [tds]
    omega
/-- what is put in a part's place: k, g, t: bounds of the part -/
def oddG (k g t : Nat) (r : PyData) : Prop := cv (k + 1) r = true ∧ gz r ≤ 3 * g + 320 ∧ td r ≤ t + 1
theorem oddG_tup {k g t : Nat} {xs ys : List PyData} (hx : cv k (.tuple xs) = true) (hg : gz (.tuple xs) ≤ g) (ht : td (.tuple xs) ≤ t) (hm : ∀ y ∈ ys, y ∈ xs) (hz : gzs ys ≤ 2 * gzs xs) (hw : ys.length ≤ xs.length + 1) : oddG k g t (.tuple ys) := by
  simp only [cv, Bool.and_eq_true, decide_eq_true_eq] at hx
  simp only [gz] at hg
  simp only [td] at ht
  refine ⟨?_, ?_, ?_⟩
  · simp only [cv, Bool.and_eq_true, decide_eq_true_eq]
    exact ⟨by omega, cvs_of fun y hy => cv_mono y (cvs_mem hx.2 y (hm y hy))⟩
  · simp only [gz]
    omega
  · simp only [td]
    have := tds_of (n := tds xs) fun y hy => tds_mem (hm y hy)
    omega
def strOkB (s : Str) : Bool := ((s.cps.toList.all fun c => decide (c < 128)) && nkB s) && decide (s.length ≤ 10)
theorem strI_ok0 : ∀ n : Nat, n < 341 → strOkB (toString ((n : Int) - 20)) = true := by decide +kernel
theorem strI_ok {i : Int} (h1 : -20 ≤ i) (h2 : i ≤ 320) : strOkB (toString i) = true := by
  have := strI_ok0 (i + 20).toNat (by omega)
  have e : (((i + 20).toNat : Nat) : Int) - 20 = i := by omega
  rw [e] at this
  exact this
theorem up1_low : ∀ c, c < 128 → ¬ (97 ≤ up1 c ∧ up1 c ≤ 122) := by decide +kernel
theorem up1_lt : ∀ c, c < 128 → up1 c < 128 := by decide +kernel
end K0


set_option Elab.async false
set_option linter.all false
set_option maxRecDepth 100000
set_option maxHeartbeats 4000000
namespace K0
open PySem PySem.Spec PyProof.Rows L2 GxR Tk
variable [LamTab]
abbrev sLOdd : Stmt := t__law_odd
theorem cv_zero : ∀ (k : Nat) {d : PyData}, cv 0 d = true → cv k d = true
  | 0, _, h => h
  | k + 1, _, h => cv_mono _ (cv_zero k h)
def constB (r : PyData) : Bool := cv 0 r && (decide (gz r ≤ 320) && decide (td r ≤ 1))
theorem constG {k g t : Nat} {r : PyData} (h : constB r = true) : oddG k g t r := by
  have h' := (Bool.and_eq_true _ _).mp h
  have h2 := (Bool.and_eq_true _ _).mp h'.2
  have a := of_decide_eq_true h2.1
  have b := of_decide_eq_true h2.2
  exact ⟨cv_zero _ h'.1, by omega, by omega⟩
def oddT (xs : List PyData) (a : Nat) : List PyData := [.tuple (xs.take a ++ xs.drop (a + 1)), .tuple ((xs.take a ++ Tk.cutD xs (some (a : Int)) (some ((a : Int) + 1))) ++ xs.drop a), .tuple xs.reverse, .list xs, .tuple (xs ++ [.none]), .tuple []]
def oddS (z : Str) : List PyData := [.str (z ++ "a"), .str (L2.cutS z none (some (-1))), .str (Txt.upper z), .tuple [.str z], .str "a b", .str "a1", .str "abcdefghi", .str ""]
def oddI (i : Int) : List PyData := [.int (i + 1), .int (i - 1), .int 0, .int 1, .int 2, .int 3, .int 7, .int 300, .int 301, .int (-1), .bool true, .bool false, .str (toString i), .tuple [.int i]]
def oddC : List PyData := [.none, .int 0, .int 5, .bool true, .str "a", .str "", .tuple [], .list [], .dict [], .tuple [.str "a"], .tuple [.str "yes"], .int (-1)]
theorem oddC_ok {k g t : Nat} : ∀ r ∈ oddC, oddG k g t r := fun r hr => constG (List.all_eq_true.mp (show oddC.all constB = true by decide +kernel) r hr)
theorem cut_sub {xs : List PyData} {i j : Option Int} {y : PyData} (h : y ∈ Tk.cutD xs i j) : y ∈ xs := by
  unfold Tk.cutD at h
  exact List.mem_of_mem_drop (List.mem_of_mem_take h)
theorem cut_gzs {xs : List PyData} {i j : Option Int} : gzs (Tk.cutD xs i j) ≤ gzs xs := by
  unfold Tk.cutD
  exact Nat.le_trans (gzs_take _) (gzs_drop _)
theorem take_drop_gzs (xs : List PyData) (a : Nat) : gzs (xs.take a) + gzs (xs.drop a) = gzs xs := by
  rw [← gzs_append, List.take_append_drop]
theorem drop1_gzs (xs : List PyData) (a : Nat) : gzs (xs.drop (a + 1)) ≤ gzs (xs.drop a) := by
  rw [← List.drop_drop]
  exact gzs_drop 1
theorem oddT_ok {k t : Nat} {xs : List PyData} {a : Nat} {g : Nat} (hx : cv k (.tuple xs) = true) (hg : gz (.tuple xs) ≤ g) (ht : td (.tuple xs) ≤ t) : ∀ r ∈ oddT xs a, oddG k g t r := by
  intro r hr
  unfold oddT at hr
  simp only [List.mem_cons, List.not_mem_nil, or_false] at hr
  have e1 := take_drop_gzs xs a
  have e2 := drop1_gzs xs a
  rcases hr with rfl | rfl | rfl | rfl | rfl | rfl
  · refine oddG_tup hx hg ht (fun y hy => ?_) ?_ ?_
    · rcases List.mem_append.mp hy with z | z
      · exact List.mem_of_mem_take z
      · exact List.mem_of_mem_drop z
    · rw [gzs_append]
      omega
    · rw [List.length_append, List.length_take, List.length_drop]
      omega
  · refine oddG_tup hx hg ht (fun y hy => ?_) ?_ ?_
    · rcases List.mem_append.mp hy with z | z
      · rcases List.mem_append.mp z with z | z
        · exact List.mem_of_mem_take z
        · exact cut_sub z
      · exact List.mem_of_mem_drop z
    · rw [gzs_append, gzs_append]
      have := cut_gzs (xs := xs) (i := some (a : Int)) (j := some ((a : Int) + 1))
      omega
    · have e9 : (Tk.cutD xs (some (a : Int)) (some ((a : Int) + 1))).length ≤ 1 := by
        have := cutD_mid (xs := xs) (n := a) (m := a + 1)
        show (Tk.cutD xs (some (a : Int)) (some (((a + 1 : Nat)) : Int))).length ≤ 1
        rw [this, List.length_take, List.length_drop]
        omega
      rw [List.length_append, List.length_append, List.length_take, List.length_drop]
      omega
  · exact oddG_tup hx hg ht (fun y hy => List.mem_reverse.mp hy) (by rw [gzs_rev]; omega) (by rw [List.length_reverse]; omega)
  · refine ⟨?_, ?_, by simp only [td]; omega⟩
    · simp only [cv, Bool.and_eq_true, decide_eq_true_eq] at hx ⊢
      exact ⟨by omega, cvs_mono _ hx.2⟩
    · simp only [gz] at hg ⊢
      omega
  · simp only [gz] at hg
    simp only [td] at ht
    refine ⟨?_, ?_, ?_⟩
    · simp only [cv, Bool.and_eq_true, decide_eq_true_eq] at hx ⊢
      refine ⟨by rw [List.length_append, List.length_singleton]; omega, cvs_of fun y hy => ?_⟩
      rcases List.mem_append.mp hy with z | z
      · exact cv_mono y (cvs_mem hx.2 y z)
      · rw [List.mem_singleton.mp z]
        simp only [cv]
    · simp only [gz, gzs_append, gzs]
      omega
    · simp only [td]
      have := tds_of (n := tds xs) (xs := xs ++ [.none]) fun y hy => by
        rcases List.mem_append.mp hy with z | z
        · exact tds_mem z
        · rw [List.mem_singleton.mp z]
          simp only [td]
          omega
      omega
  · exact constG (by decide +kernel)
theorem str_cv {k : Nat} {z : Str} : cv k (.str z) = true ↔ (∀ c ∈ z.cps.toList, c < 128) ∧ nkB z = true := by
  simp only [cv, Bool.and_eq_true, List.all_eq_true, decide_eq_true_eq]
theorem nk_iff {z : Str} : nkB z = true ↔ ∀ w ∈ keptS, ¬ w.cps.toList <+: z.cps.toList := by
  unfold nkB
  rw [List.all_eq_true]
  refine ⟨fun h w hw hp => ?_, fun h w hw => ?_⟩
  · have := h w hw
    rw [List.isPrefixOf_iff_prefix.mpr hp] at this
    cases this
  · cases e : w.cps.toList.isPrefixOf z.cps.toList with
    | false => rfl
    | true => exact absurd (List.isPrefixOf_iff_prefix.mp e) (h w hw)
theorem kept_last : ∀ w ∈ keptS, w.cps.toList.getLast? ≠ some 97 := by decide +kernel
theorem kept_first : ∀ w ∈ keptS, ∃ c r, w.cps.toList = c :: r ∧ 97 ≤ c ∧ c ≤ 122 := fun w hw => by
  have h := List.all_eq_true.mp (show (keptS.all fun w => match w.cps.toList with | c :: _ => decide (97 ≤ c) && decide (c ≤ 122) | [] => false) = true by decide +kernel) w hw
  cases e : w.cps.toList with
  | nil => rw [e] at h; cases h
  | cons c r =>
    rw [e] at h
    have h' := (Bool.and_eq_true _ _).mp h
    exact ⟨c, r, rfl, of_decide_eq_true h'.1, of_decide_eq_true h'.2⟩
theorem nk_plus {l : List Nat} {z z' : Str} (e : z'.cps.toList = z.cps.toList ++ [97]) (h : nkB z = true) : nkB z' = true := nk_iff.mpr fun w hw hp => by
  rw [e] at hp
  rcases List.prefix_concat_iff.mp hp with y | y
  · exact kept_last w hw (by rw [y]; simp)
  · exact nk_iff.mp h w hw y
theorem nk_take {z z' : Str} (e : z'.cps.toList <+: z.cps.toList) (h : nkB z = true) : nkB z' = true := nk_iff.mpr fun w hw hp => nk_iff.mp h w hw (hp.trans e)
theorem nk_up {z z' : Str} (e : z'.cps.toList = z.cps.toList.map up1) (hc : ∀ c ∈ z.cps.toList, c < 128) : nkB z' = true := nk_iff.mpr fun w hw hp => by
  obtain ⟨c, r, e1, c1, c2⟩ := kept_first w hw
  rw [e1, e] at hp
  obtain ⟨t, ht⟩ := hp
  have hm : c ∈ z.cps.toList.map up1 := by rw [← ht]; simp
  obtain ⟨c0, h0, rfl⟩ := List.mem_map.mp hm
  exact up1_low c0 (hc c0 h0) ⟨c1, c2⟩
theorem oddS_ok {k t g : Nat} {z : Str} (hz : cv k (.str z) = true) (hg : gz (.str z) ≤ g) : ∀ r ∈ oddS z, oddG k g t r := by
  intro r hr
  obtain ⟨hc, hnk⟩ := str_cv.mp hz
  simp only [gz] at hg
  unfold oddS at hr
  simp only [List.mem_cons, List.not_mem_nil, or_false] at hr
  rcases hr with rfl | rfl | rfl | rfl | rfl | rfl | rfl | rfl
  · refine ⟨str_cv.mpr ⟨fun c h => ?_, nk_plus (l := []) Array.toList_append hnk⟩, ?_, by simp only [td]; omega⟩
    · have e : (z ++ ("a" : Str)).cps.toList = z.cps.toList ++ ("a" : Str).cps.toList := Array.toList_append
      rw [e] at h
      rcases List.mem_append.mp h with h | h
      · exact hc c h
      · exact of_decide_eq_true (List.all_eq_true.mp (show (("a" : Str).cps.toList.all fun c => decide (c < 128)) = true by decide +kernel) c h)
    · have e : (z ++ ("a" : Str)).length = z.length + 1 := by
        show (z.cps ++ ("a" : Str).cps).size = z.cps.size + 1
        rw [Array.size_append]
        rfl
      simp only [gz, e]
      omega
  · have h1 := L2.cutS_length z none (some (-1))
    refine ⟨str_cv.mpr ⟨fun c h => ?_, nk_take ?_ hnk⟩, by simp only [gz]; omega, by simp only [td]; omega⟩
    · unfold L2.cutS at h
      exact hc c (List.mem_of_mem_drop (List.mem_of_mem_take (by simpa using h)))
    · unfold L2.cutS
      rw [HT.sIx_none, List.drop_zero]
      exact List.take_prefix _ _
  · have e := upper_ascii hc
    rw [e]
    refine ⟨str_cv.mpr ⟨fun c h => ?_, nk_up Array.toList_map hc⟩, ?_, by simp only [td]; omega⟩
    · rw [Array.toList_map] at h
      obtain ⟨c0, h0, rfl⟩ := List.mem_map.mp h
      exact up1_lt c0 (hc c0 h0)
    · have e2 : (⟨z.cps.map up1⟩ : Str).length = z.length := by
        show (z.cps.map up1).size = z.cps.size
        rw [Array.size_map]
      simp only [gz, e2]
      omega
  · refine ⟨?_, by simp only [gz, gzs]; omega, by simp only [td, tds]; omega⟩
    simp only [cv, cvs, Bool.and_true]
    simp only [cv] at hz
    rw [hz]
    simp
    omega
  · exact constG (by decide +kernel)
  · exact constG (by decide +kernel)
  · exact constG (by decide +kernel)
  · exact constG (by decide +kernel)
theorem oddI_ok {k t g : Nat} {i : Int} (hk : k ≤ 18) (hz : cv k (.int i) = true) (hg : gz (.int i) ≤ g) : ∀ r ∈ oddI i, oddG k g t r := by
  intro r hr
  simp only [cv, Bool.and_eq_true, decide_eq_true_eq] at hz
  simp only [gz] at hg
  unfold oddI at hr
  simp only [List.mem_cons, List.not_mem_nil, or_false] at hr
  have ci : ∀ j : Int, -(k : Int) - 2 ≤ j → j ≤ 302 + k → cv (k + 1) (.int j) = true := fun j a b => by
    simp only [cv, Bool.and_eq_true, decide_eq_true_eq]
    omega
  rcases hr with rfl | rfl | rfl | rfl | rfl | rfl | rfl | rfl | rfl | rfl | rfl | rfl | rfl | rfl
  · exact ⟨ci _ (by omega) (by omega), by simp only [gz]; omega, by simp only [td]; omega⟩
  · exact ⟨ci _ (by omega) (by omega), by simp only [gz]; omega, by simp only [td]; omega⟩
  · exact constG (by decide +kernel)
  · exact constG (by decide +kernel)
  · exact constG (by decide +kernel)
  · exact constG (by decide +kernel)
  · exact constG (by decide +kernel)
  · exact constG (by decide +kernel)
  · exact constG (by decide +kernel)
  · exact constG (by decide +kernel)
  · exact constG (by decide +kernel)
  · exact constG (by decide +kernel)
  · have h := (Bool.and_eq_true _ _).mp (strI_ok (i := i) (by omega) (by omega))
    have h2 := of_decide_eq_true h.2
    refine ⟨?_, by simp only [gz]; omega, by simp only [td]; omega⟩
    simp only [cv]
    exact h.1
  · refine ⟨?_, by simp only [gz, gzs]; omega, by simp only [td, tds]; omega⟩
    simp only [cvs, cv, Bool.and_true]
    have := ci i (by omega) (by omega)
    simp only [cv] at this
    rw [this]
    simp
    omega
end K0


set_option Elab.async false
set_option linter.all false
set_option maxRecDepth 100000
set_option maxHeartbeats 4000000
namespace K0
open PySem PySem.Spec PyProof.Rows L2 GxR Tk
variable [LamTab]
/-- words that may be put in: texts -/
def wordsOk (k : Nat) (ws : List PyData) : Prop := ws.length ≤ 10 ∧ ∀ w ∈ ws, cv k w = true ∧ gz w ≤ 300 ∧ td w = 0
def oddP (k g t : Nat) (ds : List PyData) : Prop := ∃ d ws, ds = [d, .list ws] ∧ cv k d = true ∧ gz d ≤ g ∧ td d ≤ t ∧ wordsOk k ws
def oddR (k g t : Nat) (ds : List PyData) (r : PyData) : Prop := oddG k g t r
section
variable {P : Program} {w : World} {K : PySem.W.Frag} {mg : Str → Option Value} {base : Heap} {f : Addr} {fd : FuncData} {T : List Addr} {d lw lc : Addr}
theorem scLOdd : FnScope ["draw", "part", "words", "at", "some"] ["draw", "part", "words"] (defScope sLOdd) := ⟨rfl, rfl, rfl, by decide +kernel, rfl, by decide +kernel, by decide +kernel⟩
theorem ndLOdd : List.Nodup (["draw", "part", "words", "at", "some"] : List Str) := by decide +kernel
theorem rj_gt0 {B : Hp} : RJ K (rI0 fun i j => .bl (decide (i > j))) B (fun r => ∃ i : Int, r = .int i ∧ 0 ≤ i ∧ i < 3) (· = .int 0) (fun d => ∃ b, d = .bool b ∧ True) := rj_of fun d1 d2 h1 h2 => by
  obtain ⟨i, rfl, _⟩ := h1
  subst h2
  exact ⟨_, rr_gt, _, rfl, trivial⟩
theorem ok_lodd (BL : Blt mg) (hTD : ∀ a ∈ [d, lw, lc], a ∉ T) (Ft : KnTake P w K mg base T d lw lc) (Fp : KnPick P w K mg base T d lw lc) (F : L2.Fun K "_law_odd" "_law_odd" sLOdd f fd) {k g t0 : Nat} (hk : k ≤ 18) (hg : g ≤ 90000) :
    FnOk P w K mg base CX0 4 f fd ["draw", "part", "words"] (spJ K T [d, lw, lc] (DJ d lw lc) (.ref d) 2 6 (oddP k g t0) (oddR k g t0)) := by
  refine fn_draw hTD F scLOdd rfl fun cdv A outer s H vs B ds m Q E hr hcd t l ap j hd hl hp q => ?_
  obtain ⟨e, ws, rfl, hcv, hgz, htd, hw1, hw2⟩ := hp
  obtain ⟨v1, v2, rfl, h1, h2⟩ := ds2 (K := K) hd
  have hnd := hu64 hr
  have hup : ∀ z : Str, e = .str z → z.length ≤ 90000 := fun z e1 => by
    subst e1
    simp only [gz] at hgz
    omega
  -- what is left of a way: pick of a list that is good
  refine wb_cons (ws_ifJ (m := m + 5) (n := 1) (RB := fun k => k = true → isTup e = true) l ap (cells_DJ.less _ _ _ j (by omega)) (etj_and cells_DJ (et_val (ee_isTup BL (ee_var (i := 1) rfl h1))) (fun _ => etj_cmp (n1 := 1) (n2 := 0) cells_DJ op_gt rj_gt0 (ej_take Ft hr (by decide) t (i := 0) rfl ee_int (by decide) (by decide)) (ej_pure cells_DJ ee_int rfl))) fun b H1 lx lb jj hb => ?_)
  have u0 : UpX [d, lw, lc] B H B H1 := UpX.self lx lb
  cases b with
  | true =>
    refine (show WB _ _ _ _ _ from ?_)
    cases e with
    | tuple xs =>
      have hlen : xs.length ≤ 90000 := by
        simp only [gz] at hgz
        have := gzs_len (xs := xs)
        omega
      refine wb_cons (ws_setJ (i := 3) (m := m + 4) (n := 1) (R := fun r => ∃ i : Int, r = .int i ∧ 0 ≤ i ∧ i < (xs.length : Int) + 1) lb ap jj (ej_take Ft hr (by decide) t (i := 0) rfl (ee_op op_add rr_add (ee_len BL (ee_var (i := 1) rfl h1) rfl fun x z => by cases z) ee_int) (by omega) (by omega)) (fun v dd B2 H2 u2 j2 dv r => ?_) ndLOdd)
      obtain ⟨i, rfl, i0, i1⟩ := r
      cases dv
      obtain ⟨a, rfl⟩ : ∃ a : Nat, i = (a : Int) := ⟨i.toNat, (Int.toNat_of_nonneg i0).symm⟩
      have ha : a ≤ xs.length := by omega
      have h12 := Dt.le u2.b h1
      have c1 : Tk.cutD xs none (some (a : Int)) = xs.take a := cutD_take ha
      have c2 : Tk.cutD xs (some ((a : Int) + 1)) none = xs.drop (a + 1) := cutD_drop' (n := a + 1)
      have c3 : Tk.cutD xs (some (a : Int)) none = xs.drop a := cutD_drop'
      have s1 : (xs.take a).length + (xs.drop (a + 1)).length ≤ sizeLine := by
        rw [List.length_take, List.length_drop]
        exact Nat.le_trans (show min a xs.length + (xs.length - (a + 1)) ≤ 180000 by omega) (by decide)
      have s2 : (xs.take a).length + (Tk.cutD xs (some (a : Int)) (some ((a : Int) + 1))).length ≤ 180000 := by
        rw [List.length_take]
        unfold Tk.cutD
        rw [List.length_take, List.length_drop]
        omega
      have s3 : (xs.take a ++ Tk.cutD xs (some (a : Int)) (some ((a : Int) + 1))).length + (xs.drop a).length ≤ sizeLine := by
        rw [List.length_append, List.length_drop]
        exact Nat.le_trans (show _ ≤ 270000 by omega) (by decide)
      refine wb_cons (ws_set (i := 4) (d := .list (oddT xs a)) u2.s (ee_lst (ea_cons (ee_op op_catA (rr_catT s1) ((ee_cut (ee_var (i := 1) rfl h12) eo_no (eo_some (ee_var (i := 3) rfl (.int _)))).cast (by rw [c1])) ((ee_cut (ee_var (i := 1) rfl h12) (eo_some (ee_op op_add rr_add (ee_var (i := 3) rfl (.int _)) ee_int)) eo_no).cast (by rw [c2])))
        (ea_cons (ee_op op_catA (rr_catT s3) (ee_op op_catA (rr_catT (Nat.le_trans s2 (by decide))) ((ee_cut (ee_var (i := 1) rfl h12) eo_no (eo_some (ee_var (i := 3) rfl (.int _)))).cast (by rw [c1])) (ee_cut (ee_var (i := 1) rfl h12) (eo_some (ee_var (i := 3) rfl (.int _))) (eo_some (ee_op op_add rr_add (ee_var (i := 3) rfl (.int _)) ee_int)))) ((ee_cut (ee_var (i := 1) rfl h12) (eo_some (ee_var (i := 3) rfl (.int _))) eo_no).cast (by rw [c3])))
        (ea_cons (ee_rev (ee_var (i := 1) rfl h12) (ee_neg (i := 1) ee_int)) (ea_cons (ee_list BL.list (ee_var (i := 1) rfl h12)) (ea_cons (ee_op op_catA (rr_catT (by rw [List.length_singleton]; exact Nat.le_trans (show xs.length + 1 ≤ 90001 by omega) (by decide))) (ee_var (i := 1) rfl h12) (ee_tup (ea_cons ee_non ea_nil) (by show 1 ≤ sizeLine; decide))) (ea_cons (ee_tup ea_nil (by decide)) ea_nil)))))) (by show 6 ≤ sizeLine; decide)) (fun v4 B4 H4 u4 d4 => ?_) ndLOdd)
      have j4 := cells_DJ.le _ _ _ j2 u4.h
      have ux := (u0.trans cells_DJ jj u2).trans cells_DJ j2 (.of u4)
      exact wb_one (ws_retJ (m := m) (n := 1) (R := (· ∈ oddT xs a)) u4.s (ux.apt cells_DJ j ap) (cells_DJ.less _ _ _ j4 (by omega)) (ej_pick Fp hr (Nat.le_refl _) (t.le ux.b) (i := 0) rfl (ee_var (i := 4) rfl d4) (by show 0 < 6; decide) (by show 6 < 1000000; decide)) fun v e B5 H5 u5 j5 dv r => q v e B5 H5 (ux.trans cells_DJ j4 u5) j5 dv (oddT_ok hcv hgz htd e r))
    | _ => exact absurd (hb rfl) (by intro z; cases z)
  | false =>
  refine wb_nil ?_
  refine wb_cons (ws_ifJ (m := m + 4) (n := 1) (RB := fun k => k = true → isStr e = true) lb ap (cells_DJ.less _ _ _ jj (by omega)) (etj_and cells_DJ (et_val (ee_isStr BL (ee_var (i := 1) rfl h1))) (fun _ => etj_cmp (n1 := 1) (n2 := 0) cells_DJ op_gt rj_gt0 (ej_take Ft hr (by decide) t (i := 0) rfl ee_int (by decide) (by decide)) (ej_pure cells_DJ ee_int rfl))) fun b H2 lx2 lb2 j2 hb2 => ?_)
  have u1 : UpX [d, lw, lc] B H B H2 := UpX.self (lx.trans lx2) lb2
  cases b with
  | true =>
    refine (show WB _ _ _ _ _ from ?_)
    cases e with
    | str z =>
      have hz := hup z rfl
      have e1 : (ws ++ oddS z).length < 1000000 := by
        rw [List.length_append]
        show ws.length + 8 < 1000000
        omega
      refine wb_one (ws_retJ (m := m) (n := 1) (R := (· ∈ ws ++ oddS z)) lb2 ap (cells_DJ.less _ _ _ j2 (by omega)) (ej_pick Fp hr (Nat.le_refl _) t (i := 0) rfl (ee_op op_catL (rr_catL (by show ws.length + 8 ≤ sizeLine; exact Nat.le_trans (show ws.length + 8 ≤ 18 by omega) (by decide))) (ee_var (i := 2) rfl h2)
        (ee_lst (ea_cons (ee_op op_add_str (rr_addS (Nat.le_trans (show z.length + 1 ≤ 90001 by omega) (by decide))) (ee_var (i := 1) rfl h1) ee_str) (ea_cons (ee_cutS (ee_var (i := 1) rfl h1) (Nat.le_trans hz (by decide)) eo_no (eo_some (ee_neg (i := 1) ee_int))) (ea_cons (ee_upper (ee_var (i := 1) rfl h1) (by omega)) (ea_cons (ee_tup (ea_cons (ee_var (i := 1) rfl h1) ea_nil) (by show 1 ≤ sizeLine; decide)) (ea_cons ee_str (ea_cons ee_str (ea_cons ee_str (ea_cons ee_str ea_nil)))))))) (by show 8 ≤ sizeLine; decide))) (by rw [List.length_append]; show 0 < ws.length + 8; omega) e1) fun v e B5 H5 u5 j5 dv r => q v e B5 H5 (u1.trans cells_DJ j2 u5) j5 dv ?_)
      rcases List.mem_append.mp r with y | y
      · obtain ⟨a1, a2, a3⟩ := hw2 e y
        exact ⟨cv_mono _ a1, by omega, by omega⟩
      · have := oddS_ok (t := t0) hcv hgz e y
        exact this
    | _ => exact absurd (hb2 rfl) (by intro z; cases z)
  | false =>
  refine wb_nil ?_
  refine wb_cons (ws_ifJ (m := m + 3) (n := 1) (RB := fun k => k = true → isInt e = true ∧ (!isBool e) = true) lb2 ap (cells_DJ.less _ _ _ j2 (by omega)) (etj_and3 cells_DJ (et_val (ee_isInt BL (ee_var (i := 1) rfl h1))) (fun _ => et_not (et_val (ee_isBool BL (ee_var (i := 1) rfl h1)))) (fun _ _ => etj_cmp (n1 := 1) (n2 := 0) cells_DJ op_gt rj_gt0 (ej_take Ft hr (by decide) t (i := 0) rfl ee_int (by decide) (by decide)) (ej_pure cells_DJ ee_int rfl))) fun b H3 lx3 lb3 j3 hb3 => ?_)
  have u2 : UpX [d, lw, lc] B H B H3 := UpX.self ((lx.trans lx2).trans lx3) lb3
  cases b with
  | true =>
    refine (show WB _ _ _ _ _ from ?_)
    obtain ⟨b1, b2⟩ := hb3 rfl
    cases e with
    | int i =>
      have hi : i.natAbs.log2 < 1920 := by
        have hc := hcv
        simp only [cv, Bool.and_eq_true, decide_eq_true_eq] at hc
        have h1 : i.natAbs < 2 ^ 1920 := Nat.lt_of_lt_of_le (show i.natAbs < 2 ^ 10 by omega) (Nat.pow_le_pow_right (by decide) (by decide))
        by_cases z : i.natAbs = 0
        · rw [z]; decide
        · exact (Nat.log2_lt z).mpr h1
      exact wb_one (ws_retJ (m := m) (n := 1) (R := (· ∈ oddI i)) lb3 ap (cells_DJ.less _ _ _ j3 (by omega)) (ej_pick Fp hr (Nat.le_refl _) t (i := 0) rfl
        (ee_lst (ea_cons (ee_op op_add rr_add (ee_var (i := 1) rfl h1) ee_int) (ea_cons (ee_op op_sub rr_sub (ee_var (i := 1) rfl h1) ee_int) (ea_cons ee_int (ea_cons ee_int (ea_cons ee_int (ea_cons ee_int (ea_cons ee_int (ea_cons ee_int (ea_cons ee_int (ea_cons (ee_neg (i := 1) ee_int) (ea_cons ee_bl (ea_cons ee_bl (ea_cons (ee_strI BL (ee_var (i := 1) rfl h1) hi) (ea_cons (ee_tup (ea_cons (ee_var (i := 1) rfl h1) ea_nil) (by show 1 ≤ sizeLine; decide)) ea_nil)))))))))))))) (by show 14 ≤ sizeLine; decide)) (by show 0 < 14; decide) (by show 14 < 1000000; decide)) fun v e B5 H5 u5 j5 dv r => q v e B5 H5 (u2.trans cells_DJ j3 u5) j5 dv (oddI_ok hk hcv hgz e r))
    | bool b => cases b2
    | _ => cases b1
  | false =>
  refine wb_nil ?_
  refine wb_one (ws_retJ (m := m) (n := 1) (R := (· ∈ oddC)) lb3 ap (cells_DJ.less _ _ _ j3 (by omega)) (ej_pick Fp hr (Nat.le_refl _) t (i := 0) rfl (xs := oddC) ?_ (by show 0 < 12; decide) (by show 12 < 1000000; decide)) fun v e B5 H5 u5 j5 dv r => q v e B5 H5 (u2.trans cells_DJ j3 u5) j5 dv (oddC_ok e r))
  unfold oddC
  repeat (first | exact ea_nil | exact ee_non | exact ee_int | exact ee_str | exact ee_bl | exact ee_dnew | exact ee_neg (i := 1) ee_int | refine ee_tup ?_ (by decide) | refine ee_lst ?_ (by decide) | refine ea_cons ?_ ?_)
end
end K0


set_option Elab.async false
set_option linter.all false
set_option maxRecDepth 100000
set_option maxHeartbeats 4000000
namespace Tk
open PySem PySem.Spec PyProof.Rows L2 GxR Gx
variable [LamTab]
/-- a call of a def that changes nothing, its arguments may draw -/
theorem ej_callF {X : Cx} {D : List Addr} {J : Nat → Hp → Prop} {e : Expr} {es : List Expr} {σ : L2.St} {B : Hp} {n nn : Nat} {T : List Addr} {lv : Nat} {pre : List PyData → Prop} {f : List PyData → PyData} {RA : List PyData → Prop} {x : Str} {ps : List Str}
    {P : Program} {w : World} {K : PySem.W.Frag} {mg : Str → Option Value} {base : Heap} {p pos : Pos} {j : Nat} (C : Cells D J) (F : Kn P w K mg base lv x ps (spF K T nn pre f)) (hr : Room j X.A) (hk : lv ≤ j) (t : Tbs T B)
    (ha : EAJ X D J (e :: es) σ B n RA) (hp : ∀ ds, RA ds → pre ds ∧ ds.length = nn) (eP : X.prog = P := by rfl) (ew : X.w = w := by rfl) (eK : X.K = K := by rfl) (em : X.mg = mg := by rfl) (eb : X.base = base := by rfl) (hg : Gl X x := by rfl)
    (hdb : (x == ("__debug__" : Str)) = false := by decide) (he : starEach (e :: es) X.env = (false, eval e X.env) :: starEach es X.env := by rfl) (hpl : (backTo pos (starEach es X.env)).any (·.1) = false := by rfl) :
    EJ X D J (.Call (.Name x p) (e :: es) [] pos) σ B n (fun d => ∃ ds, RA ds ∧ d = f ds) := fun m H1 l ap jj Q q => by
  subst eP ew eK em eb
  obtain ⟨fa, fd, m1, m2, G, bi⟩ := F.ex
  refine ⟨_, pe_call (E := L2.E0) G (hr.mono hk) hg m1 m2 bi .nil pass0 pa_w hdb he hpl, ha m H1 l ap jj _ fun vs ds B2 H2 u2 j2 dv r => ?_⟩
  rw [List.append_nil]
  obtain ⟨h1, h2⟩ := hp ds r
  have t2 : Tbs T H2 := fun P hP => ⟨u2.h.tab P ((t.le l) P hP).1, ((t.le l) P hP).2⟩
  exact ⟨by rw [dv.length, h2], t2, B2, ds, u2.s, dv, h1, fun v B3 H3 u3 d3 => q v _ B3 H3 (u2.trans C j2 (.of u3)) (C.le _ _ _ j2 u3.h) d3 ⟨ds, r, rfl⟩⟩
theorem EAJ.weak {X : Cx} {D : List Addr} {J : Nat → Hp → Prop} {es : List Expr} {σ : L2.St} {B : Hp} {n : Nat} {RA RB : List PyData → Prop} (h : EAJ X D J es σ B n RA) (k : ∀ ds, RA ds → RB ds) : EAJ X D J es σ B n RB := fun m H1 l ap j Q q => h m H1 l ap j Q fun vs ds B2 H2 u jj dv r => q vs ds B2 H2 u jj dv (k ds r)
end Tk
namespace K0
open PySem PySem.Spec PyProof.Rows L2 GxR Tk
variable [LamTab]
abbrev sLBent : Stmt := t__law_bent
theorem getD_mem {xs : List PyData} {i : Nat} (h : i < xs.length) : xs.getD i .none ∈ xs := by
  rw [List.getD_eq_getElem?_getD, List.getElem?_eq_getElem h]
  exact List.getElem_mem h
theorem at_td : ∀ {p : List Nat} {d : PyData}, okP d p → p.length + td (atP d p) ≤ td d
  | [], d, _ => by cases d <;> simp [atP]
  | i :: p, .tuple xs, ⟨hi, h⟩ => by
    have := at_td h
    have h2 := tds_mem (getD_mem hi)
    simp only [atP, td, List.length_cons]
    omega
  | i :: p, .none, h => h.elim
  | i :: p, .bool _, h => h.elim
  | i :: p, .int _, h => h.elim
  | i :: p, .str _, h => h.elim
  | i :: p, .list _, h => h.elim
  | i :: p, .dict _, h => h.elim
theorem at_gz : ∀ {p : List Nat} {d : PyData}, okP d p → gz (atP d p) ≤ gz d
  | [], d, _ => by cases d <;> simp [atP]
  | i :: p, .tuple xs, ⟨hi, h⟩ => by
    have := at_gz h
    have h2 := gzs_mem (getD_mem hi)
    simp only [atP]
    simp only [gz]
    omega
  | i :: p, .none, h => h.elim
  | i :: p, .bool _, h => h.elim
  | i :: p, .int _, h => h.elim
  | i :: p, .str _, h => h.elim
  | i :: p, .list _, h => h.elim
  | i :: p, .dict _, h => h.elim
theorem at_cv {k : Nat} : ∀ {p : List Nat} {d : PyData}, okP d p → cv k d = true → cv k (atP d p) = true
  | [], d, _, c => by cases d <;> exact c
  | i :: p, .tuple xs, ⟨hi, h⟩, c => by
    simp only [cv, Bool.and_eq_true] at c
    have c := c.2
    show cv k (atP (xs.getD i .none) p) = true
    exact at_cv h (cvs_mem c _ (getD_mem hi))
  | i :: p, .none, h, _ => h.elim
  | i :: p, .bool _, h, _ => h.elim
  | i :: p, .int _, h, _ => h.elim
  | i :: p, .str _, h, _ => h.elim
  | i :: p, .list _, h, _ => h.elim
  | i :: p, .dict _, h, _ => h.elim
theorem put_nil {d x : PyData} : putP d [] x = x := by cases d <;> rfl
theorem put_gz {x : PyData} : ∀ {p : List Nat} {d : PyData}, okP d p → gz (putP d p x) ≤ gz d + gz x
  | [], d, _ => by rw [put_nil]; omega
  | i :: p, .tuple xs, ⟨hi, h⟩ => by
    have := put_gz (x := x) h
    have e1 := take_drop_gzs xs i
    have e3 : xs.drop i = xs.getD i .none :: xs.drop (i + 1) := by
      rw [List.getD_eq_getElem?_getD, List.getElem?_eq_getElem hi]
      exact List.drop_eq_getElem_cons hi
    rw [e3] at e1
    simp only [gzs] at e1
    simp only [putP, gz, gzs_append, gzs]
    omega
  | i :: p, .none, h => h.elim
  | i :: p, .bool _, h => h.elim
  | i :: p, .int _, h => h.elim
  | i :: p, .str _, h => h.elim
  | i :: p, .list _, h => h.elim
  | i :: p, .dict _, h => h.elim
theorem put_cv {k : Nat} {x : PyData} (hx : cv k x = true) : ∀ {p : List Nat} {d : PyData}, okP d p → cv k d = true → cv k (putP d p x) = true
  | [], d, _, _ => by rw [put_nil]; exact hx
  | i :: p, .tuple xs, ⟨hi, h⟩, c => by
    simp only [cv, Bool.and_eq_true, decide_eq_true_eq] at c
    obtain ⟨c0, c⟩ := c
    have := put_cv hx h (cvs_mem c _ (getD_mem hi))
    simp only [putP, cv, Bool.and_eq_true, decide_eq_true_eq]
    refine ⟨by rw [List.length_append, List.length_append, List.length_take, List.length_drop, List.length_singleton]; omega, cvs_of fun y hy => ?_⟩
    rcases List.mem_append.mp hy with z | z
    · rcases List.mem_append.mp z with z | z
      · exact cvs_mem c y (List.mem_of_mem_take z)
      · rw [List.mem_singleton.mp z]; exact this
    · exact cvs_mem c y (List.mem_of_mem_drop z)
  | i :: p, .none, h, _ => h.elim
  | i :: p, .bool _, h, _ => h.elim
  | i :: p, .int _, h, _ => h.elim
  | i :: p, .str _, h, _ => h.elim
  | i :: p, .list _, h, _ => h.elim
  | i :: p, .dict _, h, _ => h.elim
theorem put_td {x : PyData} {n : Nat} : ∀ {p : List Nat} {d : PyData}, okP d p → td d ≤ n → p.length + td x ≤ n → td (putP d p x) ≤ n
  | [], d, _, _, h2 => by
    rw [put_nil]
    simp only [List.length_nil] at h2
    omega
  | i :: p, .tuple xs, ⟨hi, h⟩, h1, h2 => by
    simp only [td] at h1
    simp only [List.length_cons] at h2
    have h3 := tds_mem (getD_mem hi)
    have := put_td (n := n - 1) (x := x) h (by omega) (by omega)
    simp only [putP, td]
    have h4 : tds (xs.take i ++ [putP (xs.getD i .none) p x] ++ xs.drop (i + 1)) ≤ n - 1 := tds_of fun y hy => by
      rcases List.mem_append.mp hy with z | z
      · rcases List.mem_append.mp z with z | z
        · have := tds_mem (List.mem_of_mem_take z)
          omega
        · rw [List.mem_singleton.mp z]; exact this
      · have := tds_mem (List.mem_of_mem_drop z)
        omega
    omega
  | i :: p, .none, h, _, _ => h.elim
  | i :: p, .bool _, h, _, _ => h.elim
  | i :: p, .int _, h, _, _ => h.elim
  | i :: p, .str _, h, _, _ => h.elim
  | i :: p, .list _, h, _, _ => h.elim
  | i :: p, .dict _, h, _, _ => h.elim
theorem lens_of : ∀ {p : List Nat} {d : PyData}, okP d p → gz d ≤ 100000 → lens d p
  | [], d, _, _ => by cases d <;> trivial
  | i :: p, .tuple xs, ⟨hi, h⟩, g => by
    simp only [gz] at g
    have h1 := gzs_len (xs := xs)
    have h2 := gzs_mem (getD_mem hi)
    exact ⟨by omega, lens_of h (by omega)⟩
  | i :: p, .none, h, _ => h.elim
  | i :: p, .bool _, h, _ => h.elim
  | i :: p, .int _, h, _ => h.elim
  | i :: p, .str _, h, _ => h.elim
  | i :: p, .list _, h, _ => h.elim
  | i :: p, .dict _, h, _ => h.elim
def bentG (k g t : Nat) (r : PyData) : Prop := cv (k + 1) r = true ∧ gz r ≤ 4 * g + 320 ∧ td r ≤ t + 1
def bentR (k g t : Nat) (ds : List PyData) (r : PyData) : Prop := bentG k g t r
section
variable {P : Program} {w : World} {K : PySem.W.Frag} {mg : Str → Option Value} {base : Heap} {f : Addr} {fd : FuncData} {T : List Addr} {d lw lc : Addr}
theorem scLBent : FnScope ["draw", "thing", "words", "path"] ["draw", "thing", "words"] (defScope sLBent) := ⟨rfl, rfl, rfl, by decide +kernel, rfl, by decide +kernel, by decide +kernel⟩
theorem ndLBent : List.Nodup (["draw", "thing", "words", "path"] : List Str) := by decide +kernel
abbrev KnOdd (P : Program) (w : World) (K : PySem.W.Frag) (mg : Str → Option Value) (base : Heap) (T : List Addr) (d lw lc : Addr) : Prop := ∀ k g t : Nat, k ≤ 18 → g ≤ 90000 → KnJ P w K mg base 4 "_law_odd" ["draw", "part", "words"] T d lw lc 2 6 (oddP k g t) (oddR k g t)
theorem ok_lbent (BL : Blt mg) (hTD : ∀ a ∈ [d, lw, lc], a ∉ T) (Fp : KnPick P w K mg base T d lw lc) (Fo : KnOdd P w K mg base T d lw lc)
    (Fpaths : Kn P w K mg base 11 "_law_paths" ["thing"] (spF K T 1 (pathsPre 10) pathsF)) (Fpart : Kn P w K mg base 11 "_law_part" ["thing", "path"] (spF K T 2 (partP 10) partF)) (Fput : Kn P w K mg base 11 "_law_put" ["thing", "path", "part"] (spF K T 3 (putPre 10) putF))
    (F : L2.Fun K "_law_bent" "_law_bent" sLBent f fd) {k g t0 : Nat} (hk : k ≤ 18) (hg : g ≤ 90000) (ht : t0 ≤ 10) :
    FnOk P w K mg base CX0 12 f fd ["draw", "thing", "words"] (spJ K T [d, lw, lc] (DJ d lw lc) (.ref d) 2 8 (oddP k g t0) (bentR k g t0)) := by
  refine fn_draw hTD F scLBent rfl fun cdv A outer s H vs B ds m Q E hr hcd t l ap j hd hl hp q => ?_
  obtain ⟨e, ws, rfl, hcv, hgz, htd, hw⟩ := hp
  obtain ⟨v1, v2, rfl, h1, h2⟩ := ds2 (K := K) hd
  have hpl := paths_len e
  have hp0 : 0 < (pathsL e).length := by rw [paths_eq]; simp
  refine wb_cons (ws_setJ (i := 3) (m := m + 7) (n := 1) (R := (· ∈ pathsL e)) l ap (cells_DJ.less _ _ _ j (by omega)) (ej_pick Fp hr (by decide) t (i := 0) rfl (ee_call (f := pathsF) (ds := [e]) (d := .list (pathsL e)) Fpaths hr (by decide) t (ea_cons (ee_var (i := 1) rfl h1) ea_nil) ⟨e, rfl, by omega, by omega⟩) hp0 (by omega)) (fun v dd B2 H2 u2 j2 dv r => ?_) ndLBent)
  obtain ⟨p, rfl, hok, hpn⟩ := paths_mem e dd r
  have h12 := Dt.le u2.b h1
  have h22 := Dt.le u2.b h2
  have t2 := t.le u2.b
  have ap2 := u2.apt cells_DJ j ap
  have a1 := at_td hok
  have a2 := at_gz hok
  have a3 := at_cv hok hcv
  refine wb_one (ws_retJ (m := m) (n := 6) (R := bentR k g t0 []) u2.s ap2 (cells_DJ.less _ _ _ j2 (by omega)) ?_ fun v3 e3 B3 H3 u3 j3 dv3 r3 => q v3 e3 B3 H3 (u2.trans cells_DJ j2 u3) j3 dv3 r3)
  refine (ej_callF (n := 0 + (0 + (6 + 0))) (RA := fun ds => ∃ x, ds = [e, pathD p, x] ∧ oddG k g (td (atP e p)) x) cells_DJ Fput hr (Nat.le_refl _) t2 ((eaj_cons cells_DJ (ej_pure (R := (· = e)) cells_DJ (ee_var (i := 1) rfl h12) rfl) fun B4 l4 => eaj_cons cells_DJ (ej_pure (R := (· = pathD p)) cells_DJ (ee_var (i := 3) rfl (Dt.le l4 dv)) rfl) fun B5 l5 => eaj_cons (n1 := 6) (R := oddG k g (td (atP e p))) cells_DJ ?_ fun B6 l6 => eaj_nil).weak fun ds h => ?_) fun ds h => ?_).weak cells_DJ (fun e3 h => ?_) (by omega)
  · have tt := (t2.le l4).le l5
    have l45 := l4.trans l5
    refine (ej_call (i := 0) (n1 := 0 + (0 + 0)) (n := 6) (RA := fun ds => ds = [atP e p, .list ws]) cells_DJ (Fo k g (td (atP e p)) hk hg) hr (by decide) tt rfl ((eaj_cons cells_DJ (ej_pure (R := (· = atP e p)) cells_DJ (ee_call (f := partF) (ds := [e, pathD p]) Fpart hr (Nat.le_refl _) tt (ea_cons (ee_var (i := 1) rfl (Dt.le l45 h12)) (ea_cons (ee_var (i := 3) rfl (Dt.le l45 dv)) ea_nil)) ⟨e, p, rfl, hok, by omega⟩ (by show atP e ((p.map fun (n : Nat) => PyData.int (n : Int)).map natOf) = _; rw [natOf_path])) rfl) fun B6 l6 => eaj_cons cells_DJ (ej_pure (R := (· = .list ws)) cells_DJ (ee_var (i := 2) rfl (Dt.le (l45.trans l6) h22)) rfl) fun B7 l7 => eaj_nil).weak fun ds h => ?_) fun ds h => ?_).weak cells_DJ (fun e3 h => ?_) (by omega)
    · obtain ⟨x, y, rfl, rfl, z, z2, rfl, rfl, rfl⟩ := h
      rfl
    · subst h
      exact ⟨⟨_, ws, rfl, a3, by omega, Nat.le_refl _, hw⟩, rfl⟩
    · obtain ⟨ds, rfl, h⟩ := h
      exact h
  · obtain ⟨x, y, rfl, rfl, z, z2, rfl, rfl, z3, z4, rfl, h, rfl⟩ := h
    exact ⟨z3, rfl, h⟩
  · obtain ⟨x, rfl, h⟩ := h
    exact ⟨⟨e, p, x, rfl, hok, by omega, lens_of hok (by omega)⟩, rfl⟩
  · obtain ⟨ds, ⟨x, rfl, x1, x2, x3⟩, rfl⟩ := h
    have e5 : putF [e, pathD p, x] = putP e p x := by
      show putP e ((p.map fun (n : Nat) => PyData.int (n : Int)).map natOf) x = _
      rw [natOf_path]
    rw [e5]
    have := put_gz (x := x) hok
    exact ⟨put_cv x1 hok (cv_mono _ hcv), by omega, put_td hok (by omega) (by omega)⟩
end
end K0


set_option Elab.async false
set_option linter.all false
set_option maxRecDepth 100000
set_option maxHeartbeats 4000000
namespace K0
open PySem PySem.Spec PyProof.Rows L2 GxR Tk
variable [LamTab]
theorem beq_str {a b : Str} : (a == b) = decide (a = b) := by
  by_cases h : a = b
  · subst h; simp
  · rw [decide_eq_false h]
    exact beq_eq_false_iff_ne.mpr h
theorem eqv_str {a b : Str} : PyData.eqv (.str a) (.str b) = decide (a = b) := by
  show (a == b) = _
  exact beq_str
theorem eqv_strs : ∀ {xs ys : List Str}, PyData.eqvAll (xs.map PyData.str) (ys.map PyData.str) = decide (xs = ys)
  | [], [] => rfl
  | [], y :: ys => by simp [PyData.eqvAll]
  | x :: xs, [] => by simp [PyData.eqvAll]
  | x :: xs, y :: ys => by
    have := eqv_strs (xs := xs) (ys := ys)
    simp only [List.map_cons, PyData.eqvAll, eqv_str, this]
    by_cases h1 : x = y <;> by_cases h2 : xs = ys <;> simp [h1, h2]
def ltS (a b : Str) : Prop := a.cps.toList < b.cps.toList
theorem ltS_trans {a b c : Str} (h : ltS a b) (k : ltS b c) : ltS a c := List.lt_trans h k
theorem ltS_irrefl {a : Str} : ¬ ltS a a := List.lt_irrefl _
theorem ltD_iff {a b : Str} : ltD (.str a) (.str b) = true ↔ ltS a b := by
  show decide (a.cps.toList < b.cps.toList) = true ↔ _
  exact decide_eq_true_iff
/-- ascending -/
def asc (xs : List Str) : Prop := xs.Pairwise ltS
theorem asc_iff {xs : List Str} : ascB (xs.map PyData.str) = true ↔ asc xs := by
  have e1 : ascB (xs.map PyData.str) = true ↔ ∀ i, ∀ (h : i + 1 < xs.length), ltS xs[i] xs[i + 1] := by
    unfold ascB
    rw [List.all_eq_true]
    refine ⟨fun h i hi => ?_, fun h d hd => ?_⟩
    · have hm : PyData.int (Int.ofNat i) ∈ upto (((xs.map PyData.str).length : Int) - 1).toNat := by
        unfold upto
        rw [List.length_map]
        exact List.mem_map.mpr ⟨i, List.mem_range.mpr (by omega), rfl⟩
      have := h _ hm
      have k : ltD ((xs.map PyData.str).getD i .none) ((xs.map PyData.str).getD (i + 1) .none) = true := this
      rw [List.getD_eq_getElem?_getD, List.getD_eq_getElem?_getD, List.getElem?_map, List.getElem?_map, List.getElem?_eq_getElem (by omega), List.getElem?_eq_getElem hi] at k
      exact ltD_iff.mp k
    · obtain ⟨i, hi, rfl⟩ := mem_upto hd
      rw [List.length_map] at hi
      have h1 : i + 1 < xs.length := by omega
      show ltD ((xs.map PyData.str).getD i .none) ((xs.map PyData.str).getD (i + 1) .none) = true
      rw [List.getD_eq_getElem?_getD, List.getD_eq_getElem?_getD, List.getElem?_map, List.getElem?_map, List.getElem?_eq_getElem (by omega), List.getElem?_eq_getElem h1]
      exact ltD_iff.mpr (h i h1)
  rw [e1]
  refine ⟨fun h => ?_, fun h i hi => (List.pairwise_iff_getElem.mp h) i (i + 1) (by omega) hi (by omega)⟩
  refine List.pairwise_iff_getElem.mpr fun i j hi hj hij => ?_
  obtain ⟨k, rfl⟩ : ∃ k, j = i + 1 + k := ⟨j - i - 1, by omega⟩
  clear hij
  induction k with
  | zero => exact h i (by omega)
  | succ k ih =>
    have h1 := ih (by omega)
    have h2 := h (i + 1 + k) (by omega)
    exact ltS_trans h1 h2
theorem sub_of : ∀ {ns ys : List Str}, asc ns → asc ys → (∀ y ∈ ys, y ∈ ns) → ys.Sublist ns
  | [], [], _, _, _ => List.Sublist.slnil
  | [], y :: ys, _, _, h => absurd (h y List.mem_cons_self) (by simp)
  | n :: ns, [], _, _, _ => List.nil_sublist _
  | n :: ns, y :: ys, an, ay, h => by
    obtain ⟨a1, a2⟩ := List.pairwise_cons.mp an
    obtain ⟨b1, b2⟩ := List.pairwise_cons.mp ay
    rcases List.mem_cons.mp (h y List.mem_cons_self) with z | z
    · subst z
      refine List.Sublist.cons₂ _ (sub_of a2 b2 fun x hx => ?_)
      rcases List.mem_cons.mp (h x (List.mem_cons_of_mem _ hx)) with w | w
      · exact absurd (w ▸ b1 x hx) ltS_irrefl
      · exact w
    · refine List.Sublist.cons _ (sub_of a2 ay fun x hx => ?_)
      have hy : ltS n y := a1 y z
      rcases List.mem_cons.mp hx with w | w
      · rw [w]; exact z
      · rcases List.mem_cons.mp (h x hx) with v | v
        · exact absurd (ltS_trans hy (v ▸ b1 x w)) ltS_irrefl
        · exact v
/-- the letters of a scope, as texts -/
def lets : List Str → List (List Str)
  | [] => [[]]
  | [a] => [[], [a]]
  | [a, b] => [[], [a], [b], [a, b]]
  | [a, b, c] => [[], [a], [b], [a, b], [c], [a, c], [b, c], [a, b, c]]
  | _ => []
def tupS (l : List Str) : PyData := .tuple (l.map PyData.str)
theorem lettersL_eq : ∀ {ns : List Str}, ns.length ≤ 3 → lettersL (ns.map PyData.str) = (lets ns).map tupS
  | [], _ => by rfl
  | [a], _ => by rfl
  | [a, b], _ => by kernel_rfl
  | [a, b, c], _ => by kernel_rfl
  | _ :: _ :: _ :: _ :: r, h => by simp at h
theorem lawLet_eq : ∀ {ns : List Str}, ns.length ≤ 3 → lawLet [.tuple []] (ns.map PyData.str) = (lets ns).map tupS
  | [], _ => by rfl
  | [a], _ => by rfl
  | [a, b], _ => by rfl
  | [a, b, c], _ => by rfl
  | _ :: _ :: _ :: _ :: r, h => by simp at h
theorem lets_sub : ∀ {ns l : List Str}, ns.length ≤ 3 → (l ∈ lets ns ↔ l.Sublist ns)
  | [], l, _ => by simp [lets]
  | [a], l, _ => by
    simp only [lets, List.mem_cons, List.not_mem_nil, or_false]
    constructor
    · rintro (rfl | rfl) <;> simp
    · intro h
      cases h with
      | cons _ h => cases h; simp
      | cons_cons _ h => cases h; simp
  | [a, b], l, _ => by
    simp only [lets, List.mem_cons, List.not_mem_nil, or_false]
    constructor
    · rintro (rfl | rfl | rfl | rfl) <;> simp
    · intro h
      cases h with
      | cons _ h =>
        cases h with
        | cons _ h => cases h; simp
        | cons_cons _ h => cases h; simp
      | cons_cons _ h =>
        cases h with
        | cons _ h => cases h; simp
        | cons_cons _ h => cases h; simp
  | [a, b, c], l, _ => by
    simp only [lets, List.mem_cons, List.not_mem_nil, or_false]
    constructor
    · rintro (rfl | rfl | rfl | rfl | rfl | rfl | rfl | rfl) <;> simp
    · intro h
      cases h with
      | cons _ h =>
        cases h with
        | cons _ h =>
          cases h with
          | cons _ h => cases h; simp
          | cons_cons _ h => cases h; simp
        | cons_cons _ h =>
          cases h with
          | cons _ h => cases h; simp
          | cons_cons _ h => cases h; simp
      | cons_cons _ h =>
        cases h with
        | cons _ h =>
          cases h with
          | cons _ h => cases h; simp
          | cons_cons _ h => cases h; simp
        | cons_cons _ h =>
          cases h with
          | cons _ h => cases h; simp
          | cons_cons _ h => cases h; simp
  | _ :: _ :: _ :: _ :: r, l, h => by simp at h
end K0


set_option Elab.async false
set_option linter.all false
set_option maxRecDepth 100000
set_option maxHeartbeats 4000000
namespace K0
open PySem PySem.Spec PyProof.Rows L2 GxR Tk
variable [LamTab]
/-- the law's own judges -/
def lawNameB : PyData → Bool
  | .str s => (decide (1 ≤ (s.length : Int)) && decide ((s.length : Int) ≤ 8)) && (Tk.signs s).all sgnB
  | _ => false
def lawNamesB : PyData → Bool
  | .tuple xs => xs.all lawNameB && ascB xs
  | _ => false
def insideB (ns : List PyData) : PyData → Bool
  | .tuple ys => ys.all fun y => ns.any fun z => PyData.eqv z y
  | _ => false
def lawNodeB (ns : List PyData) (m : Int) : PyData → Bool
  | .tuple [l, a, b] => lawNamesB l && (insideB ns l && (numB a m && numB b m))
  | _ => false
def lawRowsB : PyData → PyData → Bool
  | .tuple ns, .tuple xs => xs.all (lawNodeB ns (xs.length : Int))
  | _, _ => false
def isWoodWord : PyData → Bool
  | .str z => decide (z = ("wood" : Str))
  | _ => false
def len3B : PyData → Bool
  | .tuple xs => decide ((xs.length : Int) ≤ 3)
  | _ => false
def lawWoodB : PyData → Bool
  | .tuple [w, sc, rs] => isWoodWord w && ((lawNamesB sc && len3B sc) && (rowB rs 1 400 && lawRowsB sc rs))
  | _ => false
theorem name_same {k : Nat} {x : PyData} (h : cv k x = true) : nameB x = lawNameB x := by
  cases x with
  | str s =>
    have hn := (str_cv.mp h).2
    have e : (keptD.any fun z => PyData.eqv z (.str s)) = false := by
      cases q : keptD.any fun z => PyData.eqv z (.str s) with
      | false => rfl
      | true =>
        obtain ⟨z, hz, e⟩ := List.any_eq_true.mp q
        obtain ⟨w, hw, rfl⟩ := List.mem_map.mp hz
        rw [eqv_str] at e
        have e := of_decide_eq_true e
        exact absurd (by rw [e]; exact List.prefix_refl _) (nk_iff.mp hn w hw)
    show ((decide (1 ≤ (s.length : Int)) && decide ((s.length : Int) ≤ 8)) && (!(keptD.any fun z => PyData.eqv z (.str s)) && (Tk.signs s).all sgnB)) = _
    rw [e]
    rfl
  | _ => rfl
theorem names_same {k : Nat} : ∀ {xs : List PyData}, cvs k xs = true → xs.all nameB = xs.all lawNameB
  | [], _ => rfl
  | x :: xs, h => by
    simp only [cvs, Bool.and_eq_true] at h
    rw [List.all_cons, List.all_cons, name_same h.1, names_same h.2]
theorem scope_same {k : Nat} {d : PyData} (h : cv k d = true) : scopeB d = (lawNamesB d && len3B d) := by
  cases d with
  | tuple xs =>
    simp only [cv, Bool.and_eq_true] at h
    have h := h.2
    show ((decide (0 ≤ (xs.length : Int)) && decide ((xs.length : Int) ≤ 3)) && (xs.all nameB && ascB xs)) = ((xs.all lawNameB && ascB xs) && decide ((xs.length : Int) ≤ 3))
    rw [names_same h, decide_eq_true (by omega : (0 : Int) ≤ (xs.length : Int)), Bool.true_and, Bool.and_comm]
  | _ => rfl
theorem lawName_str {x : PyData} (h : lawNameB x = true) : isStr x = true := by cases x <;> first | rfl | cases h
theorem node_same {ns : List Str} (hl : ns.length ≤ 3) (ha : asc ns) (hn : (ns.map PyData.str).all lawNameB = true) (l : PyData) :
    (strTup l && (lettersL (ns.map PyData.str)).any fun z => PyData.eqv z l) = (lawNamesB l && insideB (ns.map PyData.str) l) := by
  rw [Bool.eq_iff_iff, Bool.and_eq_true, Bool.and_eq_true, lettersL_eq hl]
  constructor
  · rintro ⟨h1, h2⟩
    cases l with
    | tuple ys =>
      obtain ⟨yl, rfl⟩ := strs_of fun x hx => List.all_eq_true.mp h1 x hx
      obtain ⟨z, hz, e⟩ := List.any_eq_true.mp h2
      obtain ⟨l0, h0, rfl⟩ := List.mem_map.mp hz
      have e : decide (l0 = yl) = true := by rw [← eqv_strs]; exact e
      have e := of_decide_eq_true e
      subst e
      have sb := (lets_sub hl).mp h0
      refine ⟨?_, ?_⟩
      · show ((l0.map PyData.str).all lawNameB && ascB (l0.map PyData.str)) = true
        rw [asc_iff.mpr (List.Pairwise.sublist sb ha), Bool.and_true, List.all_eq_true]
        exact fun x hx => List.all_eq_true.mp hn x ((sb.map PyData.str).subset hx)
      · refine List.all_eq_true.mpr fun y hy => ?_
        obtain ⟨y0, hy0, rfl⟩ := List.mem_map.mp hy
        refine List.any_eq_true.mpr ⟨.str y0, List.mem_map_of_mem (sb.subset hy0), ?_⟩
        rw [eqv_str]
        exact decide_eq_true rfl
    | _ => cases h1
  · rintro ⟨h1, h2⟩
    cases l with
    | tuple ys =>
      have h1' := (Bool.and_eq_true _ _).mp h1
      have hs : ∀ x ∈ ys, isStr x = true := fun x hx => lawName_str (List.all_eq_true.mp h1'.1 x hx)
      obtain ⟨yl, rfl⟩ := strs_of hs
      have hsub : ∀ y ∈ yl, y ∈ ns := fun y hy => by
        have := List.all_eq_true.mp h2 (.str y) (List.mem_map_of_mem hy)
        obtain ⟨z, hz, e⟩ := List.any_eq_true.mp this
        obtain ⟨n, hn, rfl⟩ := List.mem_map.mp hz
        rw [eqv_str] at e
        have e := of_decide_eq_true e
        rw [← e]
        exact hn
      have hm := (lets_sub hl).mpr (sub_of ha (asc_iff.mp h1'.2) hsub)
      refine ⟨List.all_eq_true.mpr hs, List.any_eq_true.mpr ⟨tupS yl, List.mem_map_of_mem hm, ?_⟩⟩
      show PyData.eqvAll (yl.map PyData.str) (yl.map PyData.str) = true
      rw [eqv_strs]
      exact decide_eq_true rfl
    | _ => cases h1
theorem rowB3 {d : PyData} : rowB d 3 3 = true ↔ ∃ a b c, d = .tuple [a, b, c] := by
  constructor
  · intro h
    obtain ⟨xs, rfl, h1, h2⟩ := row_tup h
    obtain ⟨a, b, c, rfl⟩ := three h1 h2
    exact ⟨a, b, c, rfl⟩
  · rintro ⟨a, b, c, rfl⟩
    rfl
theorem wood_same {k : Nat} {d : PyData} (h : cv k d = true) : woodB d = lawWoodB d := by
  cases d with
  | tuple xs =>
    match xs, h with
    | [], _ => rfl
    | [_], _ => rfl
    | [_, _], _ => rfl
    | [w, sc, rs], h =>
      have h : cv k w = true ∧ cv k sc = true ∧ cv k rs = true ∧ True := by
        simp only [cv, Bool.and_eq_true] at h
        exact ⟨cvs_mem h.2 w (by simp), cvs_mem h.2 sc (by simp), cvs_mem h.2 rs (by simp), trivial⟩
      rw [wood_eq]
      have e1 : headB (.tuple [w, sc, rs]) "wood" 3 = isWoodWord w := by cases w <;> rfl
      rw [e1, scope_same h.2.1]
      show _ = (isWoodWord w && ((lawNamesB sc && len3B sc) && (rowB rs 1 400 && lawRowsB sc rs)))
      cases hs : lawNamesB sc && len3B sc with
      | false => rfl
      | true =>
        cases hr : rowB rs 1 400 with
        | false => rfl
        | true =>
          obtain ⟨rows, rfl, _, _⟩ := row_tup hr
          have hs' := (Bool.and_eq_true _ _).mp hs
          cases sc with
          | tuple ns =>
            have hn := (Bool.and_eq_true _ _).mp hs'.1
            obtain ⟨nl, rfl⟩ := strs_of fun x hx => lawName_str (List.all_eq_true.mp hn.1 x hx)
            have hl : nl.length ≤ 3 := by
              have := of_decide_eq_true hs'.2
              rw [List.length_map] at this
              omega
            have ha := asc_iff.mp hn.2
            have er : nodesB (.tuple (nl.map PyData.str)) (.tuple rows) = lawRowsB (.tuple (nl.map PyData.str)) (.tuple rows) := by
              show (rows.all fun r => nodeB r (lettersL (nl.map PyData.str)) (rows.length : Int)) = rows.all (lawNodeB (nl.map PyData.str) (rows.length : Int))
              congr 1
              funext r
              unfold nodeB
              cases h3 : rowB r 3 3 with
              | false =>
                cases r with
                | tuple xs =>
                  match xs, h3 with
                  | [], _ => rfl
                  | [_], _ => rfl
                  | [_, _], _ => rfl
                  | [_, _, _], h3 => cases h3
                  | _ :: _ :: _ :: _ :: _, _ => rfl
                | _ => rfl
              | true =>
                obtain ⟨l, a, b, rfl⟩ := rowB3.mp h3
                show (true && (strTup l && (((lettersL (nl.map PyData.str)).any fun z => PyData.eqv z l) && (numB a _ && numB b _)))) = (lawNamesB l && (insideB (nl.map PyData.str) l && (numB a _ && numB b _)))
                rw [Bool.true_and, ← Bool.and_assoc, ← Bool.and_assoc, node_same hl ha hn.1 l]
                simp only [Bool.and_assoc]
            rw [er]
          | _ => cases hs'.1
    | a :: b :: c :: e :: r, _ =>
      have h4 : headB (.tuple (a :: b :: c :: e :: r)) "wood" 3 = false := by
        show (true && (decide (((a :: b :: c :: e :: r).length : Int) = 3) && _)) = false
        rw [decide_eq_false (by simp only [List.length_cons]; omega)]
        rfl
      show (headB (.tuple (a :: b :: c :: e :: r)) "wood" 3 && _) = false
      rw [h4]
      rfl
  | _ => rfl
end K0


set_option Elab.async false
set_option linter.all false
set_option maxRecDepth 100000
set_option maxHeartbeats 3200000
/-! Ts0: set(t) of a tuple of texts, sorted(..) of it. -/
namespace Ts
open PySem PySem.Spec PyProof.Rows L2 PySem.Froz
section
variable {P : Program} {w : World} {A : Around} {E : Value → Shared → Prop} {s : Shared} {a : Addr}
/-- a set's payload that holds just the texts l and can be walked -/
structure TxR (P : Program) (w : World) (D : SD) (l : List Str) : Prop where
  ok : TxOk P w D l
  nd : l.Nodup
  ris : Ris D.2.2.place.toList
  led : w.params.followText "set-order" = true ∨ D.2.2.led = true
  pm : (D.1.toList.map fun e => strOf e.2).Perm l
def Has (P : Program) (w : World) (h : Heap) (a : Addr) (l : List Str) : Prop := ∃ D, h.get? a = some (sObj "set" D) ∧ TxR P w D l
theorem Has.at {h h' : Heap} {l : List Str} (x : Has P w h a l) (k : ∀ o, h.get? a = some o → h'.get? a = some o) : Has P w h' a l := by
  obtain ⟨D, e, r⟩ := x
  exact ⟨D, k _ e, r⟩
theorem add_walk (D : SD) (h : Int) (v : Value) (r : Ris D.2.2.place.toList) : Ris (addTx h v D).2.2.place.toList ∧ (addTx h v D).2.2.led = D.2.2.led := by
  obtain ⟨es, ep, t⟩ := D
  have h1 := layNew_ris t es h v r
  have h2 := layNew_led t es h v
  unfold addTx tailTx
  dsimp only
  generalize layNew t es h v = Z at h1 h2 ⊢
  have h3 : Ris (if Z.2.1.plain = true then { Z.2.1 with plain := false } else Z.2.1).place.toList ∧ (if Z.2.1.plain = true then { Z.2.1 with plain := false } else Z.2.1).led = t.led := by
    split
    · exact ⟨h1, h2⟩
    · exact ⟨h1, h2⟩
  generalize (if Z.2.1.plain = true then { Z.2.1 with plain := false } else Z.2.1) = t2 at h3 ⊢
  split
  · exact ⟨relayAll_ris t2 _ _, (relayAll_led t2 _ _).trans h3.2⟩
  · exact h3
theorem add_perm (D : SD) (h : Int) (v : Value) : (addTx h v D).1.toList.Perm (D.1.push (h, v)).toList := by
  obtain ⟨es, ep, t⟩ := D
  have h1 := layNew_perm t es h v
  unfold addTx tailTx
  dsimp only
  generalize layNew t es h v = Z at h1 ⊢
  generalize (if Z.2.1.plain = true then { Z.2.1 with plain := false } else Z.2.1) = t2
  split
  · exact (relayAll_perm _ _ _).trans h1
  · exact h1
theorem TxR.add {D : SD} {l : List Str} {k : Str} (u : Tok) (R : TxR P w D l) (hk : k ∉ l) : TxR P w (addTx (hashStr w k) (.str k u) D) (k :: l) := by
  obtain ⟨h1, h2⟩ := add_walk D (hashStr w k) (.str k u) R.ris
  exact ⟨add_ok u R.ok, List.nodup_cons.mpr ⟨hk, R.nd⟩, h1, R.led.imp id fun z => by rw [h2]; exact z, by
    have p := (add_perm D (hashStr w k) (.str k u)).map fun e => strOf e.2
    rw [Array.toList_push, List.map_append] at p
    exact p.trans ((List.perm_append_singleton _ _).trans (R.pm.cons k))⟩
/-- one that is there already -/
theorem add_dup {D : SD} {l : List Str} {k : Str} {u : Tok} {Q : Bool → Shared → Prop} (ho : s.heap.get? a = some (sObj "set" D)) (F : TxOk P w D l) (hk : k ∈ l) (hb : l.length < scanBound) (h : Q false s) :
    wpAny (model P w) A (setAddHashed a (.str k u) (hashStr w k)) Q E s := by
  obtain ⟨es, ep, t⟩ := D
  have hd : (sObj "set" (es, ep, t)).data = .set es ep t := rfl
  have hel : ElemsOf (strKind P w) es.toList := F.el
  have hsz : es.size = l.length := F.sz
  have hkey : (strKind P w).is k (.str k u) = true := is_str k u
  obtain ⟨e, he, pe⟩ := (F.mem k).mp hk
  unfold setAddHashed setAddHashedIn
  refine wpAny_holding (wpAny_bind (wpAny_setState_of ho hd F.fit ?_))
  dsimp only
  rw [byScan_of rfl (by omega) hel]
  simp only [↓reduceIte]
  unfold setAddByScan
  refine wpAny_bind ?_
  refine wpAny_bind (wpAny_rule ?_)
  refine wpAny_bind (wpAny_setScan_of (knd := strKind P w) (k := k) hkey ho hd F.fit hel ?_)
  cases hfi : List.findIdx? (fun e => (strKind P w).is k e.2) es.toList with
  | none =>
    have c := List.findIdx?_eq_none_iff.mp hfi e he
    rw [pe] at c
    cases c
  | some j => exact wpAny_pure (wpAny_pure h)
theorem add_any {l : List Str} {k : Str} {u : Tok} {Q : Bool → Shared → Prop} (x : Has P w s.heap a l) (hb : l.length + 1 < scanBound)
    (hQ : ∀ b h' l', Heap.SameBut a s.heap h' → Has P w h' a l' → (∀ j, j ∈ l' ↔ j = k ∨ j ∈ l) → l'.length ≤ l.length + 1 → Q b { s with heap := h' }) :
    wpAny (model P w) A (setAddHashed a (.str k u) (hashStr w k)) Q E s := by
  obtain ⟨D, ho, R⟩ := x
  by_cases hk : k ∈ l
  · refine add_dup ho R.ok hk (by omega) (hQ false s.heap l (Heap.SameBut.refl a s.heap) ⟨D, ho, R⟩ (fun j => ⟨.inr, fun z => z.elim (fun e => e ▸ hk) id⟩) (by omega))
  · refine add_x ho R.ok hk hb (hQ true _ (k :: l) (Heap.SameBut.update s.heap a _) ⟨_, get_upd _ ho rfl, R.add u hk⟩ (fun j => List.mem_cons) (by rw [List.length_cons]; omega))
end
end Ts


set_option Elab.async false
set_option linter.all false
set_option maxRecDepth 100000
set_option maxHeartbeats 3200000
namespace Ts
open PySem PySem.Spec PyProof.Rows L2 PySem.Froz
section
variable {P : Program} {w : World} {A : Around} {E : Value → Shared → Prop} {s : Shared}
theorem fill {I : Addr} {fp wr : List Addr} {G : Array GenState → Array GenState → Prop} {n : Nat} {Pv : Nat → Value → Prop} {St : Nat → Shared → Prop} {R : Result → Shared → Prop}
    (W : WalksS P w A.in1 I fp wr G n Pv St) (S : Addr) (hSf : S ∉ fp) (ns : List Str) (hn : n = ns.length) (hb : ns.length + 1 < scanBound) (hval : ∀ i v, Pv i v → ∃ k t, ns[i]? = some k ∧ v = .str k t) :
    ∀ (k i : Nat) (s : Shared) (l : List Str), n - i = k → i ≤ n → St i s → Has P w s.heap S l → (∀ j, j ∈ l ↔ j ∈ ns.take i) → l.length ≤ i →
      (∀ s' l', Moved (S :: wr) G s s' → Has P w s'.heap S l' → (∀ j, j ∈ l' ↔ j ∈ ns) → l'.length ≤ n → R (.ok (.ret .none)) s') →
      codeAny (model P w) A (.builtin "set.update.loop" ⟨[.ref S, .ref I], []⟩) R s := by
  have hSw : S ∉ wr := fun h => hSf (W.sub _ h)
  have hsub : ∀ b ∈ wr, b ∈ S :: wr := fun b hb => List.mem_cons_of_mem _ hb
  intro k
  induction k with
  | zero =>
    intro i s l hk' hi hst hS hm hl hR
    have hin : i = n := by omega
    subst hin
    refine codeAny_builtin F.entry_set_update_loop ?_
    rw [Around.under_plainId F.plain_set_update_loop _]
    show wpAny _ A.in1 (pyNext (.ref I) >>= _) _ _ s
    refine wpAny_bind (W.done s _ _ hst fun s' mv => ?_)
    show wpAny _ A.in1 (ret Value.none) _ _ s'
    have e : ns.take i = ns := List.take_of_length_le (by omega)
    rw [e] at hm
    exact wpAny_pure (hR s' l (mv.mono hsub) (hS.at fun o e => mv.heap S o hSw e) hm hl)
  | succ k ih =>
    intro i s l hk' hi hst hS hm hl hR
    have hlt : i < n := by omega
    refine codeAny_builtin F.entry_set_update_loop ?_
    rw [Around.under_plainId F.plain_set_update_loop _]
    show wpAny _ A.in1 (pyNext (.ref I) >>= _) _ _ s
    refine wpAny_bind (W.item i s _ _ hlt hst fun v s' hP hst' mv => ?_)
    obtain ⟨z, t, hz, rfl⟩ := hval i v hP
    have hS' : Has P w s'.heap S l := hS.at fun o e => mv.heap S o hSw e
    show wpAny _ A.in1 (holding [Value.str z t] (setAdd S (.str z t)) >>= _) _ _ s'
    refine wpAny_bind (wpAny_holding ?_)
    unfold setAdd
    refine wpAny_holding ?_
    refine wpAny_bind ((strKind P w).pyHash (k := z) (is_str z t) ?_)
    refine add_any (s := { s' with toks := s'.toks + 1 }) hS' (by omega) fun b h' l' hsb hS2 hm2 hl2 => ?_
    have hm3 : ∀ j, j ∈ l' ↔ j ∈ ns.take (i + 1) := fun j => by
      rw [hm2 j, hm j, List.take_add_one, hz, List.mem_append]
      simp only [Option.toList_some, List.mem_singleton]
      exact Or.comm
    refine wpAny_pure ⟨plainId_quiet F.plain_set_update_loop _, ih (i + 1) _ l' (by omega) hlt (W.frame _ s' _ _ hst' (Nat.le_succ _) fun b hb o e => ?_) hS2 hm3 (by omega) fun s'' l2 mv'' hS'' hm'' hl'' => ?_⟩
    · rw [hsb.2 b (fun h : b = S => hSf (by rw [← h]; exact hb))]; exact e
    · refine hR s'' l2 (Moved.trans W.gtrans ((mv.mono hsub).then_heap (Nat.le_succ _) fun b o hb e => ?_) mv'') hS'' hm'' hl''
      rw [hsb.2 b (fun h : b = S => hb (by rw [h]; exact List.mem_cons_self))]; exact e
theorem has_new {h : Heap} {a : Addr} (ho : h.get? a = some { cls := .type "set", dict := none, data := .set #[] 0 (.fresh 0 0 (!w.params.followText "set-order")) }) : Has P w h a [] :=
  ⟨(#[], 0, .fresh 0 0 (!w.params.followText "set-order")), ho, TxOk.nil (by rfl), List.nodup_nil, List.Pairwise.nil, by
    show _ ∨ (!w.params.followText "set-order") = true
    cases w.params.followText "set-order"
    · exact .inr rfl
    · exact .inl rfl, List.Perm.refl _⟩
theorem call_set {l : Addr} {items : Array Value} (ns : List Str) {Q : Value → Shared → Prop} (hh : A.handled = none) (hl : s.heap.IsTuple l items) (hit : StrsAre items.toList ns) (hb : ns.length + 1 < scanBound)
    (h : ∀ (h' : Heap) (tk : Nat) (l' : List Str), Has P w h' s.heap.objs.size l' → (∀ j, j ∈ l' ↔ j ∈ ns) → l'.length ≤ ns.length → (∀ b o, s.heap.get? b = some o → h'.get? b = some o) → Q (.ref s.heap.objs.size) { s with heap := h', toks := tk }) :
    wpAny (model P w) A (call (.type "set") [.ref l]) Q E s := by
  have hisz : items.size = ns.length := by
    have q := hit.length
    rw [Array.length_toList] at q
    exact q
  obtain ⟨c, tl, hmro⟩ := F.called_set.mro
  have hmade := F.called_set.made
  have hsub := F.called_set.sub
  refine wpAny_call (codeAny_of_tree ?_)
  show wpAny _ _ (callAny (.type "set") _) _ _ _
  refine wpAny_pure ⟨Code.quiet_builtin _ (by decide +kernel), codeAny_builtin F.entry_type_call ?_⟩
  rw [Around.under_plain (weight_type_call_type "set" [.ref l] []) rfl]
  have h1 := F.called_set.notType
  have h2 := F.called_set.canCreate
  have hct := F.typeCall_set_1 (.ref l)
  repeat (any_goals (first | assumption | wp_step))
  refine codeAny_mono (code_set_led1 (.ref l) (E := E) (Q₁ := fun obj s₁ => obj = .ref s.heap.objs.size ∧ s₁ = { s with heap := s.heap.push { cls := .type "set", dict := none, data := .set #[] 0 (.fresh 0 0 (!w.params.followText "set-order")) } }) ⟨rfl, rfl⟩) fun r s₁ hr => ?_
  match r, hr with
  | .error e, hr => exact hr
  | .ok (.ret obj), hr =>
    obtain ⟨rfl, rfl⟩ := hr
    generalize hh2 : s.heap.push { cls := .type "set", dict := none, data := .set #[] 0 (.fresh 0 0 (!w.params.followText "set-order")) } = h2
    have hsz : h2.objs.size = s.heap.objs.size + 1 := by rw [← hh2]; exact Heap.size_push ..
    have hS : h2.get? s.heap.objs.size = some { cls := .type "set", dict := none, data := .set #[] 0 (.fresh 0 0 (!w.params.followText "set-order")) } := by rw [← hh2]; exact Heap.get?_push_size _ rfl
    have hold : ∀ b o, s.heap.get? b = some o → h2.get? b = some o := fun b o e => by rw [← hh2]; exact Heap.get?_push_of_some _ e
    have hT : Shared.TypeIs { s with heap := h2 } (.ref s.heap.objs.size) "set" := ⟨_, hS, rfl⟩
    have hli := F.called_set.init.lookup
    have hbi := F.called_set.init.bind (.ref s.heap.objs.size)
    repeat (any_goals (first | assumption | wp_step))
    refine codeAny_mono (codeAny_call_builtin (R := wants (fun r s₂ => r = .none ∧ ∃ h' tk l', s₂ = { s with heap := h', toks := tk } ∧ Has P w h' s.heap.objs.size l' ∧ (∀ j, j ∈ l' ↔ j ∈ ns) ∧ l'.length ≤ ns.length ∧
        (∀ b o, s.heap.get? b = some o → h'.get? b = some o)) E) F.called_set.init.plain F.entry_set_init (check_set_init_1 hT ?_)) fun r₂ s₂ hr₂ => ?_
    · obtain ⟨⟨ocls, odict, odata, oslots⟩, hol, hcl, nl, hdl⟩ := id hl
      simp only at hcl hdl
      subst hcl hdl
      have hol' := hold _ _ hol
      have hsls := F.sub_tuple_set
      have hslf := F.sub_tuple_frozenset
      have hne : (Value.type "tuple" == Value.type "dict") = false := by decide
      have hl1 : h2.IsTuple l items := ⟨_, hol', rfl, nl, rfl⟩
      unfold Builtin.«set.__init__» noKeywords Builtin.Frozenset.updateFrom
      generalize hPI : pyIter = PI
      wp_walk
      subst hPI
      refine wpAny_pyIter_tuple hl1 ?_
      refine wpAny_bind (wpAny_runValue ?_)
      have hlS : l < s.heap.objs.size := Heap.lt_size hol
      have hh3 : A.in1.in1.in1.handled = none := by simp [hh]
      have hneI : l ≠ h2.objs.size := Nat.ne_of_lt (by rw [hsz]; exact Nat.lt_succ_of_lt hlS)
      have hSf : s.heap.objs.size ∉ [h2.objs.size, l] := by
        simp only [List.mem_cons, List.not_mem_nil, or_false, not_or]
        exact ⟨Nat.ne_of_lt (by rw [hsz]; exact Nat.lt_succ_self _), Nat.ne_of_gt hlS⟩
      have hval : ∀ (i : Nat) (v : Value), items[i]? = some v → ∃ k t, ns[i]? = some k ∧ v = .str k t := fun i v hv => by
        have hi : i < ns.length := by rw [← hisz]; exact (Array.getElem?_eq_some_iff.mp hv).1
        obtain ⟨t, e⟩ := hit.get i ns[i] (List.getElem?_eq_getElem hi)
        rw [Array.getElem?_toList, hv] at e
        exact ⟨ns[i], t, List.getElem?_eq_getElem hi, Option.some.inj e⟩
      refine fill ((Walks.tuple hh3 _ l hneI items).toS) s.heap.objs.size hSf ns hisz hb hval (items.size - 0) 0 _ [] (by omega) (Nat.zero_le _) ⟨⟨_, Heap.get?_push_size _ rfl, rfl, rfl⟩, (hl1.push _)⟩ (has_new (Heap.get?_push_of_some _ hS)) (fun j => by simp) (Nat.le_refl _) ?_
      intro s' l' mv hS' hm' hl'
      obtain ⟨h', g2, d', tk', os'⟩ := s'
      have eg : g2 = s.gens := mv.gens
      have ed : d' = s.drawn := mv.drawn
      have eo : os' = s.os := mv.os
      subst eg ed eo
      show wpAny _ _ _ _ _ _
      refine wpAny_pure ?_
      show wpAny _ _ (ret Value.none) _ _ _
      refine wpAny_pure ⟨rfl, h', tk', l', rfl, hS', hm', by rw [hisz] at hl'; exact hl', fun b o e => ?_⟩
      have hb0 : b < s.heap.objs.size := Heap.lt_size e
      exact mv.heap b o (by simp only [List.mem_cons, List.not_mem_nil, or_false, not_or]; exact ⟨Nat.ne_of_lt hb0, Nat.ne_of_lt (by rw [hsz]; exact Nat.lt_succ_of_lt hb0)⟩) (Heap.get?_push_of_some _ (hold b o e))
    · match r₂, hr₂ with
      | .error e, hr₂ => exact hr₂
      | .ok (.ret r), hr₂ =>
        obtain ⟨rfl, h', tk, l', rfl, hS', hm', hl', hk'⟩ := hr₂
        repeat (any_goals (first | assumption | wp_step))
        exact h _ _ _ hS' hm' hl' hk'
end
end Ts


set_option Elab.async false
set_option linter.all false
set_option maxRecDepth 100000
set_option maxHeartbeats 3200000
namespace Ts
open PySem PySem.Spec PyProof.Rows L2 PySem.Froz
section
variable {P : Program} {w : World} {A : Around} {E : Value → Shared → Prop} {s : Shared} {a : Addr}
theorem strs_vals : ∀ (l : List Value), (∀ v ∈ l, ∃ k t, v = Value.str k t) → StrsAre l (l.map strOf)
  | [], _ => .nil
  | v :: l, h => by
    obtain ⟨k, t, rfl⟩ := h v List.mem_cons_self
    exact .cons k t (strs_vals l fun u hu => h u (List.mem_cons_of_mem _ hu))
theorem sorted_has {l : List Str} {Q : Value → Shared → Prop} (x : Has P w s.heap a l) (hh : A.handled = none) (h64 : l.length < 64)
    (hQ : ∀ s' p (out : Array Value) (c : Nat) (ys : List Str), (∀ b o, s.heap.get? b = some o → s'.heap.get? b = some o) → s'.gens = s.gens → s'.os = s.os → s.heap.objs.size ≤ p →
      s'.heap.get? p = some (seqObj "list" out c) → StrsAre out.toList ys → ys.Perm l → sortedS ys = true → Q (.ref p) s') :
    wpAny (model P w) A (call (.builtin "sorted") [.ref a]) Q E s := by
  obtain ⟨⟨es, ep, t⟩, ho, R⟩ := x
  have hsz : es.size = l.length := R.ok.sz
  have big : (64 : Nat) < scanBound := by decide +kernel
  refine Calls.call_function_entry kind_sorted plain_sorted entry_sorted (args_sorted1 _) ?_
  unfold Builtin.«sorted»
  refine wpAny_bind (m := checkCount "sorted" 1 1 _) (wpAny_pure ?_)
  refine wpAny_bind (collect_set (A := A.in1) hh ⟨_, ho, rfl, rfl⟩ R.ok.fit (by show es.size < scanBound; omega) R.ris R.led fun s1 vs k1 hz g1 o1 pm => ?_)
  have hvl : vs.length = l.length := by rw [pm.length_eq, List.length_map, Array.length_toList]; exact hsz
  have hS : StrsAre vs (vs.map strOf) := strs_vals vs fun v hv => by
    obtain ⟨e, he, q⟩ := List.mem_map.mp (pm.mem_iff.mp hv)
    obtain ⟨⟨k, hk, _⟩, _⟩ := R.ok.el e he
    rw [← q]
    have hk : Value.isStrOf k e.2 = true := hk
    cases e2 : e.2 with
    | str x u => exact ⟨x, u, rfl⟩
    | _ => rw [e2] at hk; cases hk
  have pk : (vs.map strOf).Perm l := by
    have q := pm.map strOf
    rw [List.map_map] at q
    exact q.trans R.pm
  refine wpAny_bind (wpAny_newList ?_ (by rw [hvl, sizeLine_eq]; omega))
  have hoL : (s1.heap.push (seqObj "list" vs.toArray 0)).get? s1.heap.objs.size = some (seqObj "list" vs.toArray 0) := Heap.get?_push_size _ rfl
  refine wpAny_bind (wpAny_holding (wpAny_call_entry slot_list_sort ⟨_, hoL, rfl⟩ entry_list_sort (list_sort_treeK strKind_oneLt hoL hS.keysOf (fun v₁ v₂ rest e => keyKind_strs (by rw [← e]; exact hS)) (by rw [hvl]; exact h64) fun st' a1 a2 => ⟨_, rfl, ?_⟩) (args_list_sort _)))
  obtain ⟨ys, y1, y2, y3⟩ := sorted_out_str hS a1 a2
  obtain ⟨c, hc⟩ := sortedHeap_at (vs := vs) (out := (arrOf st').map (·.2)) hoL
  refine wpAny_pure ⟨_, rfl, hQ _ s1.heap.objs.size _ c ys (fun b u e => ?_) g1 o1 hz hc y1 (y2.trans pk) y3⟩
  have q := k1 b u e
  have hlt := Heap.lt_size q
  show (sortedHeap (s1.heap.push (seqObj "list" vs.toArray 0)) s1.heap.objs.size vs ((arrOf st').map (·.2))).get? b = some u
  rw [sortedHeap_old (Nat.ne_of_lt hlt) (by rw [size_push']; exact Nat.lt_succ_of_lt hlt)]
  exact Heap.get?_push_of_some _ q
end
/-! ### as rules -/
section
variable {X : Cx}
def SetT (P : Program) (w : World) (a : Addr) (l : List Str) : HO := .ext fun h => Has P w h a l
theorem setT_new {w : World} {P : Program} {H : Hp} {h : Heap} {a : Addr} {l : List Str} (R : Has P w h a l) : ObjOk P w H h a (SetT P w a l) := by
  have ⟨D, ho, _⟩ := R
  exact ⟨R, ⟨_, ho⟩, fun h1 h2 p k => Has.at p k⟩
def rSetTup (P : Program) (w : World) (K : PySem.W.Frag) : List V → Hp → VK → Prop := fun xs H Q => ∃ (a : Addr) (ns : List Str), xs = [V.ref a] ∧ SqT K H a (ns.map V.str) ∧ ns.length < 64 ∧ ∀ (p : Addr) (l : List Str), H p = none → (∀ j, j ∈ l ↔ j ∈ ns) → l.Nodup → l.length ≤ ns.length → Q (.ref p) (upd H p (SetT P w p l))
theorem cr_setTup (hc : X.calm = true) : CallR X (.type "set") (rSetTup X.prog X.w X.K) := by
  intro pins s σ H xs us Q I r h
  obtain ⟨a, ns, rfl, hs, hn, q⟩ := h
  obtain ⟨its, rv, ht, _⟩ := I.tuple hs
  rw [Vals.ref1 r]
  have big : (65 : Nat) < scanBound := by decide +kernel
  refine call_set ns (I.ok.hd hc) ht rv.strs (by omega) fun h' tk l hl hm hlen hk => ?_
  have hnd : l.Nodup := by
    obtain ⟨D, _, R⟩ := hl
    exact R.nd
  exact ⟨.ref _, upd H s.heap.objs.size (SetT X.prog X.w s.heap.objs.size l), I.laid (t' := tk) hk (Nat.le_refl _) (setT_new hl), rfl, q _ l (I.hok.fresh (Nat.le_refl _)) hm hnd hlen⟩
def rSortedT (P : Program) (w : World) : List V → Hp → VK → Prop := fun vs H Q => ∃ (a : Addr) (l : List Str), vs = [V.ref a] ∧ H a = some (SetT P w a l) ∧ l.length < 64 ∧
  ∀ (ys : List Str) (p : Addr), ys.Perm l → sortedS ys = true → H p = none → Q (.ref p) (upd H p (.lst (ys.map V.str)))
theorem cr_sortedT (hc : X.calm = true) : CallR X (.builtin "sorted") (rSortedT X.prog X.w) := by
  intro pins s σ H vs us Q I r h
  obtain ⟨a, l, rfl, ha, h64, q⟩ := h
  have R : Has X.prog X.w s.heap a l := (I.hok a _ ha).1
  rw [Vals.ref1 r]
  refine sorted_has R (I.ok.hd hc) h64 fun s' p out c ys k g o hp hg hi pm so => ?_
  have hlen : (ys.map V.str).length ≤ sizeLine := by rw [List.length_map, pm.length_eq, sizeLine_eq]; omega
  have hn : H p = none := I.hok.fresh hp
  have J : Inv X pins σ (upd H p (.lst (ys.map V.str))) { s with heap := s'.heap, gens := s'.gens, drawn := s'.drawn, toks := s'.toks } :=
    I.call (ch := []) (Un.laid k hp hn) (I.hok.laid k hp ⟨hlen, out.toList, c, vals_of_strs hi, hg⟩) (by rw [g]; exact I.bare) (fun _ z => nomatch z)
  have e : s' = { s with heap := s'.heap, gens := s'.gens, drawn := s'.drawn, toks := s'.toks } := by
    cases s'
    cases s
    cases o
    rfl
  rw [e]
  exact ⟨.ref p, _, J, rfl, q ys p pm so hn⟩
end
end Ts


set_option Elab.async false
set_option linter.all false
set_option maxRecDepth 100000
set_option maxHeartbeats 4000000
namespace K0
open PySem PySem.Spec PyProof.Rows L2 GxR Tk
variable [LamTab]
abbrev sLAre : Stmt := t__law_are_names
theorem asc_of_rising : ∀ {xs : List Str} {p : Str}, risingS p xs = true → (p :: xs).Nodup → asc (p :: xs)
  | [], p, _, _ => List.pairwise_singleton _ _
  | x :: r, p, h, n => by
    have h' := (Bool.and_eq_true _ _).mp h
    rw [List.nodup_cons] at n
    have ih := asc_of_rising h'.2 n.2
    have hp : ltS p x := ltD_iff.mp (lt_of_rise h'.1 fun z => n.1 (by rw [z]; exact List.mem_cons_self))
    refine List.pairwise_cons.mpr ⟨fun y hy => ?_, ih⟩
    rcases List.mem_cons.mp hy with z | z
    · rw [z]; exact hp
    · exact ltS_trans hp ((List.pairwise_cons.mp ih).1 y z)
theorem asc_of_sorted {xs : List Str} (h : sortedS xs = true) (n : xs.Nodup) : asc xs := by
  cases xs with
  | nil => exact List.Pairwise.nil
  | cons x r => exact asc_of_rising h n
theorem asc_same {xs ys l : List Str} (hm : ∀ j, j ∈ l ↔ j ∈ xs) (nd : l.Nodup) (pm : ys.Perm l) (so : sortedS ys = true) : decide (xs = ys) = ascB (xs.map PyData.str) := by
  have ay : asc ys := asc_of_sorted so (pm.nodup_iff.mpr nd)
  have my : ∀ j, j ∈ ys ↔ j ∈ xs := fun j => pm.mem_iff.trans (hm j)
  rw [Bool.eq_iff_iff, decide_eq_true_iff, asc_iff]
  refine ⟨fun e => e ▸ ay, fun ax => ?_⟩
  have s1 := sub_of ay ax fun x hx => (my x).mpr hx
  have s2 := sub_of ax ay fun x hx => (my x).mp hx
  exact s1.eq_of_length_le s2.length_le
section
variable {P : Program} {w : World} {K : PySem.W.Frag} {mg : Str → Option Value} {base : Heap} {f : Addr} {fd : FuncData} {T : List Addr} {d lw lc : Addr}
theorem boot_set' : bootBuiltins "set" = some (.type "set") := by decide +kernel
/-- list(t) == sorted(set(t)) -/
theorem ee_asc {X : Cx} {e e' : Expr} {σ : L2.St} {B : Hp} {xs : List Str} {p1 p2 p3 p4 p5 p6 pos : Pos} (BL : Blt X.mg) (hso : X.mg "sorted" = none) (hse : X.mg "set" = none) (hu : X.A.units + 64 < cLine) (hc : X.calm = true) (ha : EE X e σ B (.tuple (xs.map PyData.str))) (ha' : EE X e' σ B (.tuple (xs.map PyData.str))) (hn : xs.length < 64)
    (hok : ∀ x ∈ xs, okD (.str x) = true) (hg1 : Gl X "sorted" := by rfl) (hg2 : Gl X "set" := by rfl) (hg3 : Gl X "list" := by rfl) (he : starEach [e] X.env = (false, eval e X.env) :: starEach [] X.env := by rfl) (he' : starEach [e'] X.env = (false, eval e' X.env) :: starEach [] X.env := by rfl)
    (he2 : starEach [Expr.Call (.Name "set" p4) [e'] [] p5] X.env = (false, eval (Expr.Call (.Name "set" p4) [e'] [] p5) X.env) :: starEach [] X.env := by rfl) (hb : behindInMarks .Eq (Expr.Call (.Name "sorted" p3) [Expr.Call (.Name "set" p4) [e'] [] p5] [] p6) = false := by rfl) :
    EE X (.Compare (.Call (.Name "list" p1) [e] [] p2) [.Eq] [.Call (.Name "sorted" p3) [.Call (.Name "set" p4) [e'] [] p5] [] p6] pos) σ B (.bool (ascB (xs.map PyData.str))) := fun H1 l Q q => by
  have hm := BL.list
  refine ⟨_, pe_cmpR (op_eqD hu) pe_w (pe_callB (Ts.cr_sortedT hc) hg1 hso boot_sorted' (pa_cons (pe_callTy (Ts.cr_setTup hc) hg2 hse boot_set' (pa_cons pe_w pa_nil he') (by decide) (by decide) he' rfl) pa_nil he2) (by decide) (by decide) he2 rfl) hb, ?_⟩
  refine (ee_list hm ha hg3 he) H1 l _ fun x B2 H2 u2 dx => ?_
  refine ha'.mono u2.b H2 u2.s _ fun y B3 H3 u3 dy => ?_
  cases dy with
  | tup s t h0 =>
    have es := ds_strs h0
    subst es
    refine ⟨_, xs, rfl, sqT_le u3.s s, hn, fun p ll hp hmem nd hlen => ⟨p, ll, rfl, upd_same, by omega, fun ys q' pm so hq => ?_⟩⟩
    have hp3 : B3 p = none := u3.s.there p hp
    have u4 : Up B2 H2 B3 (upd H3 p (Ts.SetT X.prog X.w p ll)) := u3.tab (Le.new hp)
    have u5 := u4.new hq (o := .lst (ys.map V.str)) fun ps z => by cases z
    have hsh : ∀ zs : List Str, (∀ z ∈ zs, z ∈ xs) → noDict (.list (zs.map PyData.str)) = true ∧ SeqAt.shaped (.list (zs.map PyData.str)) = true := fun zs hz => strs_shaped fun x hx => by
      obtain ⟨z, h1, rfl⟩ := List.mem_map.mp hx
      exact ⟨rfl, hok z (hz z h1)⟩
    obtain ⟨a1, a2⟩ := hsh xs fun z h => h
    obtain ⟨b1, b2⟩ := hsh ys fun z h => (hmem z).mp (pm.mem_iff.mp h)
    refine rr_eqD (K := X.K) (H := B2) a1 b1 a2 b2 _ _ u5.b u5.s x _ (Dt.le u5.b dx) (.new_lst upd_same (strs_ds ys)) Q fun v B6 H6 u6 d6 => ?_
    have e6 : PyData.eqv (.list (xs.map PyData.str)) (.list (ys.map PyData.str)) = ascB (xs.map PyData.str) := by
      show PyData.eqvAll (xs.map PyData.str) (ys.map PyData.str) = _
      rw [eqv_strs]
      exact asc_same hmem nd pm so
    rw [e6] at d6
    exact q v B6 H6 ((u2.trans u5).trans u6) d6
def areP (ds : List PyData) : Prop := ∃ d, ds = [d] ∧ okD d = true ∧ ∀ xs, d = .tuple xs → xs.length < 64
def areF : List PyData → PyData
  | [d] => .bool (lawNamesB d)
  | _ => .none
def sgnN (d : PyData) : Bool := !sgnB d
theorem scLAre : FnScope ["thing", "name", "sign"] ["thing"] (defScope sLAre) := ⟨rfl, rfl, rfl, by decide +kernel, rfl, by decide +kernel, by decide +kernel⟩
theorem ndLAre : List.Nodup (["thing", "name", "sign"] : List Str) := by decide +kernel
theorem bad_signs (z : Str) : (!PyData.eqv (.list (((Tk.signs z).filter sgnN).map id)) (.list [])) = !(Tk.signs z).all sgnB := by
  rw [List.map_id]
  cases h : (Tk.signs z).all sgnB with
  | true =>
    have e : (Tk.signs z).filter sgnN = [] := List.filter_eq_nil_iff.mpr fun x hx => by
      have := List.all_eq_true.mp h x hx
      show ¬ (!sgnB x) = true
      rw [this]
      decide
    rw [e]
    rfl
  | false =>
    cases e : (Tk.signs z).filter sgnN with
    | nil =>
      have : (Tk.signs z).all sgnB = true := List.all_eq_true.mpr fun x hx => by
        have := (List.filter_eq_nil_iff.mp e) x hx
        cases q : sgnB x with
        | true => rfl
        | false => exact absurd (show (!sgnB x) = true by rw [q]; rfl) this
      rw [this] at h
      cases h
    | cons y ys => rw [eqv_cons_nil]
theorem sign_ok {z : Str} (h : okD (.str z) = true) {x : PyData} (hx : x ∈ Tk.signs z) : isStr x = true ∧ okD x = true := by
  unfold Tk.signs at hx
  obtain ⟨c, hc, rfl⟩ := List.mem_map.mp hx
  have h' := (Bool.and_eq_true _ _).mp h
  refine ⟨rfl, ?_⟩
  have h1 := h'.1
  rw [← Array.all_toList, List.all_eq_true] at h1
  have h2 := h1 c hc
  show ((#[c] : Array Nat).all (· < 0x110000) && decide ((⟨#[c]⟩ : Str).length ≤ 100000)) = true
  have h3 : (#[c] : Array Nat).all (· < 0x110000) = true := by
    rw [← Array.all_toList]
    show (decide (c < 0x110000) && true) = true
    rw [Bool.and_true]
    exact h2
  rw [h3]
  rfl
theorem ok_lare (BL : Blt mg) (hso : mg "sorted" = none) (hse : mg "set" = none) (F : L2.Fun K "_law_are_names" "_law_are_names" sLAre f fd) : FnOk P w K mg base CX0 1 f fd ["thing"] (spF K T 1 areP areF) := by
  refine fn_pure F scLAre rfl fun cdv A outer s H vs B ds Q E hr hcd t l hd hl hp q => ?_
  obtain ⟨e, rfl, hok, hlen⟩ := hp
  obtain ⟨v1, rfl, h1⟩ := ds1 hd
  have hu := hu64 hr
  cases ht : isTup e with
  | false =>
    refine wb_cons (ws_if (k := true) l ((et_not (et_val (ee_isTup BL (ee_var (i := 0) rfl h1)))).cast (by rw [ht]; rfl)) (fun _ H' l' => ?_) fun e => by cases e)
    refine wb_one (ws_ret (d := .bool false) (l.trans l') ee_bl fun v B' H'' u dv => q v B' H'' ((Up.le l l').trans u) ?_)
    have e2 : areF [e] = .bool false := by cases e <;> first | rfl | cases ht
    rw [e2]
    exact dv
  | true =>
  cases e with
  | tuple xs =>
  have hoks := okD_tup hok
  have hl64 := hlen xs rfl
  refine wb_cons (ws_if (k := false) l ((et_not (et_val (ee_isTup BL (ee_var (i := 0) rfl h1)))).cast (by rw [ht]; rfl)) (fun e => by cases e) fun _ H' l' => ?_)
  refine wb_nil ?_
  have fin : ∀ {B2 H2 B' H' : Hp} {v : V}, Up B H B2 H2 → Up B2 H2 B' H' → Dt K B' v (.bool (lawNamesB (.tuple xs))) → Q v H' := fun a b dv => q _ _ _ (a.trans b) dv
  refine wb_cons (ws_for (tjs := [1]) (pat := patN) (l.trans l') (ei_tup (ee_var (i := 0) rfl h1)) (eg_name ndLAre) (fun d hd => ⟨[d], rfl⟩) PassesOwn.never rfl
    (fun i σ' B' H' => Up B H B' H' ∧ (∃ a, σ' = [some v1, a, none]) ∧ (xs.take i).all lawNameB = true) (fun B' H'' u => ⟨(Up.le l l').trans u, ⟨none, rfl⟩, rfl⟩) (fun i x es vs σ' B' H'' B'' H4 hi hd' lb hI u4 he dvs N hN => ?_) fun σ' B' H'' lb ls hI => ?_)
  · obtain ⟨u', ⟨a, rfl⟩, hall⟩ := hI
    cases he
    obtain ⟨y, rfl, hy⟩ := ds1 (K := K) dvs
    have hmem : x ∈ xs := List.mem_of_getElem? hd'
    have hokx := okDs_mem hoks.2 hmem
    have uu := u'.trans u4
    have no : lawNameB x = false → lawNamesB (.tuple xs) = false := fun hx => by
      show (xs.all lawNameB && ascB xs) = false
      have : xs.all lawNameB = false := by
        cases z : xs.all lawNameB with
        | false => rfl
        | true => rw [List.all_eq_true.mp z x hmem] at hx; cases hx
      rw [this]
      rfl
    have yes : lawNameB x = true → (xs.take (i + 1)).all lawNameB = true := fun hx => by
      rw [List.take_add_one, hd', List.all_append, hall]
      show (true && (lawNameB x && true)) = true
      rw [hx]
      rfl
    cases hs : isStr x with
    | false =>
      refine wb_one (ws_if (k := true) u4.s (et_w (ew_or (p := true) (q := true) ((et_not (et_val (ee_isStr BL (ee_var (i := 1) rfl hy)))).cast (by rw [hs]; rfl)) fun e => by cases e)) (fun _ H5 l5 => ?_) fun e => by cases e)
      refine wb_one (ws_ret (d := .bool false) (u4.s.trans l5) ee_bl fun v B6 H6 u6 dv => fin (uu.tab l5) u6 ?_)
      rw [no (by cases x <;> first | rfl | cases hs)]
      exact dv
    | true =>
      cases x with
      | str z =>
        have hz := okD_str hokx
        have e3 : lawNameB (.str z) = ((decide (1 ≤ (z.length : Int)) && decide ((z.length : Int) ≤ 8)) && (Tk.signs z).all sgnB) := rfl
        have sh := strs_shaped (xs := ((Tk.signs z).filter sgnN).map id) fun x hx => by
          rw [List.map_id] at hx
          exact sign_ok hokx (List.mem_filter.mp hx).1
        refine wb_one (ws_if (k := (!(decide (1 ≤ (z.length : Int)) && decide ((z.length : Int) ≤ 8))) || !(Tk.signs z).all sgnB) u4.s
          ((et_w (ew_or (et_not (et_val (ee_isStr BL (ee_var (i := 1) rfl hy)))) fun _ => ew_or (et_not (et_chain op_le op_le rr_le (fun _ => rr_le) ee_int (ee_len BL (ee_var (i := 1) rfl hy) rfl fun x e => by cases e; exact hz) fun _ => ee_int))
            fun _ => ew_one2 ((et_cmp (k := !PyData.eqv (.list (((Tk.signs z).filter sgnN).map id)) (.list [])) (op_neD hu) (rr_neD sh.1 rfl sh.2 (by decide)) ?_ (ee_lst ea_nil (by decide))).cast (bad_signs z)))).cast rfl) (fun e H5 l5 => ?_) fun e H5 l5 => ?_)
        · refine ee_lc (own := [("sign", 2)]) (tjs := [2]) (pat := patN) sgnN id rfl ndLAre (ei_str (ee_var (i := 1) rfl hy))
            (blkOk_by (show blkC ["thing", "name", "sign"] (defScope sLAre) _ [("sign", 2)] = true by decide +kernel))
            (fun s H C cl fp => eg_name ndLAre) (fun d hd => ⟨[d], rfl, rfl⟩) (fun vs hv => ?_) (fun B' d es vs lb hd he hv s H C cl fp => ?_) (fun B' d' es vs lb hd hb he hv s H C cl fp => ?_) ?_
          · match vs, hv with
            | [a], _ => rfl
          · cases he
            obtain ⟨y, rfl, hy⟩ := ds1 (K := K) hv
            obtain ⟨c, rfl⟩ := sign_one (i := 0) hd
            exact ets_one (et_not (et_chain o_leS o_leS rr_leS (fun _ => rr_leS) ee_str (ee_var (i := 2) rfl hy) fun _ => ee_str))
          · cases he
            obtain ⟨y, rfl, hy⟩ := ds1 (K := K) hv
            exact ee_var (i := 2) rfl hy
          · rw [Tk.signs_len]
            have h' := (Bool.and_eq_true _ _).mp hokx
            exact Nat.lt_of_le_of_lt (of_decide_eq_true h'.2 : z.length ≤ 100000) (by decide)
        · refine wb_one (ws_ret (d := .bool false) (u4.s.trans l5) ee_bl fun v B6 H6 u6 dv => fin (uu.tab l5) u6 ?_)
          rw [no (by
            rw [e3]
            cases a : (decide (1 ≤ (z.length : Int)) && decide ((z.length : Int) ≤ 8)) with
            | false => rfl
            | true =>
              rw [a] at e
              cases b : (Tk.signs z).all sgnB with
              | false => rfl
              | true => rw [b] at e; cases e)]
          exact dv
        · refine wb_nil (hN _ B'' H5 (Le.refl _) (u4.s.trans l5) ⟨uu.tab l5, ⟨_, rfl⟩, yes ?_⟩)
          rw [e3]
          cases a : (decide (1 ≤ (z.length : Int)) && decide ((z.length : Int) ≤ 8)) with
          | false => rw [a] at e; cases e
          | true =>
            rw [a] at e
            cases b : (Tk.signs z).all sgnB with
            | true => rfl
            | false => rw [b] at e; cases e
      | _ => cases hs
  · obtain ⟨u', ⟨a, rfl⟩, hall⟩ := hI
    rw [List.take_length] at hall
    obtain ⟨xl, rfl⟩ := strs_of fun x hx => lawName_str (List.all_eq_true.mp hall x hx)
    refine wb_one (ws_ret (d := .bool (ascB (xl.map PyData.str))) ls ?_ fun v B6 H6 u6 dv => fin u' u6 ?_)
    · have hl65 : xl.length < 64 := by rw [List.length_map] at hl64; exact hl64
      exact ee_asc (xs := xl) BL hso hse hu (by rfl) (ee_var (i := 0) rfl (Dt.le u'.b h1)) (ee_var (i := 0) rfl (Dt.le u'.b h1)) hl65 fun x hx => okDs_mem hoks.2 (List.mem_map_of_mem hx)
    have e9 : lawNamesB (.tuple (xl.map PyData.str)) = ascB (xl.map PyData.str) := by
      show ((xl.map PyData.str).all lawNameB && _) = _
      rw [hall]
      rfl
    rw [e9]
    exact dv
  | _ => cases ht
end
end K0


set_option Elab.async false
set_option linter.all false
set_option maxRecDepth 100000
set_option maxHeartbeats 4000000
namespace K0
open PySem PySem.Spec PyProof.Rows L2 GxR Tk
variable [LamTab]
abbrev sLIsW : Stmt := t__law_is_wood
def lisP (k : Nat) (ds : List PyData) : Prop := ∃ d, ds = [d] ∧ cv k d = true ∧ gz d ≤ 100000
def lisF : List PyData → PyData
  | [d] => .bool (lawWoodB d)
  | _ => .none
theorem cv_len {k : Nat} {xs : List PyData} (h : cv k (.tuple xs) = true) : xs.length ≤ 20 + k ∧ ∀ x ∈ xs, cv k x = true := by
  simp only [cv, Bool.and_eq_true, decide_eq_true_eq] at h
  exact ⟨h.1, fun x hx => cvs_mem h.2 x hx⟩
theorem gz_part {xs : List PyData} {x : PyData} (h : x ∈ xs) : gz x ≤ gz (.tuple xs) := by
  have := gzs_mem h
  simp only [gz]
  omega
section
variable {P : Program} {w : World} {K : PySem.W.Frag} {mg : Str → Option Value} {base : Heap} {f : Addr} {fd : FuncData} {T : List Addr} {d lw lc : Addr}
theorem scLIsW : FnScope ["thing", "node", "name"] ["thing"] (defScope sLIsW) := ⟨rfl, rfl, rfl, by decide +kernel, rfl, by decide +kernel, by decide +kernel⟩
theorem ndLIsW : List.Nodup (["thing", "node", "name"] : List Str) := by decide +kernel
theorem are_pre {k : Nat} {x : PyData} (hk : k ≤ 18) (h : cv k x = true) (g : gz x ≤ 100000) : areP [x] := ⟨x, rfl, cv_ok x h g, fun xs e => by
  subst e
  have := (cv_len h).1
  omega⟩
theorem bno {b : Bool} (h : (!b) = true) : b = false := by cases b; rfl; cases h
theorem bys {b : Bool} (h : (!b) = false) : b = true := by cases b; cases h; rfl
theorem bad_all (g : PyData → Bool) (ys : List PyData) : (!PyData.eqv (.list ((ys.filter fun y => !g y).map id)) (.list [])) = !ys.all g := by
  rw [List.map_id]
  cases h : ys.all g with
  | true =>
    have e : (ys.filter fun y => !g y) = [] := List.filter_eq_nil_iff.mpr fun x hx => by
      rw [List.all_eq_true.mp h x hx]
      decide
    rw [e]
    rfl
  | false =>
    cases e : ys.filter fun y => !g y with
    | nil =>
      have : ys.all g = true := List.all_eq_true.mpr fun x hx => by
        have := (List.filter_eq_nil_iff.mp e) x hx
        cases q : g x with
        | true => rfl
        | false => rw [q] at this; exact absurd rfl this
      rw [this] at h
      cases h
    | cons y ys => rw [eqv_cons_nil]
theorem law_wood_eq {a sc rs : PyData} : lawWoodB (.tuple [a, sc, rs]) = (isWoodWord a && ((lawNamesB sc && len3B sc) && (rowB rs 1 400 && lawRowsB sc rs))) := rfl
theorem ok_lisw (BL : Blt mg) (Fa : Kn P w K mg base 1 "_law_are_names" ["thing"] (spF K T 1 areP areF)) (Fn : Kn P w K mg base 1 "_law_is_number" ["thing", "end"] (spF K T 2 numP numF)) (F : L2.Fun K "_law_is_wood" "_law_is_wood" sLIsW f fd) {k : Nat} (hk : k ≤ 18) :
    FnOk P w K mg base CX0 2 f fd ["thing"] (spF K T 1 (lisP k) lisF) := by
  refine fn_pure F scLIsW rfl fun cdv A outer s H vs B ds Q E hr hcd t l hd hl hp q => ?_
  obtain ⟨e, rfl, hcv, hgz⟩ := hp
  obtain ⟨v1, rfl, h1⟩ := ds1 hd
  have hu := hu64 hr
  have no : ∀ {B2 H2 B' H' : Hp} {v : V}, lawWoodB e = false → Up B H B2 H2 → Up B2 H2 B' H' → Dt K B' v (.bool false) → Q v H' := fun h a b dv => q _ _ _ (a.trans b) (by show Dt K _ _ (.bool (lawWoodB e)); rw [h]; exact dv)
  cases ht : isTup e with
  | false =>
    refine wb_cons (ws_if (k := true) l (et_w (ew_or (p := true) (q := true) ((et_not (et_val (ee_isTup BL (ee_var (i := 0) rfl h1)))).cast (by rw [ht]; rfl)) fun e => by cases e)) (fun _ H' l' => ?_) fun e => by cases e)
    exact wb_one (ws_ret (d := .bool false) (l.trans l') ee_bl fun v B' H'' u dv => no (by cases e <;> first | rfl | cases ht) (Up.le l l') u dv)
  | true =>
  cases e with
  | tuple xs =>
  obtain ⟨hlen, hmem⟩ := cv_len hcv
  by_cases h3 : (xs.length : Int) = 3
  case neg =>
    refine wb_cons (ws_if (k := true) l (et_w (ew_or (p := false) ((et_not (et_val (ee_isTup BL (ee_var (i := 0) rfl h1)))).cast rfl) fun _ => ew_or (p := true) (q := true) ((et_cmp op_ne rr_neI (ee_len BL (ee_var (i := 0) rfl h1) rfl fun x z => by cases z) ee_int).cast (by rw [decide_eq_false h3]; rfl)) fun e => by cases e)) (fun _ H' l' => ?_) fun e => by cases e)
    refine wb_one (ws_ret (d := .bool false) (l.trans l') ee_bl fun v B' H'' u dv => no ?_ (Up.le l l') u dv)
    match xs, h3 with
    | [], _ => rfl
    | [_], _ => rfl
    | [_, _], _ => rfl
    | [_, _, _], h => exact absurd rfl h
    | _ :: _ :: _ :: _ :: _, _ => rfl
  obtain ⟨a0, sc, rs, rfl⟩ := three (xs := xs) (by omega) (by omega)
  have hca := hmem a0 (by simp)
  have hcs := hmem sc (by simp)
  have hcr := hmem rs (by simp)
  have gzs1 : gz sc ≤ 100000 := Nat.le_trans (gz_part (xs := [a0, sc, rs]) (by simp)) hgz
  have gzr1 : gz rs ≤ 100000 := Nat.le_trans (gz_part (xs := [a0, sc, rs]) (by simp)) hgz
  -- the first test
  have e1 : ET (cxOf CX0 P w K mg base ["thing", "node", "name"] "_law_is_wood" (defScope sLIsW) f cdv A outer s H E).nox (match (defBody sLIsW) with | .If c _ _ _ :: _ => c | _ => .Constant .none 0 ⟨0, 0, 0, 0⟩) (start ["thing", "node", "name"] [v1]) B (!isWoodWord a0) := by
    cases hs : isStr a0 with
    | false =>
      refine (et_w (ew_or (p := false) ((et_not (et_val (ee_isTup BL (ee_var (i := 0) rfl h1)))).cast rfl) fun _ => ew_or (p := false) ((et_cmp op_ne rr_neI (ee_len BL (ee_var (i := 0) rfl h1) rfl fun x z => by cases z) ee_int).cast rfl) fun _ => ew_or (p := true) (q := true) ((et_not (et_val (ee_isStr BL (ee_ix ix_tup (rr_ixT at0) (ee_var (i := 0) rfl h1) ee_int)))).cast (by rw [hs]; rfl)) fun e => by cases e)).cast ?_
      cases a0 <;> first | rfl | cases hs
    | true =>
      cases a0 with
      | str z => exact (et_w (ew_or (p := false) ((et_not (et_val (ee_isTup BL (ee_var (i := 0) rfl h1)))).cast rfl) fun _ => ew_or (p := false) ((et_cmp op_ne rr_neI (ee_len BL (ee_var (i := 0) rfl h1) rfl fun x z => by cases z) ee_int).cast rfl) fun _ => ew_or (p := false) ((et_not (et_val (ee_isStr BL (ee_ix ix_tup (rr_ixT at0) (ee_var (i := 0) rfl h1) ee_int)))).cast rfl) fun _ => ew_one2 (et_cmp op_ne rr_neS (ee_ix ix_tup (rr_ixT at0) (ee_var (i := 0) rfl h1) ee_int) ee_str))).cast rfl
      | _ => cases hs
  refine wb_cons (ws_if (k := !isWoodWord a0) l e1 (fun e H' l' => ?_) fun e H' l' => ?_)
  · exact wb_one (ws_ret (d := .bool false) (l.trans l') ee_bl fun v B' H'' u dv => no (by rw [law_wood_eq, bno e]; rfl) (Up.le l l') u dv)
  have ew := bys e
  refine wb_nil ?_
  have e2 : ET (cxOf CX0 P w K mg base ["thing", "node", "name"] "_law_is_wood" (defScope sLIsW) f cdv A outer s H E).nox (match (defBody sLIsW) with | _ :: .If c _ _ _ :: _ => c | _ => .Constant .none 0 ⟨0, 0, 0, 0⟩) (start ["thing", "node", "name"] [v1]) B (!((lawNamesB sc && len3B sc) && rowB rs 1 400)) := by
    cases hs : lawNamesB sc with
    | false => exact (et_w (ew_or (p := true) (q := true) ((et_not (et_val (ee_call (f := areF) (d := .bool (lawNamesB sc)) Fa hr (Nat.le_refl _) t (ea_cons (ee_ix ix_tup (rr_ixT at1) (ee_var (i := 0) rfl h1) ee_int) ea_nil) (are_pre hk hcs gzs1)))).cast (by rw [hs]; rfl)) fun e => by cases e)).cast rfl
    | true =>
      cases sc with
      | tuple ns =>
        cases h3 : len3B (.tuple ns) with
        | false =>
          have h4 : ¬ ((ns.length : Int) ≤ 3) := of_decide_eq_false h3
          exact (et_w (ew_or (p := false) ((et_not (et_val (ee_call (f := areF) (d := .bool (lawNamesB (.tuple ns))) Fa hr (Nat.le_refl _) t (ea_cons (ee_ix ix_tup (rr_ixT at1) (ee_var (i := 0) rfl h1) ee_int) ea_nil) (are_pre hk hcs gzs1)))).cast (by rw [hs]; rfl)) fun _ => ew_or (p := true) (q := true) ((et_cmp op_gt rr_gt (ee_len BL (ee_ix ix_tup (rr_ixT at1) (ee_var (i := 0) rfl h1) ee_int) rfl fun x z => by cases z) ee_int).cast (decide_eq_true (by omega))) fun e => by cases e)).cast rfl
        | true =>
          have h4 : (ns.length : Int) ≤ 3 := of_decide_eq_true h3
          cases hr2 : isTup rs with
          | false =>
            refine (et_w (ew_or (p := false) ((et_not (et_val (ee_call (f := areF) (d := .bool (lawNamesB (.tuple ns))) Fa hr (Nat.le_refl _) t (ea_cons (ee_ix ix_tup (rr_ixT at1) (ee_var (i := 0) rfl h1) ee_int) ea_nil) (are_pre hk hcs gzs1)))).cast (by rw [hs]; rfl)) fun _ => ew_or (p := false) ((et_cmp op_gt rr_gt (ee_len BL (ee_ix ix_tup (rr_ixT at1) (ee_var (i := 0) rfl h1) ee_int) rfl fun x z => by cases z) ee_int).cast (decide_eq_false (by omega))) fun _ => ew_or (p := true) (q := true) ((et_not (et_val (ee_isTup BL (ee_ix ix_tup (rr_ixT at2) (ee_var (i := 0) rfl h1) ee_int)))).cast (by rw [hr2]; rfl)) fun e => by cases e)).cast ?_
            cases rs <;> first | rfl | cases hr2
          | true =>
            cases rs with
            | tuple rows =>
              exact (et_w (ew_or (p := false) ((et_not (et_val (ee_call (f := areF) (d := .bool (lawNamesB (.tuple ns))) Fa hr (Nat.le_refl _) t (ea_cons (ee_ix ix_tup (rr_ixT at1) (ee_var (i := 0) rfl h1) ee_int) ea_nil) (are_pre hk hcs gzs1)))).cast (by rw [hs]; rfl)) fun _ => ew_or (p := false) ((et_cmp op_gt rr_gt (ee_len BL (ee_ix ix_tup (rr_ixT at1) (ee_var (i := 0) rfl h1) ee_int) rfl fun x z => by cases z) ee_int).cast (decide_eq_false (by omega))) fun _ => ew_or (p := false) ((et_not (et_val (ee_isTup BL (ee_ix ix_tup (rr_ixT at2) (ee_var (i := 0) rfl h1) ee_int)))).cast rfl) fun _ => ew_one2 (et_not (et_chain op_le op_le rr_le (fun _ => rr_le) ee_int (ee_len BL (ee_ix ix_tup (rr_ixT at2) (ee_var (i := 0) rfl h1) ee_int) rfl fun x z => by cases z) fun _ => ee_int)))).cast rfl
            | _ => cases hr2
      | _ => cases hs
  refine wb_cons (ws_if (k := !((lawNamesB sc && len3B sc) && rowB rs 1 400)) (l.trans l') e2 (fun e H2 l2 => ?_) fun e H2 l2 => ?_)
  · refine wb_one (ws_ret (d := .bool false) ((l.trans l').trans l2) ee_bl fun v B' H'' u dv => no ?_ (Up.le l (l'.trans l2)) u dv)
    rw [law_wood_eq, ew]
    have e' := bno e
    cases ha : (lawNamesB sc && len3B sc) with
    | false => rfl
    | true =>
      rw [ha] at e'
      have e' : rowB rs 1 400 = false := e'
      rw [e']
      rfl
  have e3 := (Bool.and_eq_true _ _).mp (bys e)
  have e4 := (Bool.and_eq_true _ _).mp e3.1
  refine wb_nil ?_
  obtain ⟨ns, rfl⟩ : ∃ ns, sc = .tuple ns := by
    have e5 := e4.1
    cases sc <;> first | exact ⟨_, rfl⟩ | cases e5
  obtain ⟨rows, rfl, _, _⟩ := row_tup e3.2
  have hn := (Bool.and_eq_true _ _).mp e4.1
  have hmr := (cv_len hcr).2
  have whole : lawWoodB (.tuple [a0, .tuple ns, .tuple rows]) = rows.all (lawNodeB ns (rows.length : Int)) := by
    rw [law_wood_eq, ew, e4.1, e4.2, e3.2]
    rfl
  refine wb_cons (ws_for (tjs := [1]) (pat := patN) (((l.trans l').trans l2)) (ei_tup (ee_ix ix_tup (rr_ixT at2) (ee_var (i := 0) rfl h1) ee_int)) (eg_name ndLIsW) (fun d hd => ⟨[d], rfl⟩) PassesOwn.never rfl
    (fun i σ' B' H' => Up B H B' H' ∧ (∃ a, σ' = [some v1, a, none]) ∧ (rows.take i).all (lawNodeB ns (rows.length : Int)) = true) (fun B' H'' u => ⟨(Up.le l (l'.trans l2)).trans u, ⟨none, rfl⟩, rfl⟩) (fun i x es vs σ' B' H'' B'' H4 hi hd' lb hI u4 he dvs N hN => ?_) fun σ' B' H'' lb ls hI => ?_)
  · obtain ⟨u', ⟨a, rfl⟩, hall⟩ := hI
    cases he
    obtain ⟨y, rfl, hy⟩ := ds1 (K := K) dvs
    have hxm : x ∈ rows := List.mem_of_getElem? hd'
    have hcx := hmr x hxm
    have gzx : gz x ≤ 100000 := Nat.le_trans (gz_part hxm) gzr1
    have uu := u'.trans u4
    have k1 := Dt.le uu.b h1
    have bad : lawNodeB ns (rows.length : Int) x = false → lawWoodB (.tuple [a0, .tuple ns, .tuple rows]) = false := fun hx => by
      rw [whole]
      cases z : rows.all (lawNodeB ns (rows.length : Int)) with
      | false => rfl
      | true => rw [List.all_eq_true.mp z x hxm] at hx; cases hx
    have yes : lawNodeB ns (rows.length : Int) x = true → (rows.take (i + 1)).all (lawNodeB ns (rows.length : Int)) = true := fun hx => by
      rw [List.take_add_one, hd', List.all_append, hall]
      show (true && (lawNodeB ns (rows.length : Int) x && true)) = true
      rw [hx]
      rfl
    have retQ : ∀ {H5 : Hp}, Le H4 H5 → lawNodeB ns (rows.length : Int) x = false → ∀ (v : V) (B6 H6 : Hp), Up B'' H5 B6 H6 → Dt K B6 v (.bool false) → Q v H6 := fun l5 hx v B6 H6 u6 dv => no (bad hx) (uu.tab l5) u6 dv
    cases hx1 : isTup x with
    | false =>
      refine wb_cons (ws_if (k := true) u4.s (et_w (ew_or (p := true) (q := true) ((et_not (et_val (ee_isTup BL (ee_var (i := 1) rfl hy)))).cast (by rw [hx1]; rfl)) fun e => by cases e)) (fun _ H5 l5 => ?_) fun e => by cases e)
      exact wb_one (ws_ret (d := .bool false) (u4.s.trans l5) ee_bl (retQ l5 (by cases x <;> first | rfl | cases hx1)))
    | true =>
    obtain ⟨xs, rfl⟩ : ∃ xs, x = .tuple xs := by
      cases x <;> first | exact ⟨_, rfl⟩ | cases hx1
    by_cases h3 : (xs.length : Int) = 3
    case neg =>
      refine wb_cons (ws_if (k := true) u4.s (et_w (ew_or (p := false) ((et_not (et_val (ee_isTup BL (ee_var (i := 1) rfl hy)))).cast rfl) fun _ => ew_or (p := true) (q := true) ((et_cmp op_ne rr_neI (ee_len BL (ee_var (i := 1) rfl hy) rfl fun x z => by cases z) ee_int).cast (by rw [decide_eq_false h3]; rfl)) fun e => by cases e)) (fun _ H5 l5 => ?_) fun e => by cases e)
      refine wb_one (ws_ret (d := .bool false) (u4.s.trans l5) ee_bl (retQ l5 ?_))
      match xs, h3 with
      | [], _ => rfl
      | [_], _ => rfl
      | [_, _], _ => rfl
      | [_, _, _], h => exact absurd rfl h
      | _ :: _ :: _ :: _ :: _, _ => rfl
    obtain ⟨l0, na, nb, rfl⟩ := three (xs := xs) (by omega) (by omega)
    have hc0 := (cv_len hcx).2 l0 (by simp)
    have gz0 : gz l0 ≤ 100000 := Nat.le_trans (gz_part (xs := [l0, na, nb]) (by simp)) gzx
    refine wb_cons (ws_if (k := !lawNamesB l0) u4.s (et_w (ew_or (p := false) ((et_not (et_val (ee_isTup BL (ee_var (i := 1) rfl hy)))).cast rfl) fun _ => ew_or (p := false) ((et_cmp op_ne rr_neI (ee_len BL (ee_var (i := 1) rfl hy) rfl fun x z => by cases z) ee_int).cast rfl) fun _ => ew_one2 (et_not (et_val (ee_call (f := areF) (d := .bool (lawNamesB l0)) Fa hr (Nat.le_refl _) (t.le uu.b) (ea_cons (ee_ix ix_tup (rr_ixT at0) (ee_var (i := 1) rfl hy) ee_int) ea_nil) (are_pre hk hc0 gz0)))))) (fun e H5 l5 => ?_) fun e H5 l5 => ?_)
    · exact wb_one (ws_ret (d := .bool false) (u4.s.trans l5) ee_bl (retQ l5 (by show (lawNamesB l0 && _) = false; rw [bno e]; rfl)))
    have el := bys e
    obtain ⟨ys, rfl⟩ : ∃ ys, l0 = .tuple ys := by
      cases l0 <;> first | exact ⟨_, rfl⟩ | cases el
    have el' := (Bool.and_eq_true _ _).mp el
    refine wb_nil ?_
    have ok0 := cv_ok _ hc0 gz0
    have okn := cv_ok _ hcs gzs1
    have shn := tupF_shaped (fun x hx => str_flat (lawName_str (List.all_eq_true.mp hn.1 x hx))) okn
    have hstr : ∀ y ∈ ys, isStr y = true ∧ okD y = true := fun y hy => ⟨lawName_str (List.all_eq_true.mp el'.1 y hy), okDs_mem (okD_tup ok0).2 hy⟩
    have shf := strs_shaped (xs := (ys.filter fun y => !(ns.any fun z => PyData.eqv z y)).map id) fun x hx => by
      rw [List.map_id] at hx
      exact hstr x (List.mem_filter.mp hx).1
    refine wb_cons (ws_if (k := !insideB ns (.tuple ys)) (u4.s.trans l5) ((et_cmp (k := !PyData.eqv (.list ((ys.filter fun y => !(ns.any fun z => PyData.eqv z y)).map id)) (.list [])) (op_neD hu) (rr_neD shf.1 rfl shf.2 (by decide)) ?_ (ee_lst ea_nil (by decide))).cast (bad_all _ ys)) (fun e H6 l6 => ?_) fun e H6 l6 => ?_)
    · refine ee_lc (own := [("name", 2)]) (tjs := [2]) (pat := patN) (fun y => !(ns.any fun z => PyData.eqv z y)) id rfl ndLIsW (ei_tup (ee_ix ix_tup (rr_ixT at0) (ee_var (i := 1) rfl hy) ee_int))
        (blkOk_by (show blkC ["thing", "node", "name"] (defScope sLIsW) _ [("name", 2)] = true by decide +kernel))
        (fun s H C cl fp => eg_name ndLIsW) (fun d hd => ⟨[d], rfl, rfl⟩) (fun vs hv => ?_) (fun B' d es vs lb hd he hv s H C cl fp => ?_) (fun B' d' es vs lb hd hb he hv s H C cl fp => ?_) ?_
      · match vs, hv with
        | [a], _ => rfl
      · cases he
        obtain ⟨z, rfl, hz⟩ := ds1 (K := K) hv
        obtain ⟨d1, d2⟩ := hstr d hd
        exact ets_one (et_cmp (o_notInT (hu65 hr)) (rr_notInT (flat_noDict (str_flat d1)) shn.1 (flat_shaped (str_flat d1) d2) shn.2.1) (ee_var (i := 2) rfl hz) (ee_ix ix_tup (rr_ixT at1) (ee_var (i := 0) rfl (Dt.le lb k1)) ee_int))
      · cases he
        obtain ⟨z, rfl, hz⟩ := ds1 (K := K) hv
        exact ee_var (i := 2) rfl hz
      · exact Nat.lt_of_le_of_lt (okD_tup ok0).1 (by decide)
    · refine wb_one (ws_ret (d := .bool false) (u4.s.trans (l5.trans l6)) ee_bl (retQ (l5.trans l6) ?_))
      show (lawNamesB (.tuple ys) && (insideB ns (.tuple ys) && _)) = false
      rw [bno e, el]
      rfl
    have ei := bys e
    refine wb_nil ?_
    have t4 := t.le uu.b
    refine wb_one (ws_if (k := (!numB na (rows.length : Int)) || !numB nb (rows.length : Int)) ((u4.s.trans l5).trans l6) (et_w (ew_or (et_not (et_val (ee_call (f := numF) (d := .bool (numB na (rows.length : Int))) Fn hr (Nat.le_refl _) t4 (ea_cons (ee_ix ix_tup (rr_ixT at1) (ee_var (i := 1) rfl hy) ee_int) (ea_cons (ee_len BL (ee_ix ix_tup (rr_ixT at2) (ee_var (i := 0) rfl k1) ee_int) rfl fun x z => by cases z) ea_nil)) ⟨na, _, rfl⟩)))
      fun _ => ew_one2 (et_not (et_val (ee_call (f := numF) (d := .bool (numB nb (rows.length : Int))) Fn hr (Nat.le_refl _) t4 (ea_cons (ee_ix ix_tup (rr_ixT at2) (ee_var (i := 1) rfl hy) ee_int) (ea_cons (ee_len BL (ee_ix ix_tup (rr_ixT at2) (ee_var (i := 0) rfl k1) ee_int) rfl fun x z => by cases z) ea_nil)) ⟨nb, _, rfl⟩))))) (fun e H7 l7 => ?_) fun e H7 l7 => ?_)
    · refine wb_one (ws_ret (d := .bool false) (u4.s.trans ((l5.trans l6).trans l7)) ee_bl (retQ ((l5.trans l6).trans l7) ?_))
      show (lawNamesB (.tuple ys) && (insideB ns (.tuple ys) && (numB na _ && numB nb _))) = false
      rw [el, ei]
      cases a : numB na (rows.length : Int) with
      | false => rfl
      | true =>
        rw [a] at e
        show numB nb _ = false
        cases b : numB nb (rows.length : Int) with
        | false => rfl
        | true => rw [b] at e; cases e
    · refine wb_nil (hN _ B'' H7 (Le.refl _) (((u4.s.trans l5).trans l6).trans l7) ⟨((uu.tab l5).tab l6).tab l7, ⟨_, rfl⟩, yes ?_⟩)
      show (lawNamesB (.tuple ys) && (insideB ns (.tuple ys) && (numB na _ && numB nb _))) = true
      rw [el, ei]
      cases a : numB na (rows.length : Int) with
      | false => rw [a] at e; cases e
      | true =>
        rw [a] at e
        cases b : numB nb (rows.length : Int) with
        | true => rfl
        | false => rw [b] at e; cases e
  · obtain ⟨u', ⟨a, rfl⟩, hall⟩ := hI
    rw [List.take_length] at hall
    exact wb_one (ws_ret (d := .bool true) ls ee_bl fun v B6 H6 u6 dv => q v B6 H6 (u'.trans u6) (by show Dt K _ _ (.bool (lawWoodB (.tuple [a0, .tuple ns, .tuple rows]))); rw [whole, hall]; exact dv))
  | _ => cases ht
end
end K0


set_option Elab.async false
set_option linter.all false
set_option maxRecDepth 100000
set_option maxHeartbeats 4000000
namespace K0
open PySem PySem.Spec PyProof.Rows L2 GxR Tk
variable [LamTab]
/-- letters: of a scope its letters, else BadScope at C -/
def spLetters (K : PySem.W.Frag) (T : List Addr) (C : Addr) : Sp := fun vs H Q E => vs.length = 1 ∧ Tbs T H ∧ ∃ B d, Le B H ∧ Ds K B vs [d] ∧ okD d = true ∧
  (scopeB d = true → ∀ v B' H', Up B H B' H' → Dt K B' v (letOfF [d]) → Q v H') ∧ (scopeB d = false → ∀ H', Le H H' → E (.ref C) none H')
section
variable {P : Program} {w : World} {K : PySem.W.Frag} {mg : Str → Option Value} {base : Heap} {f : Addr} {fd : FuncData} {T : List Addr} {C CB : Addr}
theorem scLetters : FnScope ["scope"] ["scope"] (defScope sLetters) := ⟨rfl, rfl, rfl, by decide +kernel, rfl, by decide +kernel, by decide +kernel⟩
theorem ok_letters (BL : Blt mg) (Fscope : Kn P w K mg base 4 "is_scope" ["thing"] (spF K T 1 nameP scopeF)) (Flet : Kn P w K mg base 2 "letters_of" ["scope"] (spF K T 1 letOfP letOfF))
    (xS : PySem.W.excIn K C [.type "ValueError", .type "Exception", .type "BaseException", .type "object"] "ValueError.__new__" = true) (gS : mg "BadScope" = some (.ref C)) (kS : PySem.W.keepIn K (.ref C) = true) (bS : PySem.W.subIn K (.ref C) (.type "BaseException") = some true) (tS : PySem.W.typeIn K (.ref C) = some (.type "type"))
    (F : L2.Fun K "letters" "letters" sLetters f fd) : FnOk P w K mg base (L2.CX P w) 5 f fd ["scope"] (spLetters K T C) := by
  refine F.okX scLetters (fun vs H Q E h => h.1) fun cdv A outer s H vs Q E hr hsp => ?_
  obtain ⟨hl, ht, B0, d, l0, hd0, hok, hy, hn⟩ := hsp
  obtain ⟨B, l1, l, t, up⟩ := with_tables ht l0
  have hd := Ds.le l1 hd0
  obtain ⟨v1, rfl, h1⟩ := ds1 hd
  show WB (cxOf (L2.CX P w) P w K mg base ["scope"] "letters" (defScope sLetters) f cdv A outer s H E) (defBody sLetters) { nx := fun _ H' => Q .non H', rt := Q } (start ["scope"] [v1]) H
  refine wb_cons (ws_if (k := !scopeB d) l (et_not (et_val (ee_call (f := scopeF) (d := .bool (scopeB d)) Fscope hr (Nat.le_refl _) t (ea_cons (ee_var (i := 0) rfl h1) ea_nil) ⟨d, rfl, hok⟩))) (fun e H' l' => ?_) fun e H' l' => ?_)
  · exact wb_one ⟨_, ps_raise rfl (takes_of rfl rfl rfl rfl) (pmk_own PySem.F.excBase_ValueError (q := xS) gS kS (raises_own bS tS) rfl), hn (bno e) H' l'⟩
  · have hs := bys e
    refine wb_nil ?_
    obtain ⟨ns, rfl, hns, _⟩ := scope_tup hs
    refine wb_one (ws_ret (d := letOfF [.tuple ns]) (l.trans l') (ee_call (f := letOfF) Flet hr (by decide) t (ea_cons (ee_var (i := 0) rfl h1) ea_nil) ⟨ns, rfl, hns⟩) fun v B' H'' u dv => hy hs v B' H'' (up ((Up.le l l').trans u)) dv)
end
end K0


set_option Elab.async false
set_option linter.all false
set_option maxRecDepth 100000
set_option maxHeartbeats 2000000
/-! Er0: a caught error that leaves its suite as a value: its object is tracked from there on. -/
namespace Er
open PySem PySem.Spec PyProof.Rows L2
/-- an error of the class cls stands at a -/
def ErrO (cls : Value) (d : Option Addr) (a : Addr) : HO := .ext fun h => ∃ (oe : Obj) (vs : Array Value), h.get? a = some oe ∧ Zc cls d oe ∧ oe.data = .fields vs
theorem err_ok {P : Program} {w : World} {H : Hp} {h : Heap} {a : Addr} {cls : Value} {d : Option Addr} {oe : Obj} {vs : Array Value} (e : h.get? a = some oe) (z : Zc cls d oe) (hd : oe.data = .fields vs) : ObjOk P w H h a (ErrO cls d a) :=
  ⟨⟨oe, vs, e, z, hd⟩, ⟨oe, e⟩, fun _ _ ⟨o, v, q, r⟩ k => ⟨o, v, k o q, r⟩⟩
section
variable {X : Cx} {pins : List (Addr × Obj)} {σ : L2.St} {H : Hp} {s : Shared} {a : Addr} {oe : Obj}
/-- what was pinned is tracked -/
theorem track (I : L2.Inv X ((a, oe) :: pins) σ H s) (h0 : X.s_0.heap.get? a = none) (np : ∀ p ∈ X.pn ++ pins, p.1 ≠ a) {φ : Heap → Prop} (new : ObjOk X.prog X.w (upd H a (.ext φ)) s.heap a (.ext φ)) : L2.Inv X pins σ (upd H a (.ext φ)) s := by
  obtain ⟨p1, p2, p3, p4, p5⟩ := I.pin (a, oe) (List.mem_append_right _ List.mem_cons_self)
  have off : ∀ {b : Addr} {o : HO}, H b = some o → b ≠ a := fun e z => by
    rw [z] at e
    have p2' : H a = none := p2
    rw [p2'] at e
    cases e
  refine ⟨I.ok, I.os, I.bare, ⟨I.base.keep, I.base.slot, fun b o e n hx => ?_, I.base.there, fun b xs e => ?_, fun b o u e => ?_, fun b ps e => ?_⟩, I.loc, I.cell, ?_, fun x c e => ?_, fun p hp => ?_, fun b u e => ?_, I.len⟩
  · rw [upd_ne fun z => by rw [z, h0] at e; cases e]
    exact I.base.free b o e n hx
  · have q := I.base.tups b xs e
    rw [upd_ne (off q)]
    exact q
  · have q := I.base.frzs b o u e
    rw [upd_ne (off q)]
    exact q
  · obtain ⟨more, q⟩ := I.base.tbls b ps e
    exact ⟨more, by rw [upd_ne (off q)]; exact q⟩
  · rw [upd_ne fun z => p3 z.symm]
    exact I.free
  · obtain ⟨v, o, ho, hd⟩ := I.cell x c e
    rw [upd_ne fun z => by
      rw [z] at ho
      have p1' : s.heap.get? a = some oe := p1
      rw [p1'] at ho
      cases ho
      exact p5 v hd]
    exact I.freeC x c e
  · have hp' : p ∈ X.pn ++ ((a, oe) :: pins) := by
      rcases List.mem_append.mp hp with z | z
      · exact List.mem_append_left _ z
      · exact List.mem_append_right _ (List.mem_cons_of_mem _ z)
    obtain ⟨q1, q2, q3⟩ := I.pin p hp'
    exact ⟨q1, by rw [upd_ne (np p hp)]; exact q2, q3⟩
  · by_cases hb : b = a
    · subst hb
      rw [upd_same] at e
      cases e
      exact new
    · rw [upd_ne hb] at e
      exact (I.hok b u e).stay (fun c v _ q => q) (fun c q => by rw [upd_ne (off q)]; exact q) fun c xs q => by rw [upd_ne (off q)]; exact q
theorem unsuiteP {pn' : List (Addr × Obj)} (I : L2.Inv (X.suite a ((a, oe) :: (X.pn ++ pins))) [] σ H s) (ok : X.Ok) : L2.Inv X ((a, oe) :: pins) σ H s :=
  ⟨ok, I.os, I.bare, I.base, I.loc, I.cell, I.free, I.freeC, fun p hp => I.pin p (by
    rw [List.append_nil]
    rcases List.mem_append.mp hp with z | z
    · exact List.mem_cons_of_mem _ (List.mem_append_left _ z)
    · rcases List.mem_cons.mp z with z | z
      · rw [z]; exact List.mem_cons_self
      · exact List.mem_cons_of_mem _ (List.mem_append_right _ z)), I.hok, I.len⟩
end
end Er


set_option Elab.async false
set_option linter.all false
set_option maxRecDepth 100000
set_option maxHeartbeats 2000000
namespace Er
open PySem PySem.Spec PyProof.Rows L2
section
variable {X : Cx} {x n : Str} {c : Value} {i : Nat} {body : List Stmt} {b₀ : Stmt} {suite : List Stmt} {np pos pos' : Pos} {tb : WX → TS} {ts : Addr → Value → Option Addr → TS} {Wout : WX}
/-- a suite that ends of itself: from then on the error is tracked -/
def wAsT (K : PySem.W.Frag) (c : Value) (i : Nat) (ts : Addr → Value → Option Addr → TS) (Wout : WX) (nn : Nat) (D : Ends) : WX := fun cls d σ H =>
  ∃ b, PySem.W.exmOne K cls c = some b ∧ (b = true → σ.length = nn → ∀ a, H a = none → ts a cls d { nx := fun σ' H' => D.nx (σ'.set i none) (upd H' a (ErrO cls d a)), rt := fun _ _ => False } (σ.set i (some (.ref a))) H) ∧ (b = false → Wout cls d σ H)
theorem ps_try_T (hex : X.ex = []) (hs : X.stack = X.env :: X.outer) (hf : X.env.frame = some X.env.locals) (hN : X.N.Nodup) (hi : X.N[i]? = some n) (hln : X.env.kindOf n = some .local) (hc : Names X x c) (tk : Takes X Wout)
    (hb : ∀ (W : WX) (pn : List (Addr × Obj)) (xe : Value → Shared → Prop), Takes (X.tr pn xe) W → PassesOwn (model X.prog X.w) X.A X.env xe → PSs (X.tr pn xe) body (tb W))
    (hsu : ∀ (a : Addr) (oe : Obj) (cls : Value) (d : Option Addr) (pn : List (Addr × Obj)), PSs (X.suite a ((a, oe) :: pn)) (b₀ :: suite) (ts a cls d)) :
    PS X (.Try body [.ExceptHandler (some (.Name x np)) (some n) (b₀ :: suite) pos'] [] [] pos) (fun D σ H => tb (wAsT X.K c i ts Wout X.N.length D) D σ H) := by
  refine ⟨fun pins s σ H D I h => ?_⟩
  have ok := I.ok
  have hfr : X.A.frames = some (X.env :: X.outer) := by rw [ok.frames, hs]
  refine wpAny_Try_except (wpAny_mono ((hb (wAsT X.K c i ts Wout X.N.length D) (X.pn ++ pins) (fun e s₁ => wpAny (model X.prog X.w) X.A (noteFrame e X.env) (fun _ s₂ => wpAny (model X.prog X.w) X.A (setFlight e none) (fun _ s₃ =>
    wpAny (model X.prog X.w) X.A (handleBy e X.env [.ExceptHandler (some (.Name x np)) (some n) (b₀ :: suite) pos']) (SP X pins D) X.xe s₃) X.xe s₂) X.xe s₁) (fun u s' xx => ?_) PassesOwn.looking).run [] s σ H D (I.toTry _) h) (fun f s1 hsp => ?_) fun e s1 he => he)
  · obtain ⟨a, B, sI, pins', σ', H', cls, d, rfl, J', nb, up, sky, na, os, ag, b, hb1, hyes, hno⟩ := xx
    have J : L2.Inv X pins σ' H' sI := J'.ofTry ok
    have sky' : Sky B (X.env :: X.outer) a (Zc cls d) X.env.locals s'.heap := by rw [← hs]; exact sky
    refine Sky.land Zc.steady hfr hf sky' fun h3 fl3 up3 => ?_
    have J3 : L2.Inv X pins σ' H' { s' with heap := h3 } := J.landed nb fl3.1 (up.trans up3) os ag
    obtain ⟨oe3, vs3, he3, hz3, hd3⟩ := fl3.there
    have nfr : a ∉ frs (X.env :: X.outer) := fun hm => by
      obtain ⟨_, o', e', hnf⟩ := fl3.2.2.1.mem hm
      rw [he3] at e'
      cases e'
      exact hnf _ hd3
    have nL : a ≠ X.env.locals := fun z => nfr (List.mem_filterMap.mpr ⟨X.env, List.mem_cons_self, by rw [hf, z]⟩)
    have nF : a ∉ X.fs := fun hm => by
      obtain ⟨e, he, q⟩ := List.mem_filterMap.mp hm
      exact nfr (List.mem_filterMap.mpr ⟨e, List.mem_cons_of_mem _ he, q⟩)
    have nI : sI.heap.get? a = none := by
      cases e : sI.heap.get? a with
      | none => rfl
      | some o =>
        have q := nb a o e (by rw [hs]; exact nfr)
        have q2 : B.get? a = none := fl3.2.1
        rw [q2] at q
        cases q
    have n0 : X.s_0.heap.get? a = none := by
      cases e : X.s_0.heap.get? a with
      | none => rfl
      | some o =>
        obtain ⟨o', q⟩ := J.base.there a o e (by rw [hex]; exact List.not_mem_nil)
        rw [nI] at q
        cases q
    have npin : ∀ p ∈ X.pn ++ pins, p.1 ≠ a := fun p hp z => by
      have q := (J.pin p hp).1
      rw [z, nI] at q
      cases q
    have S3 := J3.suite he3 hd3 na nL nF
    refine wpAny_handleBy_cons (codeAny_handlers_test ?_) (by intro q; cases q)
    have LT : PySem.W.Looks (model X.prog X.w) h3 (typeOf (.ref a)) cls := fun A Q E s k q => wpAny_typeOf_ref (k _ _ he3) (by rw [hz3.1]; exact q)
    have test : ∀ {Q : Value → Shared → Prop} {E : Value → Shared → Prop}, Q c { s' with heap := h3 } → wpAny (model X.prog X.w) (X.A.mark (some (.ref a))) (eval (.Name x np) X.env) Q E { s' with heap := h3 } := fun {Q E} q => by
      obtain ⟨hg, hdbg, hm | ⟨hm, hv, hnn⟩⟩ := hc
      · exact ld_glob (X := X.suite a ((a, oe3) :: (X.pn ++ pins))) S3 hg hm q hdbg
      · exact ld_blt (X := X.suite a ((a, oe3) :: (X.pn ++ pins))) S3 hg hm hv q hnn hdbg
    refine test ((PySem.W.exm_one (M := model X.prog X.w) J3.kIn LT hb1).here ?_)
    cases b with
    | true =>
      refine codeAny_handlers_suite_as (HandSPX.lands_againZ fl3 fun h4 fl4 up4 => ?_)
      have J4 : L2.Inv X pins σ' H' { s' with heap := h4 } := J.landed nb fl4.1 ((up.trans up3).trans up4) os ag
      obtain ⟨oe4, vs4, he4, hz4, hd4⟩ := fl4.there
      refine store_ok (X := X.suite a ((a, oe4) :: (X.pn ++ pins))) (v := .ref a) (J4.suite he4 hd4 na nL nF) hN hi (.inl hln) rfl (fun s5 S5 => ?_) (.inr hln)
      refine wpAny_mono ((hsu a oe4 cls d (X.pn ++ pins)).run [] s5 _ H' _ S5 (hyes rfl J.len a na)) (fun f s6 hsp => ?_) fun _ _ z => False.elim z
      cases f with
      | next =>
        obtain ⟨σ6, H6, S6, q6⟩ := hsp
        refine gone_ok (unsuiteP (pn' := []) S6 ok) hN hi hln fun s7 J7 => ?_
        have h7 := (J7.pin (a, oe4) (List.mem_append_right _ List.mem_cons_self)).1
        exact ⟨_, _, track J7 n0 npin (err_ok h7 hz4 hd4), q6⟩
      | brk =>
        obtain ⟨_, _, _, q6⟩ := hsp
        exact False.elim q6
      | cont =>
        obtain ⟨_, _, _, q6⟩ := hsp
        exact False.elim q6
      | ret u =>
        obtain ⟨_, _, _, _, _, q6⟩ := hsp
        exact False.elim q6
    | false =>
      show wpAny _ X.A (handleBy (.ref a) X.env []) _ _ _
      refine wpAny_handleBy_nil ?_
      obtain ⟨k1, k2, k3, oe, vs, T, oT, ts', he, hz, hd, h1, hr⟩ := id fl3
      unfold PySem.passOn
      refine wpAny_bind (wpAny_field he hd h1 ?_)
      rw [if_neg (show ¬ ((Value.ref T == Value.none) = true) from by simp)]
      have fin : wpAny (model X.prog X.w) X.A (setFlight (.ref a) X.env.frame) (fun _ s4 => wpAny (model X.prog X.w) X.A (throw (.ref a) : Sem Flow) (SP X pins D) X.xe s4) X.xe { s' with heap := h3 } := by
        rw [hf]
        refine HandSPX.setFlight_upZ fl3 fun h4 hh4 up4 => wpAny_throw (tk _ _ ?_)
        exact ⟨a, B, sI, pins, σ', H', cls, d, rfl, J, nb, (up.trans up3).trans up4, .inr (.inr (by rw [hs]; exact hh4)), na, os, ag, hno rfl⟩
      first
        | exact wpAny_bind (wpAny_pure (wpAny_bind fin))
        | exact wpAny_bind fin
  · cases f with
    | next =>
      obtain ⟨σ', H', J', q⟩ := hsp
      exact wpAny_execs_nil ⟨σ', H', J'.ofTry ok, q⟩
    | brk =>
      obtain ⟨σ', H', J', q⟩ := hsp
      exact ⟨σ', H', J'.ofTry ok, q⟩
    | cont =>
      obtain ⟨σ', H', J', q⟩ := hsp
      exact ⟨σ', H', J'.ofTry ok, q⟩
    | ret u =>
      obtain ⟨v, σ', H', J', r, q⟩ := hsp
      exact ⟨v, σ', H', J'.ofTry ok, r, q⟩
/-- isinstance of an error that is tracked -/
def rIsT (K : PySem.W.Frag) : List V → Hp → VK → Prop := fun xs H Q => ∃ (a D : Addr) (c : V) (cv : Value) (b : Bool), xs = [.ref a, c] ∧ H a = some (ErrO (.ref D) none a) ∧ ExcC K D ∧ (∀ u, RelV c u → u = cv) ∧ PySem.W.kitOne K (.ref D) cv = some b ∧ Q (.bl b) H
theorem call_isT : CallR X (.builtin "isinstance") (rIsT X.K) := by
  intro pins s σ H xs us Q I r h
  obtain ⟨a, D, c, cv, b, rfl, ha, C, hcv, e, q⟩ := h
  cases r with
  | cons rx rr =>
    cases rr with
    | cons rt rr =>
      cases rr
      cases rx
      have ec := hcv _ rt
      subst ec
      obtain ⟨⟨oe, vs, hget, hz, hv⟩, _, _⟩ := I.hok a _ ha
      have J : PySem.W.InstAt s.heap a oe D none := by
        obtain ⟨oc, od, oda, osl⟩ := oe
        obtain ⟨h1, h2⟩ := hz
        dsimp only at h1 h2 hv
        subst h1 h2 hv
        exact ⟨hget, rfl, rfl, trivial⟩
      exact PySem.W.kia_one (PySem.W.handS_kitx_exc C.hg C.hk C.hs C.hd C.ha C.hn C.ht C.hm) I.kIn J e (fun z => nomatch z) fun tk => ⟨.bl b, H, I.kept (t' := tk) fun _ _ z => z, rfl, q⟩
end
end Er


set_option Elab.async false
set_option linter.all false
set_option maxRecDepth 100000
set_option maxHeartbeats 2000000
namespace Er
open PySem PySem.Spec PyProof.Rows L2 LamX
/-- error = None; try: a() / except x as n: error = n; return error -/
def TTcaught (K : PySem.W.Frag) (CB : Addr) : (XK → Hp → VK → Prop) → Hp → VK → Prop := fun tl H Q =>
  tl (fun cls d H' => PySem.W.exmOne K cls (.ref CB) = some true ∧ ∀ a, H' a = none → Q (.ref a) (upd H' a (ErrO cls d a))) H fun _ H' => ∃ v, (some (some V.non) : Option (Option V)) = some (some v) ∧ Q v H'
theorem caught_gives {X : Cx} {x q : Str} {g CB : Addr} {cdg : Value} (hq : x = "_law_caught") (hme : X.mg "BoughError" = some (.ref CB)) (hex : True) :
    GivesTo X ["work", "error", "caught"] x (defScope (K0.t__law_caught)) g cdg (defBody (K0.t__law_caught)) "work" q (TTcaught X.K CB) := by
  subst hq
  intro f c' s H Q tl act hc h
  have nd : List.Nodup (["work", "error", "caught"] : List Str) := by decide +kernel
  refine ⟨_, pss_cons (ps_set (i := 1) nd rfl (Or.inl rfl) pe_non) (pss_cons (ps_try_T (X := (cxOf C8.CX0 X.prog X.w X.K X.mg X.base ["work", "error", "caught"] "_law_caught" (defScope (K0.t__law_caught)) g cdg X.A X.stack s H C8.E0).nox) (i := 2) (c := .ref CB)
      (tb := fun W D σ H => ∃ Ech : XK, (∀ cls d σ' H', Ech cls d H' → W cls d σ' H') ∧ σ[0]? = some (some (.ref f)) ∧ H c' = some (CodeO c' q) ∧ tl Ech H fun _ H' => D.nx σ H')
      rfl rfl rfl nd rfl rfl ⟨rfl, by decide, .inl hme⟩ L2.takes0 (fun W pn xe tk _ => ?_) (fun a oe cls d pn => pss_one (ps_set (i := 1) nd rfl (Or.inl rfl) (pe_var (i := 2) rfl (Or.inl rfl))))) (pss_one (ps_ret (pe_var (i := 1) rfl (Or.inl rfl))))), ?_⟩
  · refine ⟨fun pins s' σ H' D I h' => ?_⟩
    obtain ⟨Ech, hW, h1, h2, h3⟩ := h'
    exact (pss_one (ps_expr (act W pn xe Ech _ _ tk hW))).run pins s' σ H' D I ⟨h1, h2, h3⟩
  · refine ⟨fun cls d H' => PySem.W.exmOne X.K cls (.ref CB) = some true ∧ ∀ a, H' a = none → Q (.ref a) (upd H' a (ErrO cls d a)), fun cls d σ' H' ⟨e1, e2⟩ => ⟨true, e1, fun _ hl a na => ?_, fun z => by cases z⟩, rfl, hc, ?_⟩
    · have hl : σ'.length = 3 := hl
      match σ', hl with
      | [s1, s2, s3], _ => exact ⟨_, rfl, _, rfl, e2 a na⟩
    · exact h
end Er


set_option Elab.async false
set_option linter.all false
set_option maxRecDepth 100000
set_option maxHeartbeats 2000000
/-! Er3: a lambda handed to a def: only its maker's table and new objects change. -/
namespace Er
open PySem PySem.Spec PyProof.Rows L2 LamX
/-- all but the table at P stays -/
structure Ext1 (P : Addr) (H H1 : Hp) : Prop where
  keep : ∀ b o, b ≠ P → H b = some o → H1 b = some o
  there : ∀ b, H1 b = none → H b = none
theorem Ext1.refl (P : Addr) (H : Hp) : Ext1 P H H := ⟨fun _ _ _ e => e, fun _ e => e⟩
section
variable {X : Cx} {pins : List (Addr × Obj)} {σ : L2.St} {H : Hp} {s : Shared}
theorem lam_make3 {c P : Addr} {params : Arguments} {body : Expr} {scope : Scope} {pos : Pos} {E : Value → Shared → Prop} {Q : Value → Shared → Prop} (I : L2.Inv X pins σ H s) (TB : LamX.TabB X.base X.mg c P) (hcode : X.env.code = .ref c)
    (hT : TabS H P (X.env.qual ++ "<lambda>")) (hdef : defaultsOf params X.env = ([], [])) (hfree : ∀ y ∈ scope.names, y.2 = .free → ∃ c, X.env.cells.lookup y.1 = some c)
    (h : ∀ (f c' : Addr) (pm ctv : Value) (H1 : Hp) (s' : Shared), L2.Inv X pins σ H1 s' → Ext1 P H H1 → TabS H1 P (X.env.qual ++ "<lambda>") →
      s'.heap.get? f = some (PySem.W.kla_obj "<lambda>" (X.env.qual ++ "<lambda>") params body scope (cloFrom X.env.cells scope.names []) pm c' ctv) → H1 f = none → f ∉ frs X.stack → H1 c' = some (CodeO c' (X.env.qual ++ "<lambda>")) → Q (.ref f) s') :
    wpAny (model X.prog X.w) X.A (eval (.Lambda params body scope pos) X.env) Q E s := by
  obtain ⟨ps, hP, ht, ha⟩ := hT
  have bP : s.heap.BuiltinsAt X.mg P := TB.bm.keeps I.bk
  have hP' : s.heap.get? P = some { cls := .none, data := .fields ps } := I.hok P _ hP
  have nofr : ∀ f, s.heap.objs.size ≤ f → f ∉ frs X.stack := fun f hf z => by
    rcases List.mem_cons.mp (I.stkSub _ z) with e | e
    · have h1 := I.lt
      rw [← e] at h1
      exact Nat.lt_irrefl _ (Nat.lt_of_lt_of_le h1 hf)
    · exact I.nofs hf e
  refine PySem.W.kla_eval hdef ?_
  cases hc : codeAmong pos ps.toList with
  | some cv =>
    obtain ⟨c', e, hco⟩ := ha pos cv hc
    subst e
    refine PySem.W.kla_makeFunctionHit (mg := X.mg) (c := c) (P := P) (ps := ps) (closure_ok hfree) I.ok.glob (I.mod.glob.keeps I.bk) hcode (TB.code.keeps I.bk) hP' ht hc bP fun ctv h' tk hx hsz => ?_
    exact h h'.objs.size c' ((X.mg "__name__").getD .none) ctv H _ (I.kept (t' := tk) fun b o e => Heap.get?_push_of_some _ (hx b o e)) (Ext1.refl P H) ⟨ps, hP, ht, ha⟩ (Heap.get?_push_size _ rfl) (I.hok.fresh hsz) (nofr _ hsz) hco
  | none =>
    refine PySem.W.kla_makeFunction (mg := X.mg) (c := c) (P := P) (ps := ps) (closure_ok hfree) I.ok.glob (I.mod.glob.keeps I.bk) hcode (TB.code.keeps I.bk) hP' ht hc TB.gP bP fun c' ctv h' tk hx hge hlt hrec htb => ?_
    obtain ⟨c2, oc, vs, t, e2, hoc, hd, hv⟩ := hrec
    cases e2
    have hsz : s.heap.objs.size ≤ h'.objs.size := Nat.le_trans hge (Nat.le_of_lt hlt)
    have nC : H c' = none := I.hok.fresh hge
    have kept : ∀ b o, b ≠ P → H b = some o → (upd (upd H P (.tbl (ps ++ #[rawInt pos.line, rawInt pos.col, .ref c']))) c' (CodeO c' (X.env.qual ++ "<lambda>"))) b = some o := fun b o hb e => by
      rw [upd_ne (ne_of_none e nC), upd_ne hb]
      exact e
    have offP : ∀ {b : Addr} {q : Str}, H b = some (CodeO b q) → b ≠ P := fun e z => by
      rw [z, hP] at e
      exact codeO_ne ps (Option.some.inj e).symm
    refine h h'.objs.size c' ((X.mg "__name__").getD .none) ctv _ _ (inv_table (t' := tk) (more := #[rawInt pos.line, rawInt pos.col, .ref c']) (h' := h'.push (PySem.W.kla_obj "<lambda>" (X.env.qual ++ "<lambda>") params body scope (cloFrom X.env.cells scope.names []) ((X.mg "__name__").getD .none) c' ctv)) I hP
      (fun b o hb e => Heap.get?_push_of_some _ (hx b o hb e)) (Heap.get?_push_of_some _ htb) hge ⟨oc, vs, t, Heap.get?_push_of_some _ hoc, hd, hv⟩) ⟨kept, fun b e => ?_⟩ ⟨_, by rw [upd_ne (ne_of_none hP nC), upd_same], ?_, fun p' cv hcv => ?_⟩ (Heap.get?_push_size _ rfl) ?_ (nofr _ hsz) upd_same
    · by_cases z : b = c'
      · rw [z, upd_same] at e
        cases e
      · rw [upd_ne z] at e
        by_cases y : b = P
        · rw [y, upd_same] at e
          cases e
        · rw [upd_ne y] at e
          exact e
    · rw [Array.toList_append]
      exact PySem.TriplesOk_snoc _ _ _ _ ht
    · rw [Array.toList_append] at hcv
      rcases among_app _ ht hcv with z | z
      · obtain ⟨c0, e1, e2⟩ := ha p' cv z
        exact ⟨c0, e1, kept _ _ (offP e2) e2⟩
      · exact ⟨c', z, upd_same⟩
    · rw [upd_ne (Nat.ne_of_gt hlt), upd_ne (Nat.ne_of_gt (Nat.lt_of_lt_of_le (Heap.lt_size hP') hsz))]
      exact I.hok.fresh hsz
def tLam1 (P : Addr) (q : Str) (TT : (XK → Hp → VK → Prop) → Hp → VK → Prop) (t : XK → TE) : TE := fun σ H Q => TabS H P q ∧ ∀ H1, Ext1 P H H1 → TabS H1 P q → TT (fun E H' Q' => t E σ H' Q') H1 Q
/-- x(lambda: body) -/
theorem pe_lamcall1 {TT : (XK → Hp → VK → Prop) → Hp → VK → Prop} {x a : Str} {g c P : Addr} {k : Nat} {pg : Arguments} {bg : List Stmt} {sg : Scope} {dV kV doc pm cdv ct oc : Value} {an od : Option Addr} {osl : Array (Option Value)} {Ng : List Str}
    {params : Arguments} {body : Expr} {scope : Scope} {t : XK → TE} {p lpos pos : Pos} (hg : Gl X x) (hm : X.mg x = some (.ref g)) (hk : PySem.W.keepIn X.K (.ref g) = true)
    (lk : X.K.lookup g = some ⟨oc, od, .func (PySem.W.fnOf x x pg bg sg dV kV doc pm an cdv ct), osl⟩) (hcg : PySem.W.codeIn X.K cdv x = true) (hb : L2.Binds X.K (PySem.W.fnOf x x pg bg sg dV kV doc pm an cdv ct) [a] []) (Sg : FnScope Ng [a] sg) (hNg : Ng[0]? = some a) (hva : Vis sg a)
    (hG : GivesTo X Ng x sg g cdv bg a (X.env.qual ++ "<lambda>") TT) (TB : LamX.TabB X.base X.mg c P) (hcode : X.env.code = .ref c) (hr : Room (k + 2) X.A) (L : LamS X.env.scope scope) (hdef : defaultsOf params X.env = ([], []))
    (hbind : ∀ (q : Str) (cl : List (Str × Addr)) (pm cv ctv : Value), bindArgs (PySem.W.kla_fn "<lambda>" q params body scope cl pm cv ctv) ⟨[], []⟩ = pure [])
    (hbody : ∀ (A : Around) (outer : List Env) (s : Shared) (H : Hp) (E : XK) (f c' : Addr), Room k (A.deeper (lamEnv X scope s.heap.objs.size f c')) → PE (lamCx X A outer s H E scope f c') body (t E))
    (hdb : (x == ("__debug__" : Str)) = false := by decide) (hd : (a == ("__debug__" : Str)) = false := by decide) (hcd : (a == ("__classdict__" : Str)) = false := by decide) :
    PE X (.Call (.Name x p) [.Lambda params body scope lpos] [] pos) (tLam1 P (X.env.qual ++ "<lambda>") TT t) := by
  refine ⟨fun pins s σ H Q I h => ?_⟩
  obtain ⟨hT, h⟩ := h
  refine wpAny_Call_Name_kw (ld_glob I hg hm ?_ hdb)
  refine PySem.W.callWith_K (h₀ := X.base) I.ok.mod.kin hk ?_ (by rfl) (by rfl)
  show wpAny _ _ (spliced ((false, eval (.Lambda params body scope lpos) X.env) :: backTo pos (starEach [] X.env))) _ _ s
  refine Calls.spliced_cons (lam_make3 I TB hcode hT hdef (L.has I.ok) fun f c' pm' ctv H1 s' I1 e1 T1 hf hfn hfr hco => Calls.spliced_nil ⟨I1.kIn, ?_⟩)
  have rc : codeAny (model X.prog X.w) X.A (.call (.ref g) ⟨[.ref f], []⟩) (CR C8.CX0 X.stack X.prog X.w H1 s' Q C8.E0) s' := by
    refine run_ofS (N := Ng) (ps := [a]) (us := [.ref f]) (vs := [.ref f]) lk hcg Sg hr I1.env0 (hb s' [.ref f] I1.kIn rfl) (.cons rfl .nil) rfl fun hr' => ?_
    obtain ⟨t', ht', hq'⟩ := hG f c' s' H1 Q (fun E H' Q' => t E σ H' Q') (fun W pn xe E p1 p2 tk hW => pe_act (i := 0) I1 L hf hfn hfr (hbind _ _ _ _ _) tk hW hr' (fun A outer s H hr2 => hbody A outer s H E f c' hr2) hNg hva hd hcd) hco (h H1 e1 T1)
    exact ⟨t', ht'.nox, hq'⟩
  refine wpAny_call (codeAny_mono rc fun r s2 hq => ?_)
  match r, hq with
  | .error e, hq => exact (show False from hq).elim
  | .ok (.ret u), hq => exact I1.after hq
end
end Er


set_option Elab.async false
set_option linter.all false
set_option maxRecDepth 100000
set_option maxHeartbeats 4000000
namespace K0
open PySem PySem.Spec PyProof.Rows L2 GxR Tk
variable [LamTab]
theorem allNames_ok : allNames.all (fun x => (cv 0 x && decide (gz x ≤ 6)) && lawNameB x) = true := by decide +kernel
/-- a drawn scope -/
def goodS (ys : List Str) : Prop := ys.length ≤ 3 ∧ asc ys ∧ (∀ x ∈ ys.map PyData.str, (cv 0 x = true ∧ gz x ≤ 6) ∧ lawNameB x = true)
theorem goodS_of {ds : List PyData} {r : PyData} (h : scopeR ds r) : ∃ ys : List Str, r = tupS ys ∧ goodS ys ∧ scopeB r = true := by
  obtain ⟨ys, rfl, h1, h2, h3, h4⟩ := h
  have h5 := (Bool.and_eq_true _ _).mp h1
  have h6 := (Bool.and_eq_true _ _).mp h5.2
  refine ⟨ys, rfl, ⟨h3, asc_iff.mp h6.2, fun x hx => ?_⟩, h1⟩
  have := List.all_eq_true.mp allNames_ok x (h4 x hx)
  have a := (Bool.and_eq_true _ _).mp this
  have b := (Bool.and_eq_true _ _).mp a.1
  exact ⟨⟨b.1, of_decide_eq_true b.2⟩, a.2⟩
theorem gzs_le {n : Nat} : ∀ {xs : List PyData}, (∀ x ∈ xs, gz x ≤ n) → gzs xs ≤ n * xs.length
  | [], _ => by simp [gzs]
  | x :: xs, h => by
    have h1 := h x List.mem_cons_self
    have h2 := gzs_le fun y hy => h y (List.mem_cons_of_mem _ hy)
    simp only [gzs, List.length_cons, Nat.mul_succ]
    omega
theorem tup_good {l ys : List Str} (h : l.Sublist ys) (g : goodS ys) : cv 0 (tupS l) = true ∧ gz (tupS l) ≤ 19 ∧ td (tupS l) ≤ 1 ∧ lawNamesB (tupS l) = true := by
  obtain ⟨g1, g2, g3⟩ := g
  have hl : l.length ≤ 3 := Nat.le_trans h.length_le g1
  have hm : ∀ x ∈ l.map PyData.str, x ∈ ys.map PyData.str := fun x hx => (h.map PyData.str).subset hx
  refine ⟨?_, ?_, ?_, ?_⟩
  · simp only [tupS, cv, Bool.and_eq_true, decide_eq_true_eq]
    exact ⟨by rw [List.length_map]; omega, cvs_of fun x hx => (g3 x (hm x hx)).1.1⟩
  · have := gzs_le (n := 6) (xs := l.map PyData.str) fun x hx => (g3 x (hm x hx)).1.2
    rw [List.length_map] at this
    simp only [tupS, gz]
    omega
  · have := tds_of (n := 0) (xs := l.map PyData.str) fun x hx => by
      obtain ⟨z, _, rfl⟩ := List.mem_map.mp hx
      simp only [td]
      exact Nat.le_refl _
    simp only [tupS, td]
    omega
  · show ((l.map PyData.str).all lawNameB && ascB (l.map PyData.str)) = true
    rw [asc_iff.mpr (List.Pairwise.sublist h g2), Bool.and_true]
    exact List.all_eq_true.mpr fun x hx => (g3 x (hm x hx)).2
theorem numB_of {a : Int} {n : Nat} (h0 : 0 ≤ a) (h1 : a < n) : numB (.int a) (n : Int) = true := by
  show (true && (!false && (decide (0 ≤ a) && decide (a < (n : Int))))) = true
  rw [decide_eq_true h0, decide_eq_true h1]
  rfl
/-- a drawn wood -/
theorem wood_good {ys : List Str} {rs : List PyData} (g : goodS ys) (h : woodRows (ys.map PyData.str) rs) :
    lawWoodB (.tuple [.str "wood", tupS ys, .tuple rs]) = true ∧ cv 0 (.tuple [.str "wood", tupS ys, .tuple rs]) = true ∧ gz (.tuple [.str "wood", tupS ys, .tuple rs]) ≤ 230 ∧ td (.tuple [.str "wood", tupS ys, .tuple rs]) ≤ 4 := by
  obtain ⟨r1, r5, hr⟩ := h
  obtain ⟨s1, s2, s3, s4⟩ := tup_good (List.Sublist.refl ys) g
  have each : ∀ x ∈ rs, lawNodeB (ys.map PyData.str) (rs.length : Int) x = true ∧ cv 0 x = true ∧ gz x ≤ 32 ∧ td x ≤ 2 := fun x hx => by
    obtain ⟨l, a, b, rfl, hl, a0, a1, b0, b1⟩ := hr x hx
    rw [lawLet_eq g.1] at hl
    obtain ⟨l0, h0, rfl⟩ := List.mem_map.mp hl
    have sb := (lets_sub g.1).mp h0
    obtain ⟨t1, t2, t3, t4⟩ := tup_good sb g
    refine ⟨?_, ?_, ?_, ?_⟩
    · show (lawNamesB (tupS l0) && (insideB (ys.map PyData.str) (tupS l0) && (numB (.int a) _ && numB (.int b) _))) = true
      have hi : insideB (ys.map PyData.str) (tupS l0) = true := List.all_eq_true.mpr fun y hy => by
        obtain ⟨y0, hy0, rfl⟩ := List.mem_map.mp hy
        refine List.any_eq_true.mpr ⟨.str y0, List.mem_map_of_mem (sb.subset hy0), ?_⟩
        rw [eqv_str]
        exact decide_eq_true rfl
      rw [t4, hi, numB_of a0 a1, numB_of b0 b1]
      rfl
    · have ha : cv 0 (.int a) = true := by
        simp only [cv, Bool.and_eq_true, decide_eq_true_eq]
        omega
      have hb : cv 0 (.int b) = true := by
        simp only [cv, Bool.and_eq_true, decide_eq_true_eq]
        omega
      show (decide (3 ≤ 20 + 0) && cvs 0 [tupS l0, .int a, .int b]) = true
      simp only [cvs, t1, ha, hb]
      decide
    · have e : gz (.tuple [tupS l0, .int a, .int b]) = 1 + (gz (tupS l0) + (gz (.int a) + (gz (.int b) + 0))) := by simp only [gz, gzs]
      rw [e]
      simp only [gz]
      omega
    · have e : td (.tuple [tupS l0, .int a, .int b]) = 1 + max (td (tupS l0)) (max 0 (max 0 0)) := by simp only [td, tds]
      rw [e]
      omega
  have hall : rs.all (lawNodeB (ys.map PyData.str) (rs.length : Int)) = true := List.all_eq_true.mpr fun x hx => (each x hx).1
  refine ⟨?_, ?_, ?_, ?_⟩
  · rw [law_wood_eq]
    show (isWoodWord (.str "wood") && ((lawNamesB (tupS ys) && len3B (tupS ys)) && (rowB (.tuple rs) 1 400 && rs.all (lawNodeB (ys.map PyData.str) (rs.length : Int))))) = true
    have h3 : len3B (tupS ys) = true := by
      show decide (((ys.map PyData.str).length : Int) ≤ 3) = true
      rw [List.length_map]
      have := g.1
      exact decide_eq_true (by omega)
    have h4 : rowB (.tuple rs) 1 400 = true := by
      show (true && (decide ((1 : Int) ≤ (rs.length : Int)) && decide ((rs.length : Int) ≤ 400))) = true
      rw [decide_eq_true (by omega : (1 : Int) ≤ (rs.length : Int)), decide_eq_true (by omega : (rs.length : Int) ≤ 400)]
      rfl
    rw [s4, h3, h4, hall]
    decide +kernel
  · have hw : cv 0 (.str "wood") = true := by decide +kernel
    have hr2 : cv 0 (.tuple rs) = true := by
      simp only [cv, Bool.and_eq_true, decide_eq_true_eq]
      exact ⟨by omega, cvs_of fun x hx => (each x hx).2.1⟩
    show (decide (3 ≤ 20 + 0) && cvs 0 [.str "wood", tupS ys, .tuple rs]) = true
    simp only [cvs, hw, s1, hr2]
    decide
  · have := gzs_le (n := 32) (xs := rs) fun x hx => (each x hx).2.2.1
    have hw : gz (.str "wood") = 5 := by decide +kernel
    have e : gz (.tuple [.str "wood", tupS ys, .tuple rs]) = 1 + (gz (.str "wood") + (gz (tupS ys) + (1 + gzs rs + 0))) := by simp only [gz, gzs]
    rw [e, hw]
    omega
  · have := tds_of (n := 2) (xs := rs) fun x hx => (each x hx).2.2.2
    have e : td (.tuple [.str "wood", tupS ys, .tuple rs]) = 1 + max 0 (max (td (tupS ys)) (max (1 + tds rs) 0)) := by simp only [td, tds]
    rw [e]
    omega
end K0


set_option Elab.async false
set_option linter.all false
set_option maxRecDepth 100000
set_option maxHeartbeats 1000000
/-! Tk10: repr of bools, is not, min, t * n, tuple(t). -/
namespace Tk
open PySem PySem.Spec PyProof.Rows L2 GxR Gx
variable [LamTab]
def boolS (b : Bool) : Str := if b = true then "True" else "False"
def rReprB : List V → Hp → VK → Prop := fun xs H Q => ∃ b, xs = [V.bl b] ∧ Q (.str (boolS b)) H
section
variable {X : Cx} {a b e : Expr} {σ : L2.St} {H : Hp} {K : PySem.W.Frag}
theorem c_reprB : CallR X (.builtin "repr") rReprB := by
  intro pins s σ H xs us Q I r h
  obtain ⟨b, rfl, q⟩ := h
  obtain ⟨u, rfl, ru⟩ := vals1 r
  obtain rfl : u = Value.bool b := ru
  exact PySem.P.repr_of_bool ⟨.str (boolS b), H, I.tok _, ⟨s.toks, by cases b <;> rfl⟩, q⟩
theorem boot_repr' : bootBuiltins "repr" = some (.builtin "repr") := by decide +kernel
theorem ee_reprB {k : Bool} {p pos : Pos} (hm : X.mg "repr" = none) (ha : EE X e σ H (.bool k)) (hg : Gl X "repr" := by rfl) (he : starEach [e] X.env = (false, eval e X.env) :: starEach [] X.env := by rfl) : EE X (.Call (.Name "repr" p) [e] [] pos) σ H (.str (boolS k)) :=
  ee_callB c_reprB hg hm boot_repr' (fun B1 H1 l l1 vs hv Q q => by
    obtain ⟨v, rfl, hx⟩ := ds1 hv
    cases hx
    exact ⟨k, rfl, q _ B1 H1 (Up.refl l1) (.str _)⟩) (ea_cons ha ea_nil he) (by decide) (by decide) he rfl
theorem rr_isnotB {i j : Bool} : RR K (fun x y H Q => ∃ a b, x = V.bl a ∧ y = V.bl b ∧ Q (.bl (!decide (a = b))) H) H (.bool i) (.bool j) (.bool (!decide (i = j))) := fun B H1 l l1 x y hx hy Q q => by
  cases hx
  cases hy
  exact ⟨i, j, rfl, rfl, q _ B H1 (Up.refl l1) (.bl _)⟩
def rMin2 : List V → Hp → VK → Prop := fun xs H Q => ∃ i j, xs = [V.int i, V.int j] ∧ Q (.int (if j < i then j else i)) H
theorem c_min2 (hc : X.calm = true) : CallR X (.builtin "min") rMin2 := call_min2 hc
theorem boot_min' : bootBuiltins "min" = some (.builtin "min") := by decide +kernel
theorem ee_min2 {i j : Int} {p pos : Pos} (hc : X.calm = true) (hm : X.mg "min" = none) (ha : EE X a σ H (.int i)) (hb : EE X b σ H (.int j)) (hg : Gl X "min" := by rfl) (he : starEach [a, b] X.env = (false, eval a X.env) :: starEach [b] X.env := by rfl) (he2 : starEach [b] X.env = (false, eval b X.env) :: starEach [] X.env := by rfl) (hpl : (backTo pos (starEach [b] X.env)).any (·.1) = false := by rfl) :
    EE X (.Call (.Name "min" p) [a, b] [] pos) σ H (.int (if j < i then j else i)) :=
  ee_callB (c_min2 hc) hg hm boot_min' (fun B1 H1 l l1 vs hv Q q => by
    obtain ⟨v, w, rfl, hx, hy⟩ := ds2 hv
    cases hx
    cases hy
    exact ⟨i, j, rfl, q _ B1 H1 (Up.refl l1) (.int _)⟩) (ea_cons ha (ea_cons hb ea_nil he2) he) (by decide) (by decide) he hpl
theorem ds_rep {vs : List V} {ds : List PyData} (h : Ds K H vs ds) : ∀ n : Nat, Ds K H (List.replicate n vs).flatten (List.replicate n ds).flatten
  | 0 => .nil
  | n + 1 => by
    rw [List.replicate_succ, List.replicate_succ, List.flatten_cons, List.flatten_cons]
    exact h.append (ds_rep h n)
theorem rr_repT {xs : List PyData} {k : Int} (hne : xs ≠ []) (h1 : 2 ≤ k) (h2 : k ≤ 1000) (h3 : xs.length ≤ 1000) : RR K (rRepT K) H (.tuple xs) (.int k) (.tuple (List.replicate k.toNat xs).flatten) := fun B H1 l l1 x y hx hy Q q => by
  cases hy
  cases hx with
  | tup s t h0 =>
    refine ⟨_, k, _, rfl, rfl, sqT_le l1 s, fun e => ?_, h1, h2, by rw [h0.length]; exact h3, fun p hp => q _ _ _ ((Up.refl l1).new hp fun ps z => by cases z) (.new_tup upd_same (ds_rep (Ds.le (Le.new (l1.there p hp)) h0) _))⟩
    subst e
    cases h0
    exact hne rfl
end
end Tk


set_option Elab.async false
set_option linter.all false
set_option maxRecDepth 100000
set_option maxHeartbeats 4000000
namespace K0
open PySem PySem.Spec PyProof.Rows L2 GxR Tk
variable [LamTab]
/-- a wood of many nodes -/
def manyW (n : Nat) : PyData := .tuple [.str "wood", .tuple [], .tuple (List.replicate n [PyData.tuple [.tuple [], .int 0, .int ((n : Int) - 1)]]).flatten]
theorem many_399 : woodB (manyW 399) = true ∧ okD (manyW 399) = true := by decide +kernel
theorem many_400 : woodB (manyW 400) = true ∧ okD (manyW 400) = true := by decide +kernel
theorem many_401 : woodB (manyW 401) = false ∧ okD (manyW 401) = true := by decide +kernel
/-- both tell the same letters -/
theorem letters_same {ns : List Str} (h : ns.length ≤ 3) : letOfF [tupS ns] = .tuple (lawLet [.tuple []] (ns.map PyData.str)) := by
  show PyData.tuple (lettersL (ns.map PyData.str)) = _
  rw [lettersL_eq h, lawLet_eq h]
theorem letters_eqv {ns : List Str} (h : ns.length ≤ 3) (hok : ∀ x ∈ ns.map PyData.str, okD x = true) :
    noDict (letOfF [tupS ns]) = true ∧ SeqAt.shaped (letOfF [tupS ns]) = true ∧ PyData.eqv (letOfF [tupS ns]) (letOfF [tupS ns]) = true := by
  obtain ⟨a, b⟩ := letters_shaped (ns := ns.map PyData.str) (by rw [List.length_map]; exact h) (fun x hx => by
    obtain ⟨z, _, rfl⟩ := List.mem_map.mp hx
    rfl) hok
  exact ⟨a, b, SeqAt.eqv_refl _ ((Bool.and_eq_true _ _).mp b).1⟩
section
variable {P : Program} {w : World} {K : PySem.W.Frag} {mg : Str → Option Value} {base : Heap} {T : List Addr} {C : Addr}
/-- letters, called of a scope -/
theorem ee_letters {X : Cx} {e : Expr} {σ : L2.St} {H : Hp} {d : PyData} {f : Addr} {fd : FuncData} {p pos : Pos} {j : Nat} (G : FnOk P w K mg base (L2.CX P w) 5 f fd ["scope"] (spLetters K T C)) (m1 : mg "letters" = some (.ref f)) (m2 : PySem.W.keepIn K (.ref f) = true) (bi : Binds K fd ["scope"] [])
    (hr : Room j X.A) (hk : 5 ≤ j) (t : Tbs T H) (ha : EE X e σ H d) (hs : scopeB d = true) (hok : okD d = true) (eP : X.prog = P := by rfl) (ew : X.w = w := by rfl) (eK : X.K = K := by rfl) (em : X.mg = mg := by rfl) (eb : X.base = base := by rfl) (hg : Gl X "letters" := by rfl)
    (he : starEach [e] X.env = (false, eval e X.env) :: starEach [] X.env := by rfl) : EE X (.Call (.Name "letters" p) [e] [] pos) σ H (letOfF [d]) := fun H1 l Q q => by
  subst eP ew eK em eb
  refine ⟨_, pe_call (E := fun _ _ _ => False) G (hr.mono hk) hg m1 m2 bi .nil (passes_call takes0 fun _ _ _ _ h => h) (pa_cons pe_w pa_nil he) (by decide) he rfl, ha H1 l _ fun v B2 H2 u2 dv => ?_⟩
  exact ⟨rfl, (t.le l).le u2.h, B2, d, u2.s, .cons dv .nil, hok, fun _ v B3 H3 u3 d3 => q v B3 H3 (u2.trans u3) d3, fun z => by rw [hs] at z; cases z⟩
end
end K0


set_option Elab.async false
set_option linter.all false
set_option maxRecDepth 100000
set_option maxHeartbeats 4000000
/-! Er4: isinstance(_law_caught(lambda: letters(odd)), BadScope) of what is no scope. -/
namespace Er
open PySem PySem.Spec PyProof.Rows L2 LamX GxR Tk
variable [LamTab]
/-- behind it: the table at P and new objects apart all stays -/
structure Lc (P : Addr) (H H3 : Hp) : Prop where
  keep : ∀ b o, b ≠ P → H b = some o → (∀ ps, o = .tbl ps → LamTab.is b) → H3 b = some o
  tab : ∀ P', P' ≠ P → TabG H P' → TabG H3 P'
  there : ∀ b, H3 b = none → H b = none
section
variable {P0 : Program} {w : World} {K : PySem.W.Frag} {mg : Str → Option Value} {base : Heap} {T : List Addr} {C CB : Addr}
theorem Ext1.le {P : Addr} {B H H1 : Hp} (l : Le B H) (e : Ext1 P H H1) (hB : B P = none) : Le B H1 :=
  ⟨fun a o q n => e.keep a o (fun z => by rw [z, hB] at q; cases q) (l.keep a o q n), fun P' t => by
    obtain ⟨ps, q, r⟩ := l.tab P' t
    exact ⟨ps, e.keep P' _ (fun z => by
      obtain ⟨ps0, q0, _⟩ := t
      rw [z, hB] at q0
      cases q0) q, r⟩, fun a q => l.there a (e.there a q)⟩
theorem Ext1.tbs {P : Addr} {H H1 : Hp} (t : Tbs T H) (e : Ext1 P H H1) (hP : LamTab.is P) : Tbs T H1 := fun P' hP' => by
  obtain ⟨⟨ps, q, r⟩, n⟩ := t P' hP'
  exact ⟨⟨ps, e.keep P' _ (fun z => n (by rw [z]; exact hP)) q, r⟩, n⟩
/-- the call: letters raises, its error is caught and handed back -/
theorem caught_we {X : Cx} {g c P : Addr} {k i : Nat} {pg : Arguments} {dV kV doc pm cdv ct oc : Value} {an od : Option Addr} {osl : Array (Option Value)} {params : Arguments} {scope : Scope} {p lpos pos p3 p4 p5 : Pos} {σ : L2.St} {H B : Hp} {d : PyData} {v : V} {f : Addr} {fd : FuncData} {Q : VK}
    (eP : X.prog = P0) (ew : X.w = w) (eK : X.K = K) (em : X.mg = mg) (eb : X.base = base)
    (hg : Gl X "_law_caught") (hm : X.mg "_law_caught" = some (.ref g)) (hk : PySem.W.keepIn X.K (.ref g) = true)
    (lk : X.K.lookup g = some ⟨oc, od, .func (PySem.W.fnOf "_law_caught" "_law_caught" pg (defBody (K0.t__law_caught)) (defScope (K0.t__law_caught)) dV kV doc pm an cdv ct), osl⟩) (hcg : PySem.W.codeIn X.K cdv "_law_caught" = true) (hb : L2.Binds X.K (PySem.W.fnOf "_law_caught" "_law_caught" pg (defBody (K0.t__law_caught)) (defScope (K0.t__law_caught)) dV kV doc pm an cdv ct) ["work"] [])
    (Sg : FnScope ["work", "error", "caught"] ["work"] (defScope (K0.t__law_caught))) (hme : X.mg "BoughError" = some (.ref CB)) (hex : PySem.W.exmOne X.K (.ref C) (.ref CB) = some true)
    (TB : LamX.TabB X.base X.mg c P) (hcode : X.env.code = .ref c) (hr : Room (k + 2) X.A) (h5 : 5 ≤ k) (L : LamS X.env.scope scope) (hdef : defaultsOf params X.env = ([], []))
    (hbind : ∀ (q : Str) (cl : List (Str × Addr)) (pm cv ctv : Value), bindArgs (PySem.W.kla_fn "<lambda>" q params (.Call (.Name "letters" p3) [.Name "odd" p4] [] p5) scope cl pm cv ctv) ⟨[], []⟩ = pure [])
    (G : FnOk P0 w K mg base (L2.CX P0 w) 5 f fd ["scope"] (K0.spLetters K T C)) (m1 : mg "letters" = some (.ref f)) (m2 : PySem.W.keepIn K (.ref f) = true) (bi : Binds K fd ["scope"] [])
    (hlg : scope.names.lookup ("letters" : Str) = some .globalImplicit) (hlo : scope.names.lookup ("odd" : Str) = some .free) (hNo : X.N[i]? = some ("odd" : Str)) (hσ : σ[i]? = some (some v)) (hd : Dt K B v d) (hok : okD d = true) (hs : K0.scopeB d = false)
    (l : Le B H) (hB : B P = none) (hP : LamTab.is P) (t : Tbs T H) (hT : TabS H P (X.env.qual ++ "<lambda>"))
    (hQ : ∀ a H3, Lc P H H3 → TabS H3 P (X.env.qual ++ "<lambda>") → H3 a = some (ErrO (.ref C) none a) → Q (.ref a) H3) :
    WE X (.Call (.Name "_law_caught" p) [.Lambda params (.Call (.Name "letters" p3) [.Name "odd" p4] [] p5) scope lpos] [] pos) σ H Q := by
  subst eP ew eK em eb
  have hbody : ∀ (A : Around) (outer : List Env) (s : Shared) (H : Hp) (E : XK) (f2 c' : Addr), Room k (A.deeper (lamEnv X scope s.heap.objs.size f2 c')) → PE (lamCx X A outer s H E scope f2 c') (.Call (.Name "letters" p3) [.Name "odd" p4] [] p5) (tCall (K0.spLetters X.K T C) [] E (tCons (tVar i) tNil)) := fun A outer s H E f2 c' hr2 =>
    pe_call (CX := L2.CX X.prog X.w) (E := E) G (hr2.mono h5) (by exact hlg) m1 m2 bi .nil (passes_call (takes_of rfl rfl rfl rfl) fun _ _ _ _ h => h) (pa_cons (pe_var (X := lamCx X A outer s H E scope f2 c') (i := i) hNo (by exact Or.inr (Or.inr hlo))) pa_nil) (by decide) rfl rfl
  refine ⟨_, pe_lamcall1 (TT := TTcaught X.K CB) hg hm hk lk hcg hb Sg rfl (Or.inl rfl) (caught_gives rfl hme trivial) TB hcode hr L hdef hbind hbody, ?_⟩
  · refine ⟨hT, fun H1 e1 T1 => ⟨v, hσ, ?_⟩⟩
    refine ⟨rfl, e1.tbs t hP, B, d, e1.le l hB, .cons hd .nil, hok, fun z => (by rw [hs] at z; cases z), fun _ H2 l2 => ⟨hex, fun a ha => hQ a _ ⟨fun b o hb q n => ?_, fun P' hP' tg => ?_, fun b q => ?_⟩ ?_ upd_same⟩⟩
    · have q2 := l2.keep b o (e1.keep b o hb q) n
      rw [upd_ne (ne_of_none q2 ha)]
      exact q2
    · obtain ⟨ps, q, r⟩ := tg
      obtain ⟨ps2, q2, r2⟩ := l2.tab P' ⟨ps, e1.keep P' _ hP' q, r⟩
      exact ⟨ps2, by rw [upd_ne (ne_of_none q2 ha)]; exact q2, r2⟩
    · by_cases z : b = a
      · rw [z, upd_same] at q
        cases q
      · rw [upd_ne z] at q
        exact e1.there b (l2.there b q)
    · obtain ⟨ps, q, r, ac⟩ := T1
      have q2 := l2.keep P _ q fun _ _ => hP
      refine ⟨ps, by rw [upd_ne (ne_of_none q2 ha)]; exact q2, r, fun p' cv hc => ?_⟩
      obtain ⟨c0, e0, e2⟩ := ac p' cv hc
      have q3 := l2.keep c0 _ e2 fun ps z => absurd z (codeO_ne ps)
      exact ⟨c0, e0, by rw [upd_ne (ne_of_none q3 ha)]; exact q3⟩
end
end Er


set_option Elab.async false
set_option linter.all false
set_option maxRecDepth 100000
set_option maxHeartbeats 1000000
/-! Tk11: calls with keywords alone. -/
namespace Tk
open PySem PySem.Spec PyProof.Rows L2 GxR Gx
variable [LamTab]
theorem pe_callK0 {X : Cx} {CX : CXT} {k : Nat} {f : Addr} {fd : FuncData} {ps ks : List Str} {sp : Sp} {E : XK} {x : Str} {p pos : Pos} {kws : List Keyword} {tk : TA} {g : List Value → List Value → List Value} {gV : List V → List V → List V}
    (F : FnOk X.prog X.w X.K X.mg X.base CX k f fd ps sp) (hr : Room k X.A) (hg : Gl X x) (hm : X.mg x = some (.ref f)) (hk : PySem.W.keepIn X.K (.ref f) = true) (hb : KBinds X.K fd ps ks g gV) (hx : Passes CX X E)
    (hkw : PK X kws tk) (hall : (backToKw pos (keywordEach kws X.env)).all (·.1.isSome) = true := by rfl) (hks : (backToKw pos (keywordEach kws X.env)).filterMap (·.1) = ks := by rfl)
    (hdb : (x == ("__debug__" : Str)) = false := by decide) (hpl : (backToKw pos (keywordEach kws X.env)).any (·.1.isNone) = false := by rfl) :
    PE X (.Call (.Name x p) [] kws pos) (fun σ H Q => tk σ H fun zs H2 => sp (gV [] zs) H2 Q E) := by
  refine ⟨fun pins s σ H Q I h => ?_⟩
  refine wpAny_Call_Name_kw (ld_glob I hg hm ?_ hdb)
  refine PySem.W.callWith_KW0 (h₀ := X.base) I.ok.mod.kin hk hall (thn (hkw.run pos pins s σ H _ I h) fun ws s2 ⟨zs, H2, I2, rz, q2⟩ => ⟨I2.kIn, ?_⟩) hpl
  rw [hks]
  exact run_fnk F hr hb hx I2 .nil rz q2
/-- f(k = e) of a def that changes nothing -/
theorem ee_callK {X : Cx} {P : Program} {w : World} {K : PySem.W.Frag} {mg : Str → Option Value} {base : Heap} {T : List Addr} {k j : Nat} {x kn : Str} {ps : List Str} {pre : List PyData → Prop} {fF : List PyData → PyData} {f : Addr} {fd : FuncData} {g : List Value → List Value → List Value} {gV : List V → List V → List V} {e : Expr} {σ : L2.St} {H : Hp} {d d1 : PyData} {p pos kpos : Pos}
    (G : FnOk P w K mg base CX0 k f fd ps (spF K T 1 pre fF)) (m1 : mg x = some (.ref f)) (m2 : PySem.W.keepIn K (.ref f) = true) (hb : KBinds K fd ps [kn] g gV) (hgv : ∀ v, gV [] [v] = [v]) (hr : Room j X.A) (hk : k ≤ j) (t : Tbs T H) (ha : EE X e σ H d1) (hp : pre [d1]) (hd : fF [d1] = d)
    (eP : X.prog = P := by rfl) (ew : X.w = w := by rfl) (eK : X.K = K := by rfl) (em : X.mg = mg := by rfl) (eb : X.base = base := by rfl) (hg : Gl X x := by rfl) (hdb : (x == ("__debug__" : Str)) = false := by decide)
    (hall : (backToKw pos (keywordEach [⟨some kn, e, kpos⟩] X.env)).all (·.1.isSome) = true := by rfl) (hks : (backToKw pos (keywordEach [⟨some kn, e, kpos⟩] X.env)).filterMap (·.1) = [kn] := by rfl) (hpl : (backToKw pos (keywordEach [⟨some kn, e, kpos⟩] X.env)).any (·.1.isNone) = false := by rfl) :
    EE X (.Call (.Name x p) [] [⟨some kn, e, kpos⟩] pos) σ H d := fun H1 l Q q => by
  subst hd eP ew eK em eb
  refine ⟨_, pe_callK0 (E := L2.E0) G (hr.mono hk) hg m1 m2 hb pass0 (pk_cons pe_w pk_nil) hall hks hdb hpl, ha H1 l _ fun v B2 H2 u2 dv => ?_⟩
  show spF X.K T 1 pre fF (gV [] [v]) H2 Q E0
  rw [hgv]
  exact ⟨rfl, (t.le l).le u2.h, B2, [d1], u2.s, .cons dv .nil, hp, fun v B3 H3 u3 d3 => q v B3 H3 (u2.trans u3) d3⟩
end Tk


set_option Elab.async false
set_option linter.all false
set_option maxRecDepth 100000
set_option maxHeartbeats 4000000
/-! L0: what law rests on; one turn of it, its first half. -/
namespace K0
open PySem PySem.Spec PyProof.Rows L2 GxR Tk
variable [LamTab]
abbrev sLaw : Stmt := t_law
def NL : List Str := ["script", "draw", "turn", "scope", "wood", "thing", "lap", "odd", "is_scope_v", "many"]
def turnBody : List Stmt := match defBody sLaw with
  | [_, .For _ _ b _ _, _, _] => b
  | _ => []
theorem scLaw : FnScope NL ["script"] (defScope sLaw) := ⟨rfl, rfl, rfl, by decide +kernel, rfl, by decide +kernel, by decide +kernel⟩
theorem ndLaw : List.Nodup NL := by decide +kernel
theorem turn_len : turnBody.length = 10 := by decide +kernel
section
variable (P : Program) (w : World) (K : PySem.W.Frag) (mg : Str → Option Value) (base : Heap) (T : List Addr)
/-- what law calls -/
structure Facts : Prop where
  bl : Blt mg
  rp : mg "repr" = none
  mn : mg "min" = none
  scope : ∀ d lw lc, (∀ a ∈ [d, lw, lc], a ∉ T) → lw ≠ lc → KnJ P w K mg base 5 "_law_scope" ["draw", "most"] T d lw lc 1 101 mostP scopeR
  wood : ∀ d lw lc, (∀ a ∈ [d, lw, lc], a ∉ T) → lw ≠ lc → KnJ P w K mg base 4 "_law_wood" ["draw", "scope", "most"] T d lw lc 2 16 woodP woodR
  bent : ∀ d lw lc, (∀ a ∈ [d, lw, lc], a ∉ T) → lw ≠ lc → ∀ k g t, k ≤ 18 → g ≤ 90000 → t ≤ 10 → KnJ P w K mg base 12 "_law_bent" ["draw", "thing", "words"] T d lw lc 2 8 (oddP k g t) (bentR k g t)
  bad : ∀ d lw lc, (∀ a ∈ [d, lw, lc], a ∉ T) → lw ≠ lc → KnJ P w K mg base 4 "_law_bad_wood" ["draw"] T d lw lc 0 1 (· = []) badR
  pick : ∀ d lw lc, (∀ a ∈ [d, lw, lc], a ∉ T) → lw ≠ lc → KnPick P w K mg base T d lw lc
  isW : Kn P w K mg base 5 "is_wood" ["thing"] (spF K T 1 nameP woodF)
  llet : KnLet P w K mg base T
  lisW : ∀ k, k ≤ 18 → Kn P w K mg base 2 "_law_is_wood" ["thing"] (spF K T 1 (lisP k) lisF)
  lare : Kn P w K mg base 1 "_law_are_names" ["thing"] (spF K T 1 areP areF)
end
section
variable {P : Program} {w : World} {K : PySem.W.Frag} {mg : Str → Option Value} {base : Heap} {T : List Addr} {f : Addr}
/-- one lap: thing is bent, both judges are asked -/
theorem lap_words {X : Cx} {σ : L2.St} {B : Hp} {ys : List Str} {i : Nat} {v : V} {e : Expr} (g : goodS ys) : wordsOk 0 (ys.map PyData.str ++ [.str "qa", .str "zz"]) := by
  refine ⟨by rw [List.length_append, List.length_map]; have := g.1; simp only [List.length_cons, List.length_nil]; omega, fun x hx => ?_⟩
  rcases List.mem_append.mp hx with z | z
  · obtain ⟨⟨a, b⟩, _⟩ := g.2.2 x z
    obtain ⟨y, _, rfl⟩ := List.mem_map.mp z
    exact ⟨a, by omega, by simp only [td]⟩
  · simp only [List.mem_cons, List.not_mem_nil, or_false] at z
    rcases z with rfl | rfl
    · exact ⟨by decide +kernel, by decide +kernel, by simp only [td]⟩
    · exact ⟨by decide +kernel, by decide +kernel, by simp only [td]⟩
theorem scope_words {ys : List Str} (g : goodS ys) : wordsOk 0 (ys.map PyData.str ++ [.str "qa"]) := by
  refine ⟨by rw [List.length_append, List.length_map]; have := g.1; simp only [List.length_cons, List.length_nil]; omega, fun x hx => ?_⟩
  rcases List.mem_append.mp hx with z | z
  · obtain ⟨⟨a, b⟩, _⟩ := g.2.2 x z
    obtain ⟨y, _, rfl⟩ := List.mem_map.mp z
    exact ⟨a, by omega, by simp only [td]⟩
  · rw [List.mem_singleton.mp z]
    exact ⟨by decide +kernel, by decide +kernel, by simp only [td]⟩
theorem words_mono {k : Nat} {ws : List PyData} (h : wordsOk k ws) : wordsOk (k + 1) ws := ⟨h.1, fun x hx => ⟨cv_mono x (h.2 x hx).1, (h.2 x hx).2⟩⟩
/-- how great a thing may be behind n bends in a row -/
def gN : Nat → Nat
  | 0 => 230
  | n + 1 => 4 * gN n + 320
theorem gN4 : gN 4 ≤ 90000 := by decide
/-- a thing behind n bends in a row -/
def okN (n : Nat) (d : PyData) : Prop := cv n d = true ∧ gz d ≤ gN n ∧ td d ≤ 4 + n
theorem okN_bent {n : Nat} {d r : PyData} (h : okN n d) (b : bentG n (gN n) (4 + n) r) : okN (n + 1) r := ⟨b.1, b.2.1, by have := b.2.2; omega⟩
def lapBody : List Stmt := match turnBody with
  | [_, _, _, _, .For _ _ b _ _, _, _, _, _, _] => b
  | _ => []
/-- one lap -/
theorem lap_ok (FA : Facts P w K mg base T) {d lw lc : Addr} {cdv : Value} {A : Around} {outer : List Env} {s : Shared} {H0 : Hp} {E : XK} {j : Nat} {ys : List Str} {wd th : PyData} {vs vw vt : V} {s0 s2 s7 s8 s9 : Option V} {lap kk m : Nat} {B H : Hp} {D : L2.Ends}
    (hTD : ∀ a ∈ [d, lw, lc], a ∉ T) (hne : lw ≠ lc) (hr : Room j (A.deeper (envOfC "law" (defScope sLaw) s.heap.objs.size f cdv))) (hj : 12 ≤ j) (g : goodS ys) (hlap : lap < 8) (hkk : kk = if lap > 4 then lap - 4 else 0) (hsrc : okN kk (if lap > 4 then th else wd))
    (l : Le B H) (ap : Apt [d, lw, lc] B) (jj : DJ d lw lc (m + 8) H) (t : Tbs T B) (ds : Dt K B vs (tupS ys)) (dw : Dt K B vw wd) (dt : Dt K B vt th)
    (q : ∀ v th' B' H', okN (kk + 1) th' → UpX [d, lw, lc] B H B' H' → DJ d lw lc m H' → Dt K B' v th' → D.nx [s0, some (.ref d), s2, some vs, some vw, some v, some (.int (lap : Int)), s7, s8, s9] H') :
    WB (cxOf CX0 P w K mg base NL "law" (defScope sLaw) f cdv A outer s H0 E).nox lapBody D [s0, some (.ref d), s2, some vs, some vw, some vt, some (.int (lap : Int)), s7, s8, s9] H := by
  have hk4 : kk ≤ 3 := by
    subst hkk
    split <;> omega
  have hgN : gN kk ≤ 30000 := by
    have : kk = 0 ∨ kk = 1 ∨ kk = 2 ∨ kk = 3 := by omega
    rcases this with h | h | h | h <;> rw [h] <;> decide
  have hgN2 : gN (kk + 1) ≤ 90000 := by
    have : kk = 0 ∨ kk = 1 ∨ kk = 2 ∨ kk = 3 := by omega
    rcases this with h | h | h | h <;> rw [h] <;> decide
  have hwords : wordsOk kk (ys.map PyData.str ++ [.str "qa", .str "zz"]) := by
    have h0 := lap_words (X := (cxOf CX0 P w K mg base NL "law" (defScope sLaw) f cdv A outer s H0 E).nox) (σ := []) (B := B) (i := 0) (v := vs) (e := .Name "x" ⟨0, 0, 0, 0⟩) g
    have : ∀ n, wordsOk n (ys.map PyData.str ++ [.str "qa", .str "zz"]) := fun n => by
      induction n with
      | zero => exact h0
      | succ n ih => exact words_mono ih
    exact this kk
  have hyl := g.1
  generalize hsrcE : (if lap > 4 then th else wd) = src at hsrc
  refine wb_cons (ws_setJ (i := 5) (m := m) (n := 8) (R := okN (kk + 1)) l ap jj ?_ (fun v th' B2 H2 u2 j2 dv r => ?_) ndLaw)
  · refine (ej_call (i := 1) (n1 := 0 + (0 + 0)) (n := 8) (RA := fun ds => ds = [src, .list (ys.map PyData.str ++ [.str "qa", .str "zz"])]) cells_DJ (FA.bent d lw lc hTD hne kk (gN kk) (4 + kk) (by omega) (by omega) (by omega)) hr hj t rfl ((eaj_cons cells_DJ (ej_pure (R := (· = src)) cells_DJ ?_ rfl) fun B3 l3 => eaj_cons cells_DJ (ej_pure (R := (· = .list (ys.map PyData.str ++ [.str "qa", .str "zz"]))) cells_DJ ?_ rfl) fun B4 l4 => eaj_nil).weak fun ds h => ?_) fun ds h => ?_).weak cells_DJ (fun e h => ?_) (by omega)
    · refine ee_if (p := decide ((lap : Int) > 4)) (et_cmp op_gt rr_gt (ee_var (i := 6) rfl (.int _)) ee_int) (fun z => ?_) fun z => ?_
      · have h4 : lap > 4 := by
          have := of_decide_eq_true z
          omega
        rw [if_pos h4] at hsrcE
        rw [← hsrcE]
        exact ee_var (i := 5) rfl dt
      · have h4 : ¬ lap > 4 := by
          have := of_decide_eq_false z
          omega
        rw [if_neg h4] at hsrcE
        rw [← hsrcE]
        exact ee_var (i := 4) rfl dw
    · exact ee_op op_catL (rr_catL (by rw [List.length_map]; exact Nat.le_trans (show ys.length + 2 ≤ 5 by omega) (by decide))) (ee_list FA.bl.list (ee_var (i := 3) rfl (Dt.le l3 ds))) (ee_lst (ea_cons ee_str (ea_cons ee_str ea_nil)) (by show 2 ≤ sizeLine; decide))
    · obtain ⟨a, b, rfl, rfl, c, e, rfl, rfl, rfl⟩ := h
      rfl
    · subst h
      exact ⟨⟨src, _, rfl, hsrc.1, hsrc.2.1, hsrc.2.2, hwords⟩, rfl⟩
    · obtain ⟨ds, rfl, h⟩ := h
      exact okN_bent hsrc h
  · have t2 := t.le u2.b
    obtain ⟨r1, r2, r3⟩ := r
    have hok : okD th' = true := cv_ok _ r1 (by omega)
    have e1 : woodB th' = lawWoodB th' := wood_same r1
    refine wb_one (ws_if (k := false) u2.s ((et_cmp op_ne rr_neS (ee_reprB FA.rp (ee_call (f := woodF) (d := .bool (woodB th')) FA.isW hr (by omega) t2 (ea_cons (ee_var (i := 5) rfl dv) ea_nil) ⟨th', rfl, hok⟩)) (ee_reprB FA.rp (ee_call (f := lisF) (d := .bool (lawWoodB th')) (FA.lisW (kk + 1) (by omega)) hr (by omega) t2 (ea_cons (ee_var (i := 5) rfl dv) ea_nil) ⟨th', rfl, r1, by omega⟩))).cast (by rw [e1]; simp)) (fun e => by cases e) fun _ H3 l3 => ?_)
    exact wb_nil (q v th' B2 H3 ⟨r1, r2, r3⟩ (u2.trans cells_DJ j2 (.of (Up.le u2.s l3))) (cells_DJ.le _ _ _ j2 l3) dv)
end
end K0


set_option Elab.async false
set_option linter.all false
set_option maxRecDepth 100000
set_option maxHeartbeats 4000000
/-! L1: the laps of a turn. -/
namespace K0
open PySem PySem.Spec PyProof.Rows L2 GxR Tk
variable [LamTab]
section
variable {P : Program} {w : World} {K : PySem.W.Frag} {mg : Str → Option Value} {base : Heap} {T : List Addr} {f : Addr}
theorem upto_get {n i : Nat} {d : PyData} (h : (upto n)[i]? = some d) : i < n ∧ d = .int (i : Int) := by
  unfold upto at h
  rw [List.getElem?_map] at h
  cases q : (List.range n)[i]? with
  | none => rw [q] at h; cases h
  | some k =>
    rw [q] at h
    obtain ⟨h1, h2⟩ := List.getElem?_eq_some_iff.mp q
    rw [List.getElem_range] at h2
    rw [List.length_range] at h1
    subst h2
    exact ⟨h1, (Option.some.inj h).symm⟩
theorem laps_ok (FA : Facts P w K mg base T) {d lw lc : Addr} {cdv : Value} {A : Around} {outer : List Env} {s : Shared} {H0 : Hp} {E : XK} {j : Nat} {ys : List Str} {wd th : PyData} {vs vw vt : V} {s0 s2 s6 s7 s8 s9 : Option V} {m : Nat} {B H : Hp} {D : L2.Ends} {p1 p2 p3 p4 pos : Pos} {c : Nat}
    (hTD : ∀ a ∈ [d, lw, lc], a ∉ T) (hne : lw ≠ lc) (hr : Room j (A.deeper (envOfC "law" (defScope sLaw) s.heap.objs.size f cdv))) (hj : 12 ≤ j) (g : goodS ys) (hw : okN 0 wd)
    (l : Le B H) (ap : Apt [d, lw, lc] B) (jj : DJ d lw lc (m + 64) H) (t : Tbs T B) (ds : Dt K B vs (tupS ys)) (dw : Dt K B vw wd) (dt : Dt K B vt th)
    (q : ∀ v s6' B' H', UpX [d, lw, lc] B H B' H' → DJ d lw lc m H' → D.nx [s0, some (.ref d), s2, some vs, some vw, some v, s6', s7, s8, s9] H') :
    WS (cxOf CX0 P w K mg base NL "law" (defScope sLaw) f cdv A outer s H0 E).nox (.For (.Name "lap" p1) (.Call (.Name "range" p2) [.Constant (.int 8) c p3] [] p4) lapBody [] pos) D [s0, some (.ref d), s2, some vs, some vw, some vt, s6, s7, s8, s9] H := by
  have ln : (upto (8 : Int).toNat).length = 8 := by decide +kernel
  refine ws_for (tjs := [6]) (pat := patN) l (ei_range (n := 8) FA.bl.range ee_int (by decide) (by decide)) (eg_name ndLaw) (fun d hd => ⟨[d], rfl⟩) PassesOwn.never rfl
    (fun i σ' B' H' => ∃ vt th a6, σ' = [s0, some (.ref d), s2, some vs, some vw, some vt, a6, s7, s8, s9] ∧ UpX [d, lw, lc] B H B' H' ∧ DJ d lw lc (m + 8 * (8 - i)) H' ∧ Dt K B' vt th ∧ (i > 4 → okN (i - 4) th))
    (fun B' H' u => ⟨vt, th, s6, rfl, .of u, cells_DJ.le _ _ _ jj u.h, Dt.le u.b dt, fun z => absurd z (by omega)⟩) (fun i x es us σ' B' H' B'' H'' hi hd' lb hI u4 he dvs N hN => ?_) fun σ' B' H' lb ls hI => ?_
  · obtain ⟨vt', th', a6, rfl, ux, j1, d1, hok⟩ := hI
    obtain ⟨hi8, rfl⟩ := upto_get hd'
    have hi8 : i < 8 := hi8
    cases he
    obtain ⟨y, rfl, hy⟩ := ds1 (K := K) dvs
    cases hy
    have ux2 := ux.trans cells_DJ j1 (.of u4)
    have j2 := cells_DJ.le _ _ _ j1 u4.h
    refine lap_ok FA (lap := i) (kk := if i > 4 then i - 4 else 0) (m := m + 8 * (8 - (i + 1))) (B := B'') hTD hne hr hj g hi8 rfl ?_ u4.s (ux2.apt cells_DJ jj ap) (by rw [show m + 8 * (8 - (i + 1)) + 8 = m + 8 * (8 - i) by omega]; exact j2) (t.le ux2.b) (Dt.le ux2.b ds) (Dt.le ux2.b dw) (Dt.le u4.b d1) fun v th2 B3 H3 o3 u3 j3 dv => hN _ B3 H3 u3.b u3.s ⟨v, th2, _, rfl, ux2.trans cells_DJ j2 u3, j3, dv, fun z => ?_⟩
    · by_cases h4 : i > 4
      · rw [if_pos h4, if_pos h4]
        exact hok h4
      · rw [if_neg h4, if_neg h4]
        exact hw
    · by_cases h4 : i > 4
      · rw [if_pos h4] at o3
        rw [show i + 1 - 4 = i - 4 + 1 by omega]
        exact o3
      · rw [if_neg h4] at o3
        rw [show i + 1 - 4 = 0 + 1 by omega]
        exact o3
  · obtain ⟨vt', th', a6, rfl, ux, j1, d1, _⟩ := hI
    exact q vt' a6 B' H' ux (cells_DJ.less _ _ _ j1 (by omega))
/-- law's own table through a step -/
theorem tabS_lex {d lw lc : Addr} {n : Nat} {H H2 : Hp} {PL : Addr} {qn : Str} (x : LeX [d, lw, lc] H H2) (jj : DJ d lw lc n H) (hP : LamTab.is PL) (h : LamX.TabS H PL qn) : LamX.TabS H2 PL qn := by
  obtain ⟨ps, q, r, ac⟩ := h
  obtain ⟨ws, cs, rr, t, h1, h2, h3, _⟩ := jj
  have off : ∀ {b : Addr} {o : HO}, H b = some o → (∀ kvs, o ≠ .dK kvs) → (∀ xs, o ≠ .lst xs) → b ∉ [d, lw, lc] := fun {b o} e n1 n2 hb => by
    rcases List.mem_cons.mp hb with z | z
    · rw [z, h1] at e; exact n1 _ (Option.some.inj e).symm
    rcases List.mem_cons.mp z with z | z
    · rw [z, h2] at e; exact n2 _ (Option.some.inj e).symm
    · rw [List.mem_singleton.mp z, h3] at e; exact n2 _ (Option.some.inj e).symm
  refine ⟨ps, x.keep PL _ (off q (fun _ z => by cases z) fun _ z => by cases z) q fun _ _ => hP, r, fun p cv hc => ?_⟩
  obtain ⟨c, e1, e2⟩ := ac p cv hc
  exact ⟨c, e1, x.keep c _ (off e2 (fun _ z => by unfold LamX.CodeO at z; cases z) fun _ z => by unfold LamX.CodeO at z; cases z) e2 fun ps z => absurd z (LamX.codeO_ne ps)⟩
end
end K0


set_option Elab.async false
set_option linter.all false
set_option maxRecDepth 100000
set_option maxHeartbeats 4000000
/-! Lt: the first look of a turn. -/
namespace K0
open PySem PySem.Spec PyProof.Rows L2 GxR Tk
variable [LamTab]
section
variable (P : Program) (w : World) (K : PySem.W.Frag) (mg : Str → Option Value) (base : Heap) (T : List Addr) (C : Addr)
structure FactsK : Prop where
  wk : ∃ (f : Addr) (fd : FuncData) (g : List Value → List Value → List Value) (gV : List V → List V → List V), FnOk P w K mg base CX0 5 f fd ["thing"] (spF K T 1 nameP woodF) ∧ mg "is_wood" = some (.ref f) ∧ PySem.W.keepIn K (.ref f) = true ∧ KBinds K fd ["thing"] ["thing"] g gV ∧ ∀ v, gV [] [v] = [v]
  le : ∃ (f : Addr) (fd : FuncData) (g : List Value → List Value → List Value) (gV : List V → List V → List V), FnOk P w K mg base (L2.CX P w) 5 f fd ["scope"] (spLetters K T C) ∧ mg "letters" = some (.ref f) ∧ PySem.W.keepIn K (.ref f) = true ∧ Binds K fd ["scope"] [] ∧ KBinds K fd ["scope"] ["scope"] g gV ∧ ∀ v, gV [] [v] = [v]
end
section
variable {P : Program} {w : World} {K : PySem.W.Frag} {mg : Str → Option Value} {base : Heap} {T : List Addr} {f C : Addr}
def firstC : Expr := match turnBody with
  | _ :: _ :: .If c _ _ _ :: _ => c
  | _ => .Constant .none 0 ⟨0, 0, 0, 0⟩
theorem first_ok (FA : Facts P w K mg base T) (FK : FactsK P w K mg base T C) {cdv : Value} {A : Around} {outer : List Env} {s : Shared} {H0 : Hp} {E : XK} {j : Nat} {ys : List Str} {wd : PyData} {vs vw : V} {s0 s1 s2 s5 s6 s7 s8 s9 : Option V} {B : Hp}
    (hr : Room j (A.deeper (envOfC "law" (defScope sLaw) s.heap.objs.size f cdv))) (hj : 12 ≤ j) (g : goodS ys) (hsc : scopeB (tupS ys) = true) (hok : okD wd = true) (hwd : woodB wd = true) (t : Tbs T B) (ds : Dt K B vs (tupS ys)) (dw : Dt K B vw wd) :
    ET (cxOf CX0 P w K mg base NL "law" (defScope sLaw) f cdv A outer s H0 E).nox firstC [s0, s1, s2, some vs, some vw, s5, s6, s7, s8, s9] B false := by
  obtain ⟨f1, fd1, g1, gV1, G1, m1, k1, kb1, hg1⟩ := FK.wk
  obtain ⟨f2, fd2, g2, gV2, G2, m2, k2, b2, kb2, hg2⟩ := FK.le
  have hys := g.1
  have oks : ∀ x ∈ ys.map PyData.str, okD x = true := fun x hx => by
    obtain ⟨⟨a, b⟩, _⟩ := g.2.2 x hx
    exact cv_ok x a (by omega)
  have okt : okD (tupS ys) = true := by
    obtain ⟨a, b, _⟩ := tup_good (List.Sublist.refl ys) g
    exact cv_ok _ a (by omega)
  obtain ⟨n1, n2, n3⟩ := letters_eqv hys oks
  have hls : letOfF [tupS ys] = .tuple (lawLet [.tuple []] (ys.map PyData.str)) := letters_same hys
  refine (et_w (ew_or (p := false) ((et_cmp op_isnot_bl rr_isnotB (ee_call (f := woodF) (d := .bool (woodB wd)) FA.isW hr (by omega) t (ea_cons (ee_var (i := 4) rfl dw) ea_nil) ⟨wd, rfl, hok⟩) ee_bl).cast (by rw [hwd]; rfl)) fun _ => ew_or (p := false) ((et_cmp op_isnot_bl rr_isnotB (ee_callK (d := .bool (woodB wd)) G1 m1 k1 kb1 hg1 hr (by omega) t (ee_var (i := 4) rfl dw) ⟨wd, rfl, hok⟩ rfl) ee_bl).cast (by rw [hwd]; rfl)) fun _ =>
    ew_one2 (p := false) ((et_cmp (k := !PyData.eqv (letOfF [tupS ys]) (letOfF [tupS ys])) (op_neD (hu64 hr)) (rr_neD n1 n1 n2 n2) (ee_letters G2 m2 k2 b2 hr (by omega) t (ee_var (i := 3) rfl ds) hsc okt) ?_).cast (by rw [n3]; rfl)))).cast rfl
  rw [hls]
  exact ee_tuple FA.bl (ee_call (f := lawLetF) (d := .list (lawLet [.tuple []] (ys.map PyData.str))) FA.llet hr (by omega) t (ea_cons (ee_var (i := 3) rfl ds) ea_nil) ⟨ys.map PyData.str, rfl, by rw [List.length_map]; exact hys⟩)
end
end K0


set_option Elab.async false
set_option linter.all false
set_option maxRecDepth 100000
set_option maxHeartbeats 4000000
/-! Lu: whether odd is a scope; the bad wood. -/
namespace K0
open PySem PySem.Spec PyProof.Rows L2 GxR Tk
variable [LamTab]
section
variable {P : Program} {w : World} {K : PySem.W.Frag} {mg : Str → Option Value} {base : Heap} {T : List Addr} {f C : Addr}
def isvE : Expr := match turnBody with
  | [_, _, _, _, _, _, .Assign _ e _, _, _, _] => e
  | _ => .Constant .none 0 ⟨0, 0, 0, 0⟩
def badC : Expr := match turnBody with
  | [_, _, _, _, _, _, _, _, _, .If c _ _ _] => c
  | _ => .Constant .none 0 ⟨0, 0, 0, 0⟩
theorem isv_ok (FA : Facts P w K mg base T) {cdv : Value} {A : Around} {outer : List Env} {s : Shared} {H0 : Hp} {E : XK} {j k : Nat} {od : PyData} {vo : V} {s0 s1 s2 s3 s4 s5 s6 s8 s9 : Option V} {B : Hp}
    (hr : Room j (A.deeper (envOfC "law" (defScope sLaw) s.heap.objs.size f cdv))) (hj : 12 ≤ j) (hk : k ≤ 18) (hcv : cv k od = true) (hgz : gz od ≤ 100000) (t : Tbs T B) (dO : Dt K B vo od) :
    EE (cxOf CX0 P w K mg base NL "law" (defScope sLaw) f cdv A outer s H0 E).nox isvE [s0, s1, s2, s3, s4, s5, s6, some vo, s8, s9] B (.bool (scopeB od)) := by
  rw [scope_same hcv]
  refine ee_and (p := lawNamesB od) (ee_call (f := areF) (d := .bool (lawNamesB od)) FA.lare hr (by omega) t (ea_cons (ee_var (i := 7) rfl dO) ea_nil) (are_pre hk hcv hgz)) fun e1 => ?_
  refine ee_one ?_
  cases od with
  | tuple xs =>
    refine EE.cast (ee_cmp op_lt rr_lt (ee_len FA.bl (ee_var (i := 7) rfl dO) rfl fun x z => by cases z) ee_int) ?_
    show PyData.bool (decide ((xs.length : Int) < 4)) = PyData.bool (decide ((xs.length : Int) ≤ 3))
    congr 1
    exact decide_eq_decide.mpr (by omega)
  | _ => cases e1
theorem bad_ok (FA : Facts P w K mg base T) {d lw lc : Addr} {cdv : Value} {A : Around} {outer : List Env} {s : Shared} {H0 : Hp} {E : XK} {j : Nat} {s0 s2 s3 s4 s5 s6 s7 s8 s9 : Option V} {B : Hp}
    (hTD : ∀ a ∈ [d, lw, lc], a ∉ T) (hne : lw ≠ lc) (hr : Room j (A.deeper (envOfC "law" (defScope sLaw) s.heap.objs.size f cdv))) (hj : 12 ≤ j) (t : Tbs T B) :
    ETJ (cxOf CX0 P w K mg base NL "law" (defScope sLaw) f cdv A outer s H0 E).nox [d, lw, lc] (DJ d lw lc) badC [s0, some (.ref d), s2, s3, s4, s5, s6, s7, s8, s9] B (1 + 0) (fun b => b = false) := by
  refine etj_cmp (Ra := (· = .bool false)) (Rb := (· = .bool false)) cells_DJ op_isnot_bl (rj_of fun d1 d2 e1 e2 => ?_) ?_ (ej_pure cells_DJ ee_bl rfl)
  · subst e1 e2
    exact ⟨_, rr_isnotB, _, rfl, rfl⟩
  · refine (ej_callF (n := 1) (RA := fun ds => ∃ x, ds = [x] ∧ x ∈ bads) cells_DJ FA.isW hr (by omega) t ((eaj_cons (n1 := 1) (n2 := 0) (R := (· ∈ bads)) cells_DJ ((ej_call (i := 1) cells_DJ (FA.bad d lw lc hTD hne) hr (by omega) t rfl eaj_nil fun ds h => ⟨h, by rw [h]; rfl⟩).weak cells_DJ (fun e h => by obtain ⟨_, _, h⟩ := h; exact h) (by omega)) fun B' l => eaj_nil).weak fun ds h => ?_) fun ds h => ?_).weak cells_DJ (fun e h => ?_) (Nat.le_refl _)
    · obtain ⟨a, b, rfl, h, rfl⟩ := h
      exact ⟨a, rfl, h⟩
    · obtain ⟨x, rfl, h⟩ := h
      have := (Bool.and_eq_true _ _).mp (List.all_eq_true.mp bads_ok x h)
      exact ⟨⟨x, rfl, this.2⟩, rfl⟩
    · obtain ⟨ds, ⟨x, rfl, h⟩, rfl⟩ := h
      have := (Bool.and_eq_true _ _).mp (List.all_eq_true.mp bads_ok x h)
      show PyData.bool (woodB x) = .bool false
      rw [bno this.1]
end
end K0


set_option Elab.async false
set_option linter.all false
set_option maxRecDepth 100000
set_option maxHeartbeats 4000000
/-! Lv: letters of odd, where it is a scope. -/
namespace K0
open PySem PySem.Spec PyProof.Rows L2 GxR Tk
variable [LamTab]
section
variable {P : Program} {w : World} {K : PySem.W.Frag} {mg : Str → Option Value} {base : Heap} {T : List Addr} {f C : Addr}
theorem ee_lettersK {X : Cx} {e : Expr} {σ : L2.St} {H : Hp} {d : PyData} {f : Addr} {fd : FuncData} {g : List Value → List Value → List Value} {gV : List V → List V → List V} {p pos kpos : Pos} {j : Nat} (G : FnOk P w K mg base (L2.CX P w) 5 f fd ["scope"] (spLetters K T C)) (m1 : mg "letters" = some (.ref f)) (m2 : PySem.W.keepIn K (.ref f) = true) (hb : KBinds K fd ["scope"] ["scope"] g gV) (hgv : ∀ v, gV [] [v] = [v])
    (hr : Room j X.A) (hk : 5 ≤ j) (t : Tbs T H) (ha : EE X e σ H d) (hs : scopeB d = true) (hok : okD d = true) (eP : X.prog = P := by rfl) (ew : X.w = w := by rfl) (eK : X.K = K := by rfl) (em : X.mg = mg := by rfl) (eb : X.base = base := by rfl) (hg : Gl X "letters" := by rfl)
    (hall : (backToKw pos (keywordEach [⟨some "scope", e, kpos⟩] X.env)).all (·.1.isSome) = true := by rfl) (hks : (backToKw pos (keywordEach [⟨some "scope", e, kpos⟩] X.env)).filterMap (·.1) = (["scope"] : List Str) := by rfl) (hpl : (backToKw pos (keywordEach [⟨some "scope", e, kpos⟩] X.env)).any (·.1.isNone) = false := by rfl) :
    EE X (.Call (.Name "letters" p) [] [⟨some "scope", e, kpos⟩] pos) σ H (letOfF [d]) := fun H1 l Q q => by
  subst eP ew eK em eb
  refine ⟨_, pe_callK0 (E := fun _ _ _ => False) G (hr.mono hk) hg m1 m2 hb (passes_call takes0 fun _ _ _ _ h => h) (pk_cons pe_w pk_nil) hall hks (by decide) hpl, ha H1 l _ fun v B2 H2 u2 dv => ?_⟩
  show spLetters X.K T C (gV [] [v]) H2 Q fun _ _ _ => False
  rw [hgv]
  exact ⟨rfl, (t.le l).le u2.h, B2, d, u2.s, .cons dv .nil, hok, fun _ v B3 H3 u3 d3 => q v B3 H3 (u2.trans u3) d3, fun z => by rw [hs] at z; cases z⟩
def cond4 : Expr := match turnBody with
  | [_, _, _, _, _, _, _, _, .If c _ _ _, _] => c
  | _ => .Constant .none 0 ⟨0, 0, 0, 0⟩
theorem cond4_ok (FA : Facts P w K mg base T) (FK : FactsK P w K mg base T C) {cdv : Value} {A : Around} {outer : List Env} {s : Shared} {H0 : Hp} {E : XK} {j : Nat} {od : PyData} {vo : V} {s0 s1 s2 s3 s4 s5 s6 s9 : Option V} {B : Hp}
    (hr : Room j (A.deeper (envOfC "law" (defScope sLaw) s.heap.objs.size f cdv))) (hj : 12 ≤ j) (hok : okD od = true) (t : Tbs T B) (dO : Dt K B vo od) :
    ET (cxOf CX0 P w K mg base NL "law" (defScope sLaw) f cdv A outer s H0 E).nox cond4 [s0, s1, s2, s3, s4, s5, s6, some vo, some (.bl (scopeB od)), s9] B false := by
  obtain ⟨f2, fd2, g2, gV2, G2, m2, k2, b2, kb2, hg2⟩ := FK.le
  refine (et_w (ew_and (p := scopeB od) (q := false) (et_val (ee_var (i := 8) rfl (.bl _))) fun hs => ew_one1 ?_)).cast (by cases scopeB od <;> rfl)
  obtain ⟨ns, rfl, hn3, hstr⟩ := scope_tup hs
  obtain ⟨nl, rfl⟩ := strs_of hstr
  have hys : nl.length ≤ 3 := by rw [List.length_map] at hn3; exact hn3
  have oks : ∀ x ∈ nl.map PyData.str, okD x = true := fun x hx => okDs_mem (okD_tup hok).2 hx
  obtain ⟨n1, n2, n3⟩ := letters_eqv hys oks
  have hls : letOfF [tupS nl] = .tuple (lawLet [.tuple []] (nl.map PyData.str)) := letters_same hys
  refine (et_cmp (k := !PyData.eqv (letOfF [tupS nl]) (letOfF [tupS nl])) (op_neD (hu64 hr)) (rr_neD n1 n1 n2 n2) (ee_lettersK G2 m2 k2 kb2 hg2 hr (by omega) t (ee_var (i := 7) rfl dO) hs hok) ?_).cast (by rw [n3]; rfl)
  rw [hls]
  exact ee_tuple FA.bl (ee_call (f := lawLetF) (d := .list (lawLet [.tuple []] (nl.map PyData.str))) FA.llet hr (by omega) t (ea_cons (ee_var (i := 7) rfl dO) ea_nil) ⟨nl.map PyData.str, rfl, by rw [List.length_map]; exact hys⟩)
end
end K0


set_option Elab.async false
set_option linter.all false
set_option maxRecDepth 100000
set_option maxHeartbeats 4000000
/-! Lw: the look at the error of what is no scope. -/
namespace K0
open PySem PySem.Spec PyProof.Rows L2 GxR Tk
variable [LamTab]
section
variable {P : Program} {w : World} {K : PySem.W.Frag} {mg : Str → Option Value} {base : Heap} {T : List Addr} {f C PL : Addr} {qn : Str}
def cond3 : Expr := match turnBody with
  | [_, _, _, _, _, _, _, .If c _ _ _, _, _] => c
  | _ => .Constant .none 0 ⟨0, 0, 0, 0⟩
def caughtE : Expr := match cond3 with
  | .BoolOp _ [_, .UnaryOp _ (.Call _ (c :: _) _ _) _] _ => c
  | _ => .Constant .none 0 ⟨0, 0, 0, 0⟩
theorem cond3_wt (BL : Blt mg) (hC : mg "BadScope" = some (.ref C)) (hE : ExcC K C) (hkit : PySem.W.kitOne K (.ref C) (.ref C) = some true) {cdv : Value} {A : Around} {outer : List Env} {s : Shared} {H0 : Hp} {E : XK} {od : PyData} {s0 s1 s2 s3 s4 s5 s6 s7 s9 : Option V} {H : Hp} {Q : Bool → Hp → Prop}
    (hcall : scopeB od = false → ∀ H1, Le H H1 → ∀ Q : VK, (∀ a H3, Er.Lc PL H1 H3 → LamX.TabS H3 PL qn → H3 a = some (Er.ErrO (.ref C) none a) → Q (.ref a) H3) → WE (cxOf CX0 P w K mg base NL "law" (defScope sLaw) f cdv A outer s H0 E).nox caughtE [s0, s1, s2, s3, s4, s5, s6, s7, some (.bl (scopeB od)), s9] H1 Q)
    (q1 : ∀ H', Le H H' → Q false H') (q2 : ∀ H' H3, Le H H' → Er.Lc PL H' H3 → LamX.TabS H3 PL qn → Q false H3) :
    WT (cxOf CX0 P w K mg base NL "law" (defScope sLaw) f cdv A outer s H0 E).nox cond3 [s0, s1, s2, s3, s4, s5, s6, s7, some (.bl (scopeB od)), s9] H Q := by
  refine ⟨_, PW.pt (pw_and pt_w (pw_and1 (pt_not (pt_val (pe_callB Er.call_isT rfl BL.isinstance boot_isi (pa_cons (pe_w (e := caughtE)) (pa_cons (pe_glob (v := V.ref C) rfl hC rfl) pa_nil))))))), ?_⟩
  refine (et_not (et_val (ee_var (i := 8) rfl (.bl (scopeB od))))) H (Le.refl H) _ fun H1 l1 => ?_
  cases hs : scopeB od with
  | true => exact q1 H1 l1
  | false =>
    rw [hs] at hcall
    refine hcall rfl H1 l1 _ fun a H3 lc tb ha => ?_
    exact ⟨a, C, .ref C, .ref C, true, rfl, ha, hE, fun u r => r, hkit, true, rfl, q2 H1 H3 l1 lc tb⟩
end
end K0


set_option Elab.async false
set_option linter.all false
set_option maxRecDepth 100000
set_option maxHeartbeats 4000000
/-! Lx: a turn of law. -/
namespace K0
open PySem PySem.Spec PyProof.Rows L2 GxR Tk
variable [LamTab]
section
variable {P : Program} {w : World} {K : PySem.W.Frag} {mg : Str → Option Value} {base : Heap} {T : List Addr} {f C PL : Addr} {qn : Str}
theorem lc_le {B H H3 : Hp} (l : Le B H) (c : Er.Lc PL H H3) (hB : B PL = none) : Le B H3 :=
  ⟨fun a o q n => c.keep a o (fun z => by rw [z, hB] at q; cases q) (l.keep a o q n) n, fun P' t => c.tab P' (fun z => by
    obtain ⟨ps, q, _⟩ := t
    rw [z, hB] at q
    cases q) (l.tab P' t), fun a q => l.there a (c.there a q)⟩
theorem lc_dj {d lw lc : Addr} {n : Nat} {H H3 : Hp} (j : DJ d lw lc n H) (c : Er.Lc PL H H3) (hT : LamX.TabS H PL qn) : DJ d lw lc n H3 := by
  obtain ⟨ws, cs, r, t, h1, h2, h3, h4, h5⟩ := j
  obtain ⟨ps, q, _⟩ := hT
  have off : ∀ {b : Addr} {o : HO}, H b = some o → (∀ ps, o ≠ .tbl ps) → b ≠ PL := fun e n z => by
    rw [z, q] at e
    exact n ps (Option.some.inj e).symm
  exact ⟨ws, cs, r, t, c.keep _ _ (off h1 fun _ z => by cases z) h1 (fun _ z => by cases z), c.keep _ _ (off h2 fun _ z => by cases z) h2 (fun _ z => by cases z), c.keep _ _ (off h3 fun _ z => by cases z) h3 (fun _ z => by cases z), h4, h5⟩
/-- a turn up to odd; what is left of it is a premise -/
theorem turn_half (FA : Facts P w K mg base T) (FK : FactsK P w K mg base T C) {d lw lc : Addr} {cdv : Value} {A : Around} {outer : List Env} {s : Shared} {H0 : Hp} {E : XK} {j m : Nat} {s0 s2 s3 s4 s5 s6 s7 s8 s9 : Option V} {B H : Hp} {D : L2.Ends}
    (hTD : ∀ a ∈ [d, lw, lc], a ∉ T) (hne : lw ≠ lc) (hr : Room j (A.deeper (envOfC "law" (defScope sLaw) s.heap.objs.size f cdv))) (hj : 12 ≤ j)
    (l : Le B H) (ap : Apt [d, lw, lc] B) (jj : DJ d lw lc (m + 200) H) (t : Tbs T B)
    (rest : ∀ (vs vw v : V) (s6' : Option V) (vo : V) (od : PyData) (B6 H6 : Hp), bentG 0 230 4 od → UpX [d, lw, lc] B H B6 H6 → DJ d lw lc (m + 11) H6 → Dt K B6 vo od → WB (cxOf CX0 P w K mg base NL "law" (defScope sLaw) f cdv A outer s H0 E).nox (turnBody.drop 6) D [s0, some (.ref d), s2, some vs, some vw, some v, s6', some vo, s8, s9] H6) :
    WB (cxOf CX0 P w K mg base NL "law" (defScope sLaw) f cdv A outer s H0 E).nox turnBody D [s0, some (.ref d), s2, s3, s4, s5, s6, s7, s8, s9] H := by
  refine wb_cons (ws_setJ (i := 3) (m := m + 99) (n := 101) (R := scopeR [.int 3]) l ap jj (ej_call1 (d1 := .int 3) (i := 1) cells_DJ (FA.scope d lw lc hTD hne) hr (by omega) t rfl ee_int rfl) (fun vs sc B1 H1 u1 j1 dsc r1 => ?_) ndLaw)
  obtain ⟨ys, rfl, g, hsc⟩ := goodS_of r1
  have ap1 := u1.apt cells_DJ jj ap
  have t1 := t.le u1.b
  refine wb_cons (ws_setJ (i := 4) (m := m + 83) (n := 16) (R := woodR [tupS ys, .int 5]) u1.s ap1 j1 ?_ (fun vw wd B2 H2 u2 j2 dwd r2 => ?_) ndLaw)
  · refine (ej_call (i := 1) (n1 := 0 + (0 + 0)) (n := 16) (RA := fun ds => ds = [tupS ys, .int 5]) cells_DJ (FA.wood d lw lc hTD hne) hr (by omega) t1 rfl ((eaj_cons cells_DJ (ej_pure (R := (· = tupS ys)) cells_DJ (ee_var (i := 3) rfl dsc) rfl) fun B3 l3 => eaj_cons cells_DJ (ej_pure (R := (· = .int 5)) cells_DJ ee_int rfl) fun B4 l4 => eaj_nil).weak fun ds h => ?_) fun ds h => ?_).weak cells_DJ (fun e h => ?_) (by omega)
    · obtain ⟨a, b, rfl, rfl, c, e, rfl, rfl, rfl⟩ := h
      rfl
    · subst h
      have := g.1
      exact ⟨⟨ys.map PyData.str, rfl, by rw [List.length_map]; exact this⟩, rfl⟩
    · obtain ⟨ds, rfl, h⟩ := h
      exact h
  obtain ⟨xs, rs, e0, rfl, hrows⟩ := r2
  cases e0
  obtain ⟨w1, w2, w3, w4⟩ := wood_good g hrows
  have ux := u1.trans cells_DJ j1 u2
  have t2 := t.le ux.b
  have ds2 := Dt.le u2.b dsc
  have okw : okN 0 (.tuple [.str "wood", tupS ys, .tuple rs]) := ⟨w2, w3, w4⟩
  refine wb_cons (ws_if (k := false) u2.s (first_ok FA FK hr hj g hsc (cv_ok _ w2 (by omega)) ((wood_same w2).trans w1) t2 ds2 dwd) (fun e => by cases e) fun _ H3 l3 => wb_nil ?_)
  have ux3 := ux.trans cells_DJ j2 (.of (Up.le u2.s l3))
  have j3 := cells_DJ.le _ _ _ j2 l3
  refine wb_cons (ws_set (i := 5) ux3.s (ee_var (i := 4) rfl dwd) (fun vt B4 H4 u4 dth => ?_) ndLaw)
  have ux4 := ux3.trans cells_DJ j3 (.of u4)
  have j4 := cells_DJ.le _ _ _ j3 u4.h
  refine wb_cons (laps_ok FA (m := m + 19) (B := B4) hTD hne hr hj g okw u4.s (ux4.apt cells_DJ jj ap) j4 (t.le ux4.b) (Dt.le u4.b ds2) (Dt.le u4.b dwd) dth fun v s6' B5 H5 u5 j5 => ?_)
  have ux5 := ux4.trans cells_DJ j4 u5
  have t5 := t.le ux5.b
  have ds5 := Dt.le (u4.b.trans u5.b) ds2
  obtain ⟨g1, g2, g3, g4⟩ := tup_good (List.Sublist.refl ys) g
  have hyl := g.1
  refine wb_cons (ws_setJ (i := 7) (m := m + 11) (n := 8) (R := bentG 0 230 4) u5.s (ux5.apt cells_DJ jj ap) j5 ?_ (fun vo od B6 H6 u6 j6 dod r6 => ?_) ndLaw)
  · refine (ej_call (i := 1) (n1 := 0 + (0 + 0)) (n := 8) (RA := fun ds => ds = [tupS ys, .list (ys.map PyData.str ++ [.str "qa"])]) cells_DJ (FA.bent d lw lc hTD hne 0 230 4 (by omega) (by omega) (by omega)) hr hj t5 rfl ((eaj_cons cells_DJ (ej_pure (R := (· = tupS ys)) cells_DJ (ee_var (i := 3) rfl ds5) rfl) fun B7 l7 => eaj_cons cells_DJ (ej_pure (R := (· = .list (ys.map PyData.str ++ [.str "qa"]))) cells_DJ (ee_op op_catL (rr_catL (by rw [List.length_map]; exact Nat.le_trans (show ys.length + 1 ≤ 5 by omega) (by decide))) (ee_list FA.bl.list (ee_var (i := 3) rfl (Dt.le l7 ds5))) (ee_lst (ea_cons ee_str ea_nil) (by show 1 ≤ sizeLine; decide))) rfl) fun B8 l8 => eaj_nil).weak fun ds h => ?_) fun ds h => ?_).weak cells_DJ (fun e h => ?_) (by omega)
    · obtain ⟨a, b, rfl, rfl, c, e, rfl, rfl, rfl⟩ := h
      rfl
    · subst h
      exact ⟨⟨tupS ys, _, rfl, g1, by omega, by omega, scope_words g⟩, rfl⟩
    · obtain ⟨ds, rfl, h⟩ := h
      exact h
  exact rest vs vw v s6' vo od B6 H6 r6 (ux5.trans cells_DJ j5 u6) j6 dod
end
end K0


set_option Elab.async false
set_option linter.all false
set_option maxRecDepth 100000
set_option maxHeartbeats 4000000
/-! Ly: a whole turn of law. -/
namespace K0
open PySem PySem.Spec PyProof.Rows L2 GxR Tk
variable [LamTab]
def lamQ : Str := "law.<locals>.<lambda>"
section
variable (P : Program) (w : World) (K : PySem.W.Frag) (mg : Str → Option Value) (base : Heap) (C cL PL : Addr)
structure FactsC : Prop where
  caught : ∃ g fd, L2.Fun K "_law_caught" "_law_caught" t__law_caught g fd ∧ mg "_law_caught" = some (.ref g) ∧ Binds K fd ["work"] []
  cb : ∃ CB, mg "BoughError" = some (.ref CB) ∧ PySem.W.exmOne K (.ref C) (.ref CB) = some true
  c : mg "BadScope" = some (.ref C)
  exc : ExcC K C
  kit : PySem.W.kitOne K (.ref C) (.ref C) = some true
  tb : LamX.TabB base mg cL PL
  is : LamTab.is PL
end
section
variable {P : Program} {w : World} {K : PySem.W.Frag} {mg : Str → Option Value} {base : Heap} {T : List Addr} {f C cL PL : Addr}
theorem scCaught : FnScope ["work", "error", "caught"] ["work"] (defScope t__law_caught) := ⟨rfl, rfl, rfl, by decide +kernel, rfl, by decide +kernel, by decide +kernel⟩
theorem tabS_le {H H2 : Hp} {qn : Str} (x : Le H H2) (hP : LamTab.is PL) (h : LamX.TabS H PL qn) : LamX.TabS H2 PL qn := by
  obtain ⟨ps, q, r, ac⟩ := h
  refine ⟨ps, x.keep PL _ q fun _ _ => hP, r, fun p cv hc => ?_⟩
  obtain ⟨c, e1, e2⟩ := ac p cv hc
  exact ⟨c, e1, x.keep c _ e2 fun ps z => absurd z (LamX.codeO_ne ps)⟩
theorem upx_pl {D : List Addr} {B H B2 H2 : Hp} {qn : Str} (u : UpX D B H B2 H2) (hB : B PL = none) (hT : LamX.TabS H PL qn) (hP : LamTab.is PL) : B2 PL = none := by
  cases q : B2 PL with
  | none => rfl
  | some o =>
    rcases u.n PL (by rw [q]; simp) with z | z | ⟨_, z⟩
    · exact absurd hB z
    · obtain ⟨ps, e, _⟩ := hT
      rw [e] at z
      cases z
    · exact absurd hP z
theorem caught_ok (FC : FactsC K mg base C cL PL) (FK : FactsK P w K mg base T C) {cdv : Value} {A : Around} {outer : List Env} {s : Shared} {H0 : Hp} {E : XK} {j : Nat} {od : PyData} {vo : V} {s0 s1 s2 s3 s4 s5 s6 s8 s9 : Option V} {B H : Hp} {Q : VK}
    (hr : Room j (A.deeper (envOfC "law" (defScope sLaw) s.heap.objs.size f cdv))) (hj : 12 ≤ j) (hcd : cdv = .ref cL) (hok : okD od = true) (hs : scopeB od = false) (l : Le B H) (hB : B PL = none) (t : Tbs T H) (hT : LamX.TabS H PL lamQ) (dO : Dt K B vo od)
    (hQ : ∀ a H3, Er.Lc PL H H3 → LamX.TabS H3 PL lamQ → H3 a = some (Er.ErrO (.ref C) none a) → Q (.ref a) H3) :
    WE (cxOf CX0 P w K mg base NL "law" (defScope sLaw) f cdv A outer s H0 E).nox caughtE [s0, s1, s2, s3, s4, s5, s6, some vo, s8, s9] H Q := by
  obtain ⟨g, fd, F, mgc, bi⟩ := FC.caught
  obtain ⟨oc, od', kV, doc, pm, an, cdv', ct, osl, rfl, lk, hcg⟩ := F.ex
  obtain ⟨CB, mB, hex⟩ := FC.cb
  obtain ⟨f2, fd2, g2, gV2, G2, m2, k2, b2, kb2, hg2⟩ := FK.le
  exact Er.caught_we (X := (cxOf CX0 P w K mg base NL "law" (defScope sLaw) f cdv A outer s H0 E).nox) (P0 := P) (w := w) (K := K) (mg := mg) (base := base) (T := T) (C := C) (CB := CB) (g := g) (c := cL) (P := PL) (k := 10) (i := 7) (d := od) (v := vo) (f := f2) (fd := fd2) (B := B) rfl rfl rfl rfl rfl rfl mgc F.kp lk hcg bi scCaught mB hex FC.tb hcd (hr.mono (by omega)) (by omega)
    ⟨rfl, rfl, rfl, by decide +kernel, (show ∀ y ∈ ([("odd", NameKind.free), ("letters", NameKind.globalImplicit)] : List (Str × NameKind)), y.2 = NameKind.free → List.lookup y.1 (defScope sLaw).names = some NameKind.cell ∨ List.lookup y.1 (defScope sLaw).names = some NameKind.free from by decide +kernel)⟩ rfl (fun _ _ _ _ _ => rfl) G2 m2 k2 b2 rfl rfl rfl rfl dO hok hs l hB FC.is t hT hQ
theorem turn_ok (FA : Facts P w K mg base T) (FK : FactsK P w K mg base T C) (FC : FactsC K mg base C cL PL) {d lw lc : Addr} {cdv : Value} {A : Around} {outer : List Env} {s : Shared} {H0 : Hp} {E : XK} {j m : Nat} {s0 s2 s3 s4 s5 s6 s7 s8 s9 : Option V} {B H : Hp} {D : L2.Ends}
    (hTD : ∀ a ∈ [d, lw, lc], a ∉ T) (hne : lw ≠ lc) (hr : Room j (A.deeper (envOfC "law" (defScope sLaw) s.heap.objs.size f cdv))) (hj : 12 ≤ j) (hcd : cdv = .ref cL)
    (l : Le B H) (ap : Apt [d, lw, lc] B) (hB : B PL = none) (jj : DJ d lw lc (m + 200) H) (t : Tbs T B) (hT : LamX.TabS H PL lamQ)
    (q : ∀ s3 s4 s5 s6 s7 s8 B' H', Le B B' → Le B' H' → Apt [d, lw, lc] B' → B' PL = none → DJ d lw lc m H' → LamX.TabS H' PL lamQ → D.nx [s0, some (.ref d), s2, s3, s4, s5, s6, s7, s8, s9] H') :
    WB (cxOf CX0 P w K mg base NL "law" (defScope sLaw) f cdv A outer s H0 E).nox turnBody D [s0, some (.ref d), s2, s3, s4, s5, s6, s7, s8, s9] H := by
  refine turn_half FA FK hTD hne hr hj l ap jj t fun vs vw v s6' vo od B6 H6 r6 u6 j6 dO => ?_
  obtain ⟨r1, r2, r3⟩ := r6
  have ap6 := u6.apt cells_DJ jj ap
  have t6 := t.le u6.b
  have hB6 : B6 PL = none := upx_pl u6 hB hT FC.is
  have hT6 : LamX.TabS H6 PL lamQ := tabS_lex u6.h jj FC.is hT
  have hok : okD od = true := cv_ok _ r1 (by omega)
  refine wb_cons (ws_set (i := 8) u6.s (isv_ok FA hr hj (k := 1) (by omega) r1 (by omega) t6 dO) (fun vb B7 H7 u7 db => ?_) ndLaw)
  cases db
  have ux7 : UpX [d, lw, lc] B6 H6 B7 H7 := .of u7
  have ap7 := ux7.apt cells_DJ j6 ap6
  have j7 := cells_DJ.le _ _ _ j6 u7.h
  have t7 := t6.le u7.b
  have hB7 : B7 PL = none := upx_pl ux7 hB6 hT6 FC.is
  have hT7 : LamX.TabS H7 PL lamQ := tabS_le u7.h FC.is hT6
  have dO7 := Dt.le u7.b dO
  have tail : ∀ H8, Le B7 H8 → DJ d lw lc (m + 11) H8 → LamX.TabS H8 PL lamQ → WB (cxOf CX0 P w K mg base NL "law" (defScope sLaw) f cdv A outer s H0 E).nox (turnBody.drop 8) D [s0, some (.ref d), s2, some vs, some vw, some v, s6', some vo, some (.bl (scopeB od)), s9] H8 := fun H8 l8 j8 hT8 => by
    refine wb_cons (ws_if (k := false) l8 (cond4_ok FA FK hr hj hok t7 dO7) (fun e => by cases e) fun _ H9 l9 => wb_nil ?_)
    have j9 := cells_DJ.le _ _ _ j8 l9
    have hT9 := tabS_le l9 FC.is hT8
    refine wb_one (ws_ifJ (m := m) (n := 1 + 0) (RB := fun b => b = false) (l8.trans l9) ap7 (cells_DJ.less _ _ _ j9 (by omega)) (bad_ok FA hTD hne hr hj t7) fun k H' lx lb jm rk => ?_)
    subst rk
    exact wb_nil (q _ _ _ _ _ _ B7 H' (u6.b.trans u7.b) lb ap7 hB7 jm (tabS_lex lx j9 FC.is hT9))
  refine wb_cons ⟨_, ps_if pt_w pss_w pss_w, cond3_wt FA.bl FC.c FC.exc FC.kit (PL := PL) (qn := lamQ) (fun hs H1 l1 Q hQ => caught_ok FC FK hr hj hcd hok hs (u7.s.trans l1) hB7 (t7.le (u7.s.trans l1)) (tabS_le l1 FC.is hT7) dO7 hQ) (fun H' l' => ?_) fun H' H3 l' lc' tb => ?_⟩
  · show (if false = true then _ else WB _ [] _ _ H')
    rw [if_neg Bool.false_ne_true]
    exact wb_nil (tail H' (u7.s.trans l') (cells_DJ.le _ _ _ j7 l') (tabS_le l' FC.is hT7))
  · show (if false = true then _ else WB _ [] _ _ H3)
    rw [if_neg Bool.false_ne_true]
    exact wb_nil (tail H3 (lc_le (u7.s.trans l') lc' hB7) (lc_dj (cells_DJ.le _ _ _ j7 l') lc' (tabS_le l' FC.is hT7)) tb)
end
end K0


set_option Elab.async false
set_option linter.all false
set_option maxRecDepth 100000
set_option maxHeartbeats 4000000
/-! Lz: law. -/
namespace K0
open PySem PySem.Spec PyProof.Rows L2 GxR Tk
variable [LamTab]
theorem tyx_sql {K : PySem.W.Frag} {H : Hp} {a : Addr} {xs : List V} (h : SqL K H a xs) : TyX K H (.ref a) (.type "list") := by
  rcases h with (h | ⟨o, h⟩) | ⟨o, its, n, h, c, _⟩
  · exact .base (.lst h)
  · exact .base (.frz h)
  · exact .kList h c
theorem ds_of_ints {K : PySem.W.Frag} {H : Hp} : ∀ ns : List Int, Ds K H (ns.map V.int) (ns.map PyData.int)
  | [] => .nil
  | n :: ns => .cons (.int n) (ds_of_ints ns)
/-- all but the table at PL -/
def hide (PL : Addr) (H : Hp) : Hp := fun a => if a = PL then none else H a
theorem hide_le {PL : Addr} {H : Hp} : Le (hide PL H) H := ⟨fun a o q _ => by
    have q' : (if a = PL then none else H a) = some o := q
    by_cases z : a = PL
    · rw [if_pos z] at q'; cases q'
    · rw [if_neg z] at q'; exact q', fun P' ⟨ps, q, r⟩ => by
    have q' : (if P' = PL then none else H P') = _ := q
    by_cases z : P' = PL
    · rw [if_pos z] at q'; cases q'
    · rw [if_neg z] at q'; exact ⟨ps, q', r⟩, fun a q => by
    show (if a = PL then none else H a) = none
    rw [q]
    exact ite_self _⟩
theorem hide_at {PL : Addr} {H : Hp} : hide PL H PL = none := if_pos rfl
theorem hide_sql {K : PySem.W.Frag} {PL a : Addr} {H : Hp} {xs : List V} {ps : Array Value} (hP : H PL = some (.tbl ps)) (h : SqL K H a xs) : SqL K (hide PL H) a xs := by
  have off : ∀ {o : HO}, H a = some o → (∀ ps, o ≠ .tbl ps) → hide PL H a = some o := fun {o} e n => by
    show (if a = PL then none else H a) = some o
    rw [if_neg fun z => n ps (by rw [z, hP] at e; exact (Option.some.inj e).symm)]
    exact e
  rcases h with (h | ⟨o, h⟩) | h
  · exact .inl (.inl (off h fun _ z => by cases z))
  · exact .inl (.inr ⟨o, off h fun _ z => by cases z⟩)
  · exact .inr h
def spLaw (K : PySem.W.Frag) (T : List Addr) (PL : Addr) : Sp := fun vs H Q _ => ∃ (a : Addr) (ns : List Int), vs = [.ref a] ∧ ns.length ≤ 63 ∧ SqL K H a (ns.map V.int) ∧ Tbs T H ∧ H PL = some (.tbl #[]) ∧ ∀ H', Q (.bl true) H'
theorem many_ok {n : Nat} (h : n = 399 ∨ n = 400 ∨ n = 401) : woodB (manyW n) = decide ((n : Int) ≤ 400) ∧ okD (manyW n) = true := by
  rcases h with rfl | rfl | rfl
  · exact ⟨many_399.1, many_399.2⟩
  · exact ⟨many_400.1, many_400.2⟩
  · exact ⟨many_401.1, many_401.2⟩
section
variable {P : Program} {w : World} {K : PySem.W.Frag} {mg : Str → Option Value} {base : Heap} {T : List Addr} {f C cL PL : Addr} {fd : FuncData}
def lastE : Expr := match defBody sLaw with
  | [_, _, _, .Return (some e) _] => e
  | _ => .Constant .none 0 ⟨0, 0, 0, 0⟩
theorem last_ok (FA : Facts P w K mg base T) {cdv : Value} {A : Around} {outer : List Env} {s : Shared} {H0 : Hp} {E : XK} {j n : Nat} {s0 s1 s2 s3 s4 s5 s6 s7 s8 : Option V} {B : Hp}
    (hr : Room j (A.deeper (envOfC "law" (defScope sLaw) s.heap.objs.size f cdv))) (hj : 12 ≤ j) (t : Tbs T B) (hn : n = 399 ∨ n = 400 ∨ n = 401) :
    EE (cxOf CX0 P w K mg base NL "law" (defScope sLaw) f cdv A outer s H0 E).nox lastE [s0, s1, s2, s3, s4, s5, s6, s7, s8, some (.int (n : Int))] B (.bool true) := by
  obtain ⟨m1, m2⟩ := many_ok hn
  refine (ee_cmp op_eq rr_eqS (ee_reprB FA.rp (ee_call (f := woodF) (d := .bool (woodB (manyW n))) FA.isW hr (by omega) t (ea_cons (ee_tup (ea_cons ee_str (ea_cons (ee_tup ea_nil (Nat.zero_le _)) (ea_cons (ee_op op_repT (rr_repT (xs := [.tuple [.tuple [], .int 0, .int ((n : Int) - 1)]]) (k := (n : Int)) (by simp) (by omega) (by omega) (by show 1 ≤ 1000; decide)) (ee_tup (ea_cons (ee_tup (ea_cons (ee_tup ea_nil (Nat.zero_le _)) (ea_cons ee_int (ea_cons (ee_op op_sub rr_sub (ee_var (i := 9) rfl (.int _)) ee_int) ea_nil))) (by show 3 ≤ sizeLine; decide)) ea_nil) (by show 1 ≤ sizeLine; decide)) (ee_var (i := 9) rfl (.int _))) ea_nil))) (by show 3 ≤ sizeLine; decide)) ea_nil) ⟨_, rfl, m2⟩)) (ee_reprB FA.rp (ee_cmp op_le rr_le (ee_var (i := 9) rfl (.int _)) ee_int))).cast ?_
  rw [m1]
  exact congrArg PyData.bool (decide_eq_true rfl)
theorem ok_law (FA : Facts P w K mg base T) (FK : FactsK P w K mg base T C) (FC : FactsC K mg base C cL PL) (FB : ∃ (fb : Addr) (fdb : FuncData), FnOk P w K mg base CX0 1 fb fdb ["script"] (spBegun K) ∧ mg "_law_begun" = some (.ref fb) ∧ PySem.W.keepIn K (.ref fb) = true ∧ Binds K fdb ["script"] [])
    (F : L2.Fun K "law" "law" sLaw f fd) (hc : fd.code = .ref cL) : FnOk P w K mg base CX0 13 f fd ["script"] (spLaw K T PL) := by
  refine fn_any F scLaw (fun vs H Q E h => by obtain ⟨a, ns, rfl, _⟩ := h; rfl) fun cdv A outer s H vs Q E hr hcd h => ?_
  obtain ⟨a, ns, rfl, hn, hS, t, hPL, q⟩ := h
  obtain ⟨fb, fdb, Gb, mb, kb, bb⟩ := FB
  have hcd' : cdv = .ref cL := hcd.symm.trans hc
  have lB : Le (hide PL H) H := hide_le
  have da : Dt K (hide PL H) (.ref a) (.list (ns.map PyData.int)) := .lst (hide_sql hPL hS) (tyx_sql (hide_sql hPL hS)) (ds_of_ints ns)
  have tB : Tbs T (hide PL H) := fun P' hP' => by
    obtain ⟨⟨ps, e, r⟩, nz⟩ := t P' hP'
    refine ⟨⟨ps, ?_, r⟩, nz⟩
    show (if P' = PL then none else H P') = _
    rw [if_neg fun z => nz (by rw [z]; exact FC.is)]
    exact e
  have hT0 : LamX.TabS H PL lamQ := ⟨#[], hPL, trivial, fun p cv hc => by cases hc⟩
  refine wb_cons ⟨_, ps_set (i := 1) ndLaw rfl (by first | exact Or.inl rfl | exact Or.inr rfl) (pe_call (E := L2.E0) Gb (hr.mono (by decide)) rfl mb kb bb .nil pass0 (pa_cons (pe_var (i := 0) rfl (by first | exact Or.inl rfl | exact Or.inr (Or.inl rfl) | exact Or.inr (Or.inr rfl))) pa_nil) (by decide) rfl rfl) rfl (by first | exact Or.inl rfl | exact Or.inr rfl), .ref a, rfl, ?_⟩
  refine ⟨a, hide PL H, ns, rfl, lB, da, by omega, fun d lw lc H' lH hd hlw hlc hne jj => ?_⟩
  have nT : ∀ b, H b = none → b ∉ T := fun b e z => by
    obtain ⟨⟨ps, e2, _⟩, _⟩ := t b z
    rw [e] at e2
    cases e2
  have hTD : ∀ b ∈ [d, lw, lc], b ∉ T := fun b hb => by
    rcases List.mem_cons.mp hb with z | z
    · rw [z]; exact nT d hd
    rcases List.mem_cons.mp z with z | z
    · rw [z]; exact nT lw hlw
    · rw [List.mem_singleton.mp z]; exact nT lc hlc
  have ap : Apt [d, lw, lc] (hide PL H) := fun b hb => by
    have : H b = none := by
      rcases List.mem_cons.mp hb with z | z
      · rw [z]; exact hd
      rcases List.mem_cons.mp z with z | z
      · rw [z]; exact hlw
      · rw [List.mem_singleton.mp z]; exact hlc
    exact lB.there b this
  have hT1 : LamX.TabS H' PL lamQ := tabS_le lH FC.is hT0
  have l1 : Le (hide PL H) H' := lB.trans lH
  have hlen : ((ns.map PyData.int).length : Int) ≤ 63 := by rw [List.length_map]; omega
  refine wb_cons (ws_for (ds := upto (3 + (if (9 : Int) < ((ns.map PyData.int).length : Int) then 9 else ((ns.map PyData.int).length : Int))).toNat) (tjs := [2]) (pat := patN) l1 (ei_range FA.bl.range (ee_op op_add rr_add ee_int (ee_min2 rfl FA.mn (ee_len FA.bl (ee_var (i := 0) rfl da) rfl fun x z => by cases z) ee_int)) (by split <;> omega) (by split <;> omega)) (eg_name ndLaw) (fun d hd => ⟨[d], rfl⟩) PassesOwn.never rfl
    (fun i σ' B' H' => ∃ s2 s3 s4 s5 s6 s7 s8, σ' = [some (.ref a), some (.ref d), s2, s3, s4, s5, s6, s7, s8, none] ∧ Le (hide PL H) B' ∧ Apt [d, lw, lc] B' ∧ B' PL = none ∧ DJ d lw lc (100 + 200 * (12 - i)) H' ∧ LamX.TabS H' PL lamQ)
    (fun B' H2 u => ⟨none, none, none, none, none, none, none, rfl, u.b, (UpX.of u).apt cells_DJ jj ap, upx_pl (D := []) (.of u) hide_at hT1 FC.is, cells_DJ.less _ _ _ (cells_DJ.le _ _ _ jj u.h) (by decide), tabS_le u.h FC.is hT1⟩) (fun i x es us σ' B' H2 B'' H'' hi hd' lb hI u4 he dvs N hN => ?_) fun σ' B' H2 lb ls hI => ?_)
  · obtain ⟨s2, s3, s4, s5, s6, s7, s8, rfl, lB', ap', hB', j', hT'⟩ := hI
    have hi12 : i < 12 := by
      have : i < (3 + (if (9 : Int) < ((ns.map PyData.int).length : Int) then 9 else ((ns.map PyData.int).length : Int))).toNat := by
        have z := hi
        unfold upto at z
        rw [List.length_map, List.length_range] at z
        exact z
      split at this <;> omega
    cases he
    obtain ⟨y, rfl, hy⟩ := ds1 (K := K) dvs
    have ux : UpX [d, lw, lc] B' H2 B'' H'' := .of u4
    refine turn_ok FA FK FC (m := 100 + 200 * (12 - (i + 1))) (B := B'') hTD hne hr (by decide) hcd' u4.s (ux.apt cells_DJ j' ap') (upx_pl ux hB' hT' FC.is) ?_ (tB.le (lB'.trans u4.b)) (tabS_le u4.h FC.is hT') fun s3' s4' s5' s6' s7' s8' B3 H3 l3 l4 ap3 hB3 j3 hT3 => hN _ B3 H3 l3 l4 ⟨_, s3', s4', s5', s6', s7', s8', rfl, (lB'.trans u4.b).trans l3, ap3, hB3, j3, hT3⟩
    rw [show 100 + 200 * (12 - (i + 1)) + 200 = 100 + 200 * (12 - i) by omega]
    exact cells_DJ.le _ _ _ j' u4.h
  · obtain ⟨s2, s3, s4, s5, s6, s7, s8, rfl, lB', ap', hB', j', hT'⟩ := hI
    refine wb_cons (ws_setJ (i := 9) (m := 0) (n := 1) (R := (· ∈ [PyData.int 399, .int 400, .int 401])) ls ap' (cells_DJ.less _ _ _ j' (by omega)) (ej_pick (FA.pick d lw lc hTD hne) hr (by decide) (tB.le lB') (i := 1) rfl (ee_lst (ea_cons ee_int (ea_cons ee_int (ea_cons ee_int ea_nil))) (by show 3 ≤ sizeLine; decide)) (by show 0 < 3; decide) (by show 3 < 1000000; decide)) (fun vm dm B3 H3 u3 j3 dvm r => ?_) ndLaw)
    have hm : ∃ n : Nat, dm = .int (n : Int) ∧ (n = 399 ∨ n = 400 ∨ n = 401) := by
      simp only [List.mem_cons, List.not_mem_nil, or_false] at r
      rcases r with rfl | rfl | rfl
      · exact ⟨399, rfl, .inl rfl⟩
      · exact ⟨400, rfl, .inr (.inl rfl)⟩
      · exact ⟨401, rfl, .inr (.inr rfl)⟩
    obtain ⟨n, rfl, hn3⟩ := hm
    cases dvm
    refine wb_one (ws_ret (d := .bool true) u3.s (last_ok FA hr (by decide) (tB.le (lB'.trans u3.b)) hn3) fun v B4 H4 u4 dv => ?_)
    cases dv
    exact q H4
end
end K0


set_option Elab.async false
set_option linter.all false
set_option maxRecDepth 100000
set_option maxHeartbeats 4000000
/-! Lend: all of the program that law reaches keeps its promise. -/
namespace K0
open PySem PySem.Spec PyProof.Rows L2 GxR Tk
/-- where a def stands -/
structure DefAt (K : PySem.W.Frag) (x : Str) (st : Stmt) : Prop where
  ex : ∃ f fd, PySem.W.nsIn K mainGlobals x = some (some (.ref f)) ∧ L2.Fun K x x st f fd
/-- where a def stands whose code object, at c, has its table at Pt -/
structure TabAt (K : PySem.W.Frag) (x : Str) (st : Stmt) (c Pt : Addr) : Prop where
  ex : ∃ f fd, PySem.W.nsIn K mainGlobals x = some (some (.ref f)) ∧ L2.Fun K x x st f fd ∧ fd.code = .ref c
  tab : PySem.W.tabIn K x = some (c, Pt)
  no : K.lookup Pt = none
theorem defAt {K : PySem.W.Frag} {x : Str} {st : Stmt} {f : Addr} {od an : Option Addr} {sl : Array (Option Value)} {oc kV dc pm cd ct : Value}
    (a : PySem.W.nsIn K mainGlobals x = some (some (.ref f))) (l : K.lookup f = some ⟨oc, od, .func (PySem.W.fnOf x x (defArgs st) (defBody st) (defScope st) .none kV dc pm an cd ct), sl⟩) (c : PySem.W.codeIn K cd x = true) (k : PySem.W.keepIn K (.ref f) = true) : DefAt K x st :=
  ⟨_, _, a, fun_mk l c k⟩
theorem tabIn_of {K : PySem.W.Frag} {x : Str} {f cc Pt : Addr} {od dd : Option Addr} {sl sl2 : Array (Option Value)} {oc e : Value} {fd : FuncData} {vs : Array Value} (a : PySem.W.nsIn K mainGlobals x = some (some (.ref f)))
    (l : K.lookup f = some ⟨oc, od, .func fd, sl⟩) (hc : fd.code = .ref cc) (lc : K.lookup cc = some ⟨e, dd, .fields vs, sl2⟩) (v : vs[11]? = some (.ref Pt)) : PySem.W.tabIn K x = some (cc, Pt) := by
  unfold PySem.W.tabIn
  simp only [a, l, hc, lc, v]
theorem tabAt {K : PySem.W.Frag} {x : Str} {st : Stmt} {f cc Pt : Addr} {od an dd : Option Addr} {sl sl2 : Array (Option Value)} {oc kV dc pm ct e : Value} {vs : Array Value}
    (a : PySem.W.nsIn K mainGlobals x = some (some (.ref f))) (l : K.lookup f = some ⟨oc, od, .func (PySem.W.fnOf x x (defArgs st) (defBody st) (defScope st) .none kV dc pm an (.ref cc) ct), sl⟩) (c : PySem.W.codeIn K (.ref cc) x = true) (k : PySem.W.keepIn K (.ref f) = true) (lc : K.lookup cc = some ⟨e, dd, .fields vs, sl2⟩) (v : vs[11]? = some (.ref Pt)) (no : K.lookup Pt = none) : TabAt K x st cc Pt :=
  ⟨⟨_, _, a, fun_mk l c k, rfl⟩, tabIn_of a l rfl lc v, no⟩
/-- the classes of errors -/
structure ErrAt (K : PySem.W.Frag) (C CB : Addr) : Prop where
  gS : PySem.W.nsIn K mainGlobals "BadScope" = some (some (.ref C))
  gB : PySem.W.nsIn K mainGlobals "BoughError" = some (some (.ref CB))
  xS : PySem.W.excIn K C [.type "ValueError", .type "Exception", .type "BaseException", .type "object"] "ValueError.__new__" = true
  kS : PySem.W.keepIn K (.ref C) = true
  bS : PySem.W.subIn K (.ref C) (.type "BaseException") = some true
  tS : PySem.W.typeIn K (.ref C) = some (.type "type")
  bB : PySem.W.subIn K (.ref CB) (.type "BaseException") = some true
  dB : PySem.W.hasDictIn K CB = true
  tB : PySem.W.typeIn K (.ref CB) = some (.type "type")
  sB : PySem.W.subIn K (.ref C) (.ref CB) = some true
  hg : PySem.W.findIn K (.ref C) "__getattribute__" = some (some (.builtin "BaseException.__getattribute__"))
  hk : PySem.W.findIn K (.ref C) "__getattr__" = some none
  hd : PySem.W.hasDictIn K C = true
  ha : PySem.W.findIn K (.ref C) "__class__" = some (some (.builtin "object.__class__"))
  hn : PySem.W.specialIn K (.builtin "object.__class__") "__get__" = some (some (.builtin "getset_descriptor.__get__"))
  ht : PySem.W.takesIn K (.builtin "object.__class__") = some true
  hm : PySem.W.mroIn K C (.type "object") = some true
structure FreeAt (K : PySem.W.Frag) : Prop where
  z1 : PySem.W.nsIn K mainGlobals "isinstance" = some none
  z2 : PySem.W.nsIn K mainGlobals "int" = some none
  z3 : PySem.W.nsIn K mainGlobals "bool" = some none
  z4 : PySem.W.nsIn K mainGlobals "str" = some none
  z5 : PySem.W.nsIn K mainGlobals "tuple" = some none
  z6 : PySem.W.nsIn K mainGlobals "list" = some none
  z7 : PySem.W.nsIn K mainGlobals "dict" = some none
  z8 : PySem.W.nsIn K mainGlobals "len" = some none
  z9 : PySem.W.nsIn K mainGlobals "all" = some none
  z10 : PySem.W.nsIn K mainGlobals "any" = some none
  z11 : PySem.W.nsIn K mainGlobals "range" = some none
  z12 : PySem.W.nsIn K mainGlobals "enumerate" = some none
  z13 : PySem.W.nsIn K mainGlobals "repr" = some none
  z14 : PySem.W.nsIn K mainGlobals "min" = some none
  z15 : PySem.W.nsIn K mainGlobals "sorted" = some none
  z16 : PySem.W.nsIn K mainGlobals "set" = some none
  z17 : PySem.W.nsIn K mainGlobals "abs" = some none
structure AllAt (K : PySem.W.Frag) : Prop where
  num : DefAt K "is_number" sNum
  head : DefAt K "is_headed" sHead
  row : DefAt K "is_row" sRow
  name : DefAt K "is_name" sName
  node : DefAt K "is_node" sNode
  isw : DefAt K "is_wood" sWood
  letOf : DefAt K "letters_of" sLetOf
  letters : DefAt K "letters" sLetters
  begun : DefAt K "_law_begun" sBegun
  mix : DefAt K "_law_mixed" sMix
  take : DefAt K "_law_take" sTake
  pick : DefAt K "_law_pick" sPick
  shuf : DefAt K "_law_shuffled" sShuf
  caught : DefAt K "_law_caught" t__law_caught
  names : DefAt K "_law_names" sNames
  scope : DefAt K "_law_scope" sLScope
  llet : DefAt K "_law_letters" sLLet
  wood : DefAt K "_law_wood" sLWood
  bad : DefAt K "_law_bad_wood" sLBad
  paths : DefAt K "_law_paths" sLPaths
  part : DefAt K "_law_part" sLPart
  put : DefAt K "_law_put" sLPut
  odd : DefAt K "_law_odd" sLOdd
  bent : DefAt K "_law_bent" sLBent
  lnum : DefAt K "_law_is_number" sLNum
  lare : DefAt K "_law_are_names" sLAre
  lisw : DefAt K "_law_is_wood" sLIsW
  most : ∃ t, PySem.W.nsIn K mainGlobals "MOST_NODES" = some (some (.int 400 t))
theorem keptAt {K : PySem.W.Frag} {mg : Str → Option Value} {a : Addr} {its : Array Value} {n : Nat} {sl : Array (Option Value)} {od : Option Addr} (m : mg "KEPT" = some (.ref a)) (l : K.lookup a = some ⟨.type "tuple", od, .seq its n, sl⟩) (h : Vals (keptS.map V.str) its.toList) : Kept K mg := by
  have hl := h.length
  rw [List.length_map] at hl
  refine ⟨a, m, fun H => .tup (.inr ⟨_, its, n, l, rfl, rfl, by rw [← Array.length_toList, ← hl]; decide, h⟩) (.kTuple l rfl) ?_⟩
  have : ∀ xs : List Str, Ds K H (xs.map V.str) (xs.map PyData.str) := fun xs => by
    induction xs with
    | nil => exact .nil
    | cons x xs ih => exact .cons (.str x) ih
  exact this keptS
/-- one parameter, by name -/
theorem kb1 {K : PySem.W.Frag} {x y : Str} {st : Stmt} {f : Addr} {fd : FuncData} (F : L2.Fun K x x st f fd)
    (hb : ∀ (kV doc pm : Value) (an : Option Addr) (cdv ct w : Value), bindArgs (PySem.W.fnOf x x (defArgs st) (defBody st) (defScope st) Value.none kV doc pm an cdv ct) { pos := [], kw := [(y, w)] } = pure [(y, w)]) :
    KBinds K fd [y] [y] (fun us ws => match us with | [] => ws | _ => []) (fun vs zs => match vs with | [] => zs | _ => []) := by
  obtain ⟨oc, od, kV, doc, pm, an, cdv, ct, osl, rfl, _, _⟩ := F.ex
  refine ⟨fun s us ws _ hl => ?_, fun {vs us zs ws} r1 r2 => ?_⟩
  · cases us with
    | nil =>
      match ws, hl with
      | [w], _ => exact .of_eq (hb kV doc pm an cdv ct w)
    | cons u us => cases hl
  · cases r1 with
    | nil => exact r2
    | cons _ _ => exact .nil
section
variable {l : PySem.W.OpenLaw} {w : World} {K : PySem.W.Frag} {h : Heap} {mg : Str → Option Value} {fa C CB c1 c2 cL P1 P2 PL : Addr}
theorem law_at (X : K.In h) (G : h.Ns mainGlobals mg) (hfa : mg "law" = some (.ref fa)) (t1 : TabAt K "ascends" sAsc c1 P1) (t2 : TabAt K "is_scope" sScope c2 P2) (tL : TabAt K "law" sLaw cL PL)
    (D : AllAt K) (er : ErrAt K C CB) (fr : FreeAt K) (kp : Kept K mg) (ne : ∀ P ∈ [P1, P2], P ≠ PL)
    (tabs : ∀ y ∈ (["ascends", "is_scope", "law"] : List Str), ∀ c P, PySem.W.tabIn K y = some (c, P) → PySem.W.CodeHd h c P ∧ h.get? P = some { cls := .none, data := .fields #[] }) :
    LamX.LawAtS l w K CX0 13 63 "script" mg fa h := by
  have hcs : ∀ p ∈ [(c1, P1), (c2, P2), (cL, PL)], PySem.W.CodeHd h p.1 p.2 ∧ h.get? p.2 = some { cls := .none, data := .fields #[] } := fun p hp => by
    simp only [List.mem_cons, List.not_mem_nil, or_false] at hp
    rcases hp with rfl | rfl | rfl
    · exact tabs _ (by simp) _ _ t1.tab
    · exact tabs _ (by simp) _ _ t2.tab
    · exact tabs _ (by simp) _ _ tL.tab
  letI : LamTab := ⟨fun a => a = PL⟩
  obtain ⟨fL, fdL, nL, FL, hcL⟩ := tL.ex
  have eL := hfa.symm.trans (PySem.W.mg_of X G nL)
  cases eL
  have mgd : ∀ {x : Str} {st : Stmt}, DefAt K x st → ∃ f fd, mg x = some (.ref f) ∧ L2.Fun K x x st f fd := fun d => by
    obtain ⟨f, fd, a, F⟩ := d.ex
    exact ⟨f, fd, PySem.W.mg_of X G a, F⟩
  have mgt : ∀ {x : Str} {st : Stmt} {c Pt : Addr}, TabAt K x st c Pt → ∃ f fd, mg x = some (.ref f) ∧ L2.Fun K x x st f fd ∧ fd.code = .ref c := fun d => by
    obtain ⟨f, fd, a, F, e⟩ := d.ex
    exact ⟨f, fd, PySem.W.mg_of X G a, F, e⟩
  have BL : Blt mg := ⟨PySem.W.mg_none_of X G fr.z1, PySem.W.mg_none_of X G fr.z2, PySem.W.mg_none_of X G fr.z3, PySem.W.mg_none_of X G fr.z4, PySem.W.mg_none_of X G fr.z5, PySem.W.mg_none_of X G fr.z6, PySem.W.mg_none_of X G fr.z7, PySem.W.mg_none_of X G fr.z8, PySem.W.mg_none_of X G fr.z9, PySem.W.mg_none_of X G fr.z10, PySem.W.mg_none_of X G fr.z11, PySem.W.mg_none_of X G fr.z12⟩
  have hrp := PySem.W.mg_none_of X G fr.z13
  have hmn := PySem.W.mg_none_of X G fr.z14
  have hso := PySem.W.mg_none_of X G fr.z15
  have hse := PySem.W.mg_none_of X G fr.z16
  have hab := PySem.W.mg_none_of X G fr.z17
  have gS := PySem.W.mg_of X G er.gS
  have gB := PySem.W.mg_of X G er.gB
  have hmost : ∃ t, mg "MOST_NODES" = some (.int 400 t) := by
    obtain ⟨t, e⟩ := D.most
    exact ⟨t, PySem.W.mg_of X G e⟩
  obtain ⟨f1, d1, m1, F1⟩ := mgd D.num
  obtain ⟨f2, d2, m2, F2⟩ := mgd D.head
  obtain ⟨f3, d3, m3, F3⟩ := mgd D.row
  obtain ⟨g2, e2, n2, G2⟩ := mgd D.name
  obtain ⟨g4, e4, n4, G4⟩ := mgd D.node
  obtain ⟨g5, e5, n5, G5⟩ := mgd D.isw
  obtain ⟨f5, d5, m5, F5⟩ := mgd D.letOf
  obtain ⟨f6, d6, m6, F6⟩ := mgd D.letters
  obtain ⟨f7, d7, m7, F7⟩ := mgd D.begun
  obtain ⟨f8, d8, m8, F8⟩ := mgd D.mix
  obtain ⟨f9, d9, m9, F9⟩ := mgd D.take
  obtain ⟨f10, d10, m10, F10⟩ := mgd D.pick
  obtain ⟨f11, d11, m11, F11⟩ := mgd D.shuf
  obtain ⟨f12, d12, m12, F12⟩ := mgd D.caught
  obtain ⟨f13, d13, m13, F13⟩ := mgd D.names
  obtain ⟨f14, d14, m14, F14⟩ := mgd D.scope
  obtain ⟨f15, d15, m15, F15⟩ := mgd D.llet
  obtain ⟨f16, d16, m16, F16⟩ := mgd D.wood
  obtain ⟨f17, d17, m17, F17⟩ := mgd D.bad
  obtain ⟨f18, d18, m18, F18⟩ := mgd D.paths
  obtain ⟨f19, d19, m19, F19⟩ := mgd D.part
  obtain ⟨f20, d20, m20, F20⟩ := mgd D.put
  obtain ⟨f21, d21, m21, F21⟩ := mgd D.odd
  obtain ⟨f22, d22, m22, F22⟩ := mgd D.bent
  obtain ⟨f23, d23, m23, F23⟩ := mgd D.lnum
  obtain ⟨f24, d24, m24, F24⟩ := mgd D.lare
  obtain ⟨f25, d25, m25, F25⟩ := mgd D.lisw
  obtain ⟨g1, e1, n1, G1, k1⟩ := mgt t1
  obtain ⟨g3, e3, n3, G3, k3⟩ := mgt t2
  have b1 := F1.binds (ps := ["thing", "limit"]) fun _ _ _ _ _ _ us hl => match us, hl with | [_, _], _ => rfl
  have b2 := F2.binds (ps := ["thing", "word", "size"]) fun _ _ _ _ _ _ us hl => match us, hl with | [_, _, _], _ => rfl
  have b3 := F3.binds (ps := ["thing", "least", "most"]) fun _ _ _ _ _ _ us hl => match us, hl with | [_, _, _], _ => rfl
  have b5 := F5.binds (ps := ["scope"]) fun _ _ _ _ _ _ us hl => match us, hl with | [_], _ => rfl
  have b6 := F6.binds (ps := ["scope"]) fun _ _ _ _ _ _ us hl => match us, hl with | [_], _ => rfl
  have b7 := F7.binds (ps := ["script"]) fun _ _ _ _ _ _ us hl => match us, hl with | [_], _ => rfl
  have b8 := F8.binds (ps := ["draw"]) fun _ _ _ _ _ _ us hl => match us, hl with | [_], _ => rfl
  have b9 := F9.binds (ps := ["draw", "many"]) fun _ _ _ _ _ _ us hl => match us, hl with | [_, _], _ => rfl
  have b10 := F10.binds (ps := ["draw", "some"]) fun _ _ _ _ _ _ us hl => match us, hl with | [_, _], _ => rfl
  have b11 := F11.binds (ps := ["draw", "some"]) fun _ _ _ _ _ _ us hl => match us, hl with | [_, _], _ => rfl
  have b12 := F12.binds (ps := ["work"]) fun _ _ _ _ _ _ us hl => match us, hl with | [_], _ => rfl
  have b13 := F13.binds (ps := ["draw", "many"]) fun _ _ _ _ _ _ us hl => match us, hl with | [_, _], _ => rfl
  have b14 := F14.binds (ps := ["draw", "most"]) fun _ _ _ _ _ _ us hl => match us, hl with | [_, _], _ => rfl
  have b15 := F15.binds (ps := ["scope"]) fun _ _ _ _ _ _ us hl => match us, hl with | [_], _ => rfl
  have b16 := F16.binds (ps := ["draw", "scope", "most"]) fun _ _ _ _ _ _ us hl => match us, hl with | [_, _, _], _ => rfl
  have b17 := F17.binds (ps := ["draw"]) fun _ _ _ _ _ _ us hl => match us, hl with | [_], _ => rfl
  have b18 := F18.binds (ps := ["thing"]) fun _ _ _ _ _ _ us hl => match us, hl with | [_], _ => rfl
  have b19 := F19.binds (ps := ["thing", "path"]) fun _ _ _ _ _ _ us hl => match us, hl with | [_, _], _ => rfl
  have b20 := F20.binds (ps := ["thing", "path", "part"]) fun _ _ _ _ _ _ us hl => match us, hl with | [_, _, _], _ => rfl
  have b21 := F21.binds (ps := ["draw", "part", "words"]) fun _ _ _ _ _ _ us hl => match us, hl with | [_, _, _], _ => rfl
  have b22 := F22.binds (ps := ["draw", "thing", "words"]) fun _ _ _ _ _ _ us hl => match us, hl with | [_, _, _], _ => rfl
  have b23 := F23.binds (ps := ["thing", "end"]) fun _ _ _ _ _ _ us hl => match us, hl with | [_, _], _ => rfl
  have b24 := F24.binds (ps := ["thing"]) fun _ _ _ _ _ _ us hl => match us, hl with | [_], _ => rfl
  have b25 := F25.binds (ps := ["thing"]) fun _ _ _ _ _ _ us hl => match us, hl with | [_], _ => rfl
  have a1 := G1.binds (ps := ["items"]) fun _ _ _ _ _ _ us hl => match us, hl with | [_], _ => rfl
  have a2 := G2.binds (ps := ["thing"]) fun _ _ _ _ _ _ us hl => match us, hl with | [_], _ => rfl
  have a3 := G3.binds (ps := ["thing"]) fun _ _ _ _ _ _ us hl => match us, hl with | [_], _ => rfl
  have a4 := G4.binds (ps := ["thing", "known", "many"]) fun _ _ _ _ _ _ us hl => match us, hl with | [_, _, _], _ => rfl
  have a5 := G5.binds (ps := ["thing"]) fun _ _ _ _ _ _ us hl => match us, hl with | [_], _ => rfl
  have kbW := kb1 (y := "thing") G5 fun _ _ _ _ _ _ _ => rfl
  have kbL := kb1 (y := "scope") F6 fun _ _ _ _ _ _ _ => rfl
  have exS : ExcC K C := ⟨er.hg, er.hk, er.bS, er.hd, er.ha, er.hn, er.ht, er.hm⟩
  have exm : PySem.W.exmOne K (.ref C) (.ref CB) = some true := PySem.W.exm_ref er.bB er.dB er.tB er.sB
  have kit : PySem.W.kitOne K (.ref C) (.ref C) = some true := if_pos (by simp)
  have bL := FL.binds (ps := ["script"]) fun _ _ _ _ _ _ us hl => match us, hl with | [_], _ => rfl
  refine ⟨fdL, [(c1, P1), (c2, P2), (cL, PL)], spLaw K [P1, P2] PL, fun p hp => (hcs p hp).2, fun p hp => ?_, fun p hp => (hcs p hp).1, fun s u => ?_, fun H a ns hl _ hH hS => ⟨a, ns, rfl, hl, hS, fun P hP => ?_, hH (cL, PL) (by simp), fun _ => rfl⟩, fun base kin gn TB => ?_⟩
  · simp only [List.mem_cons, List.not_mem_nil, or_false] at hp
    rcases hp with rfl | rfl | rfl
    · exact t1.no
    · exact t2.no
    · exact tL.no
  · obtain ⟨oc, od, kV, doc, pm, an, cdv, ct, osl, rfl, _, _⟩ := FL.ex
    exact .of_eq rfl
  · refine ⟨⟨#[], ?_, trivial⟩, ne P hP⟩
    simp only [List.mem_cons, List.not_mem_nil, or_false] at hP
    rcases hP with rfl | rfl
    · exact hH (c1, P) (by simp)
    · exact hH (c2, P) (by simp)
  · have tb : ∀ {c Pt : Addr}, (c, Pt) ∈ [(c1, P1), (c2, P2), (cL, PL)] → GxR.TabB base mg c Pt := fun {c Pt} hm => by
      have z := TB (c, Pt) hm
      exact ⟨z.code, z.bm, z.gP⟩
    have K1 : Kn l.prog w K mg base 1 "is_number" ["thing", "limit"] (spF K [P1, P2] 2 numP numF) := Kn.mk' F1 m1 (ok_num BL F1) b1
    have K2 : Kn l.prog w K mg base 1 "is_headed" ["thing", "word", "size"] (spF K [P1, P2] 3 headP headF) := Kn.mk' F2 m2 (ok_head BL F2) b2
    have K3 : Kn l.prog w K mg base 1 "is_row" ["thing", "least", "most"] (spF K [P1, P2] 3 rowP rowF) := Kn.mk' F3 m3 (ok_row BL F3) b3
    have KA : Kn l.prog w K mg base 2 "ascends" ["items"] (spF K [P1, P2] 1 ascP ascF) := Kn.mk' G1 n1 (ok_asc BL G1 k1 (tb (c := c1) (Pt := P1) (by simp)) (by simp)) a1
    have KN : Kn l.prog w K mg base 2 "is_name" ["thing"] (spF K [P1, P2] 1 nameP nameF) := Kn.mk' G2 n2 (ok_name BL kp G2) a2
    have KS : Kn l.prog w K mg base 4 "is_scope" ["thing"] (spF K [P1, P2] 1 nameP scopeF) := Kn.mk' G3 n3 (ok_scope BL K3 KN KA G3 k3 (tb (c := c2) (Pt := P2) (by simp)) (by simp)) a3
    have K5 : Kn l.prog w K mg base 2 "letters_of" ["scope"] (spF K [P1, P2] 1 letOfP letOfF) := Kn.mk' F5 m5 (ok_letOf BL F5) b5
    have KD : Kn l.prog w K mg base 2 "is_node" ["thing", "known", "many"] (spF K [P1, P2] 3 nodeP nodeF) := Kn.mk' G4 n4 (ok_node BL K1 G4) a4
    have okW : FnOk l.prog w K mg base CX0 5 g5 e5 ["thing"] (spF K [P1, P2] 1 nameP woodF) := ok_wood BL hmost K3 K2 KS K5 KD G5
    have okL : FnOk l.prog w K mg base (L2.CX l.prog w) 5 f6 d6 ["scope"] (spLetters K [P1, P2] C) := ok_letters BL KS K5 er.xS gS er.kS er.bS er.tS F6
    have K15 : KnLet l.prog w K mg base [P1, P2] := Kn.mk' F15 m15 (ok_llet F15) b15
    have K23 : Kn l.prog w K mg base 1 "_law_is_number" ["thing", "end"] (spF K [P1, P2] 2 numP numF) := Kn.mk' F23 m23 (ok_lnum BL F23) b23
    have K24 : Kn l.prog w K mg base 1 "_law_are_names" ["thing"] (spF K [P1, P2] 1 areP areF) := Kn.mk' F24 m24 (ok_lare BL hso hse F24) b24
    have K25 : ∀ k, k ≤ 18 → Kn l.prog w K mg base 2 "_law_is_wood" ["thing"] (spF K [P1, P2] 1 (lisP k) lisF) := fun k hk => Kn.mk' F25 m25 (ok_lisw BL K24 K23 F25 hk) b25
    have K18 : Kn l.prog w K mg base 11 "_law_paths" ["thing"] (spF K [P1, P2] 1 (pathsPre 10) pathsF) := all_paths BL F18 m18 b18 10
    have K19 : Kn l.prog w K mg base 11 "_law_part" ["thing", "path"] (spF K [P1, P2] 2 (partP 10) partF) := all_part F19 m19 b19 10
    have K20 : Kn l.prog w K mg base 11 "_law_put" ["thing", "path", "part"] (spF K [P1, P2] 3 (putPre 10) putF) := all_put F20 m20 b20 10
    have J9 : ∀ d lw lc, (∀ a ∈ [d, lw, lc], a ∉ [P1, P2]) → lw ≠ lc → KnTake l.prog w K mg base [P1, P2] d lw lc := fun d lw lc hTD hne => Kn.mk' F9 m9 (ok_take BL hTD hne (Kn.mk' F8 m8 (ok_mix BL hTD F8) b8) F9) b9
    have J10 : ∀ d lw lc, (∀ a ∈ [d, lw, lc], a ∉ [P1, P2]) → lw ≠ lc → KnPick l.prog w K mg base [P1, P2] d lw lc := fun d lw lc hTD hne => Kn.mk' F10 m10 (ok_pick BL hTD (J9 d lw lc hTD hne) F10) b10
    have J11 : ∀ d lw lc, (∀ a ∈ [d, lw, lc], a ∉ [P1, P2]) → lw ≠ lc → KnShuf l.prog w K mg base [P1, P2] d lw lc := fun d lw lc hTD hne => Kn.mk' F11 m11 (ok_shuf BL hTD (J9 d lw lc hTD hne) F11) b11
    have J13 : ∀ d lw lc, (∀ a ∈ [d, lw, lc], a ∉ [P1, P2]) → lw ≠ lc → KnNames l.prog w K mg base [P1, P2] d lw lc := fun d lw lc hTD hne => Kn.mk' F13 m13 (ok_names BL hTD (J11 d lw lc hTD hne) (J10 d lw lc hTD hne) F13) b13
    have J21 : ∀ d lw lc, (∀ a ∈ [d, lw, lc], a ∉ [P1, P2]) → lw ≠ lc → KnOdd l.prog w K mg base [P1, P2] d lw lc := fun d lw lc hTD hne k g t hk hg => Kn.mk' F21 m21 (ok_lodd BL hTD (J9 d lw lc hTD hne) (J10 d lw lc hTD hne) F21 hk hg) b21
    have FA : Facts l.prog w K mg base [P1, P2] :=
      { bl := BL, rp := hrp, mn := hmn
        scope := fun d lw lc hTD hne => Kn.mk' F14 m14 (ok_lscope BL hso hTD (J9 d lw lc hTD hne) (J13 d lw lc hTD hne) F14) b14
        wood := fun d lw lc hTD hne => Kn.mk' F16 m16 (ok_lwood BL hTD (J9 d lw lc hTD hne) (J10 d lw lc hTD hne) K15 F16) b16
        bent := fun d lw lc hTD hne k g t hk hg ht => Kn.mk' F22 m22 (ok_lbent BL hTD (J10 d lw lc hTD hne) (J21 d lw lc hTD hne) K18 K19 K20 F22 hk hg ht) b22
        bad := fun d lw lc hTD hne => Kn.mk' F17 m17 (ok_lbad BL hTD (J10 d lw lc hTD hne) F17) b17
        pick := J10
        isW := Kn.mk' G5 n5 okW a5
        llet := K15
        lisW := K25
        lare := K24 }
    have FK : FactsK l.prog w K mg base [P1, P2] C := ⟨⟨g5, e5, _, _, okW, n5, G5.kp, kbW, fun _ => rfl⟩, ⟨f6, d6, _, _, okL, m6, F6.kp, b6, kbL, fun _ => rfl⟩⟩
    have zL := TB (cL, PL) (by simp)
    have FC : FactsC K mg base C cL PL := ⟨⟨f12, d12, F12, m12, b12⟩, ⟨CB, gB, exm⟩, gS, exS, kit, zL, rfl⟩
    exact ok_law FA FK FC ⟨f7, d7, ok_begun BL hab F7, m7, F7.kp, b7⟩ FL hcL
end
end K0


set_option Elab.async false
set_option linter.all false
set_option maxRecDepth 100000
namespace K0
open PySem PySem.Spec PyProof.Rows
/-- the end, told of each def of the view whose code it is and that its table is empty -/
theorem walk_tabs {l : PySem.W.OpenLaw} {n k : Nat} {q : Program} {loose : List Str} {XP : (Str → Option Value) → Heap → Prop} {YP : World → Heap → Prop} {dl : DefRec}
    {K : Params → PySem.W.Frag} {CX : World → L2.CXT} {x : Str} (m1 : l.most = some n) (m2 : n ≤ sizeLine) (nd : dl.params.defaults = []) (rm : L2.Room k callerA)
    (inY : ∀ (w : World) (h : Heap), YP w h → (K w.params).In h)
    (F : ∀ (w : World) (mg : Str → Option Value) (fa : Addr) (h : Heap), YP w h → (K w.params).In h → h.Ns mainGlobals mg → mg dl.name = some (.ref fa) →
      (∀ (y : Str) (c P : Addr) (d' : DefRec), ((recsOf q).find? fun e => e.name == y) = some d' → PySem.W.tabIn (K w.params) y = some (c, P) → PySem.W.CodeHd h c P ∧ h.get? P = some { cls := .none, data := .fields #[] }) →
      LamX.LawAtS l w (K w.params) (CX w) k n x mg fa h)
    (noX : ∀ (w : World) (H : L2.Hp) (s : Shared) (e : Value) (s' : Shared), CX w [] H s (fun _ _ _ => False) e s' → False) :
    PySem.W.WalkO q loose XP YP l.row.toRowW dl [] (fun f vs => PySem.call f vs) := by
  refine Att.attach_callB m1 nd ?_
  intro w sa sb mg mb fa o pm cd doc a vs ns GG YY ho hd hcd hmg hobj hints hlen hbits hgen
  have kin := inY w _ YY
  obtain ⟨fd, cs, sp, t1, t2, t3, b, pr, run⟩ := F w mg fa _ YY kin GG.T.g hmg fun y c P d' hr ht => PySem.W.tab_of GG.T kin hr ht
  exact LamX.law_callTs kin GG.T.g GG.T.b GG.T.builtins GG.T.nolimit hgen t1 t2 t3 GG.T.bmain hobj hints (Nat.le_trans hlen m2) rm run b
    (fun H z1 z2 => pr H a ns hlen hbits z1 z2) (fun H e s' => noX w H sb e s')
end K0
open PySem PySem.W PyProof.Rows
set_option maxRecDepth 100000 in
set_option maxHeartbeats 0 in
theorem PySem.Challenge.cw_allboughs_k00_woods_and_letters_judged_holds : PySem.Challenge.rw_allboughs_k00_woods_and_letters_judged.Holds := by
  w_on; o_law; k_head; (case hw => w_witness2)
  k_fill
  refine K0.walk_tabs (l := PySem.Challenge.rw_allboughs_k00_woods_and_letters_judged) (n := 63) (k := 13) (x := "script") (CX := fun _ => L2.CX0) rfl (by decide) rfl ⟨rfl, by decide, by decide⟩ (fun w h Y => PySem.W.km_in_of Y) ?F (fun _ _ _ _ _ h => h)
  case F =>
    intro w mg fa h Y KX G hmg tabs
    refine' K0.law_at KX G hmg ?t1 ?t2 ?tL ?D ?er ?fr ?kp ?ne ?tabs
    case t1 => (refine' K0.tabAt ?a ?l ?c ?k ?lc ?v ?no; (case a => k_is); (case l => k_is); (case c => k_is); (case k => k_is); (case lc => k_is); (case v => rfl); (case no => first | k_is | kernel_rfl))
    case t2 => (refine' K0.tabAt ?a ?l ?c ?k ?lc ?v ?no; (case a => k_is); (case l => k_is); (case c => k_is); (case k => k_is); (case lc => k_is); (case v => rfl); (case no => first | k_is | kernel_rfl))
    case tL => (refine' K0.tabAt ?a ?l ?c ?k ?lc ?v ?no; (case a => k_is); (case l => k_is); (case c => k_is); (case k => k_is); (case lc => k_is); (case v => rfl); (case no => first | k_is | kernel_rfl))
    case ne => decide
    case D =>
      refine ⟨?_, ?_, ?_, ?_, ?_, ?_, ?_, ?_, ?_, ?_, ?_, ?_, ?_, ?_, ?_, ?_, ?_, ?_, ?_, ?_, ?_, ?_, ?_, ?_, ?_, ?_, ?_, ?most⟩
      case most => exact ⟨_, by k_is⟩
      all_goals (refine' K0.defAt ?a ?l ?c ?k; (case a => k_is); (case l => k_is); (case c => k_is); (case k => k_is))
    case er =>
      refine' ⟨?gS, ?gB, ?xS, ?kS, ?bS, ?tS, ?bB, ?dB, ?tB, ?sB, ?hg, ?hk, ?hd, ?ha, ?hn, ?ht, ?hm⟩
      (case gS => k_is); (case gB => k_is); (case xS => k_exc); (case kS => k_is); (case bS => k_is); (case tS => k_is); (case bB => k_is); (case dB => k_is); (case tB => k_is); (case sB => k_is)
      (case hg => k_is); (case hk => k_is); (case hd => k_is); (case ha => k_is); (case hn => k_is); (case ht => k_is); (case hm => k_is)
    case fr => refine ⟨?_, ?_, ?_, ?_, ?_, ?_, ?_, ?_, ?_, ?_, ?_, ?_, ?_, ?_, ?_, ?_, ?_⟩ <;> k_is
    case kp =>
      refine' K0.keptAt (PySem.W.mg_of KX G ?m) ?l ?h
      (case m => k_is); (case l => k_is)
      case h => repeat (first | exact .nil | refine .cons ⟨_, rfl⟩ ?_)
    case tabs =>
      intro y hy c P ht
      simp only [List.mem_cons, List.not_mem_nil, or_false] at hy
      rcases hy with rfl | rfl | rfl
      · exact tabs _ c P _ rfl ht
      · exact tabs _ c P _ rfl ht
      · exact tabs _ c P _ rfl ht


