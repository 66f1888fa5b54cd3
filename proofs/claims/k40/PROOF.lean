import PyProof.Rows.All
import Wide.All
import OpenK.AllK
import Wide.FinOn
import HandS.ForMost
import HandS.DictComp
import KE.KDictCopyH
import HandS.Lambda
import HandS.TupAny
import HandS.Evl
import KE.GoesMore
import HandS.Deep
import HandS.Style
import HandS.SortRule
import HandS.IsInst
import PyProof.ReprRoads
import KE.SortKeyHeap
import KE.KDictWalk
import KE.KDictSum
import HandS.EndTab
import HandS.Star
import HandS.Flow
import HandS.ExcInit
import HandS.ExcField
import HandS.ExcOwn
import HandS.WordsExc
import KE.DataFind
import HandS.More
import HandS.SortInts
import PySem.Challenge.RW_notetrail_k40_trails
set_option Elab.async false
set_option linter.all false
set_option maxRecDepth 100000
set_option maxHeartbeats 4000000
/-! Tab: dicts whose keys are tuples of ints, bools, texts and None. -/
namespace Tb
open PySem PySem.Spec PyProof.Rows L2
abbrev KTup (P : Program) (w : World) : HeapKind P w (List Leaf) := tupleKind (leafKind P w)
def leafV : V → Option Leaf
  | .non => some .none
  | .bl b => some (.num (if b = true then 1 else 0))
  | .int i => some (.num i)
  | .str x => some (.text x)
  | _ => none
theorem leaf_is : ∀ {v : V} {u : Value} {k : Leaf}, RelV v u → leafV v = some k → Leaf.isOf k u = true
  | .non, _, _, r, e => by
    cases e
    cases r
    rfl
  | .bl b, _, _, r, e => by
    cases e
    cases r
    exact decide_eq_true rfl
  | .int i, _, _, r, e => by
    cases e
    obtain ⟨t, rfl⟩ := r
    exact decide_eq_true rfl
  | .str x, _, _, r, e => by
    cases e
    obtain ⟨t, rfl⟩ := r
    show Value.isStrOf x (.str x t) = true
    simp [Value.isStrOf]
/-- at b a tuple whose items are the key ks -/
def KeyAt (K : PySem.W.Frag) (H : Hp) (b : Addr) (ks : List Leaf) : Prop := ∃ vs, SqT K H b vs ∧ Paired (fun v k => leafV v = some k) vs ks
theorem items_leaf {P : Program} {w : World} : ∀ {vs : List V} {us : List Value} {ks : List Leaf}, Vals vs us → Paired (fun v k => leafV v = some k) vs ks → ItemsAre (leafKind P w) ks us
  | _, _, _, .nil, .nil => .nil
  | _, _, _, .cons r rs, .cons q qs => .cons (leaf_is r q) (items_leaf rs qs)
abbrev Rows (α : Type) := List (List Leaf × Addr × α)
def RowsRel : Rows V → Rows Value → Prop := Paired fun p q => p.1 = q.1 ∧ p.2.1 = q.2.1 ∧ RelV p.2.2 q.2.2
/-- the object of such a dict -/
def TabO (P : Program) (w : World) (a : Addr) (xs : Rows V) : HO := .ext fun h => ∃ us : Rows Value, RowsRel xs us ∧ ∃ o es ep, h.get? a = some o ∧ o.ExactDict ∧ o.data = .dict es ep ∧ es.toList = us.map (entryOfKey (KTup P w)) ∧ (us.map (·.1)).Nodup
structure TabAt (P : Program) (w : World) (K : PySem.W.Frag) (H : Hp) (a : Addr) (xs : Rows V) : Prop where
  obj : H a = some (TabO P w a xs)
  len : xs.length ≤ sizeLine
  sys : (a == sysModules) = false
  keys : ∀ x ∈ xs, KeyAt K H x.2.1 x.1
/-- what it holds of a key -/
def hasX (xs : Rows V) (ks : List Leaf) : Bool := xs.any fun x => decide (x.1 = ks)
def putX (xs : Rows V) (ks : List Leaf) (b : Addr) (v : V) : Rows V := if hasX xs ks = true then xs.map (fun x => if x.1 = ks then (x.1, x.2.1, v) else x) else xs ++ [(ks, b, v)]
theorem putX_len (xs : Rows V) (ks : List Leaf) (b : Addr) (v : V) : (putX xs ks b v).length ≤ xs.length + 1 := by
  unfold putX
  split <;> simp
theorem rr_at : ∀ {xs : Rows V} {us : Rows Value} (ks : List Leaf), RowsRel xs us → (atKey us ks).isSome = hasX xs ks
  | _, _, _, .nil => rfl
  | _, _, ks, .cons (a := p) (b := q) (l₁ := l) (l₂ := m) ⟨h1, _, _⟩ t => by
    have ih := rr_at ks t
    unfold hasX at ih ⊢
    rw [List.any_cons, ← ih]
    unfold atKey
    rw [List.find?_cons, ← h1]
    by_cases e : p.1 = ks
    · rw [decide_eq_true e]
      rfl
    · rw [decide_eq_false e]
      rfl
theorem rr_put {xs : Rows V} {us : Rows Value} (r : RowsRel xs us) (ks : List Leaf) (b : Addr) {v : V} {u : Value} (ru : RelV v u) : RowsRel (putX xs ks b v) (storedH us ks b u) := by
  unfold putX storedH
  rw [rr_at ks r]
  by_cases e : hasX xs ks = true
  · rw [if_pos e, if_pos e]
    clear e
    induction r with
    | nil => exact .nil
    | @cons p q l m h _ ih =>
      refine .cons ?_ ih
      obtain ⟨h1, h2, h3⟩ := h
      unfold putAt
      dsimp only
      by_cases k : p.1 = ks
      · rw [if_pos k, if_pos (h1.symm.trans k)]
        exact ⟨h1, h2, ru⟩
      · rw [if_neg k, if_neg fun z => k (h1.trans z)]
        exact ⟨h1, h2, h3⟩
  · rw [if_neg e, if_neg e]
    exact Paired.snoc r ⟨rfl, rfl, ru⟩
section
variable {X : Cx} {pins : List (Addr × Obj)} {σ : L2.St} {H : Hp} {s : Shared}
theorem KeyAt.is (J : Inv X pins σ H s) {b : Addr} {ks : List Leaf} (h : KeyAt X.K H b ks) : (KTup X.prog X.w).is s.heap ks b := by
  obtain ⟨vs, hs, hk⟩ := h
  obtain ⟨its, r, ⟨o, e1, e2, n, e3⟩, _⟩ := J.tuple hs
  exact ⟨o, its.toArray, n, e1, e2, e3, by simpa using items_leaf r hk⟩
theorem TabAt.dict (J : Inv X pins σ H s) {a : Addr} {xs : Rows V} (t : TabAt X.prog X.w X.K H a xs) : ∃ us, RowsRel xs us ∧ us.length = xs.length ∧ s.heap.DictOfH (KTup X.prog X.w) a us := by
  obtain ⟨us, r, o, es, ep, e1, e2, e3, e4, e5⟩ := (show ObjOk X.prog X.w H s.heap a (TabO X.prog X.w a xs) from J.hok a _ t.obj).1
  refine ⟨us, r, (Paired.length r).symm, o, es, ep, e1, e2, e3, e4, ?_, e5⟩
  have go : ∀ {l : Rows V} {m : Rows Value}, RowsRel l m → (∀ x ∈ l, KeyAt X.K H x.2.1 x.1) → ∀ y ∈ m, (KTup X.prog X.w).is s.heap y.1 y.2.1 := by
    intro l m q
    induction q with
    | nil => intro _ y hy; cases hy
    | cons h _ ih =>
      intro hk y hy
      rcases List.mem_cons.mp hy with rfl | hy
      · rw [← h.1, ← h.2.1]
        exact (hk _ List.mem_cons_self).is J
      · exact ih (fun x hx => hk x (List.mem_cons_of_mem _ hx)) y hy
  exact go r t.keys
theorem tab_ok {P : Program} {w : World} {H : Hp} {h : Heap} {a : Addr} {xs : Rows V} {us : Rows Value} (r : RowsRel xs us) (d : h.DictOfH (KTup P w) a us) : ObjOk P w H h a (TabO P w a xs) := by
  obtain ⟨o, es, ep, e1, e2, e3, e4, _, e5⟩ := d
  refine ⟨⟨us, r, o, es, ep, e1, e2, e3, e4, e5⟩, ⟨o, e1⟩, ?_⟩
  rintro h1 h2 ⟨us', r', o', es', ep', f1, f2⟩ k
  exact ⟨us', r', o', es', ep', k o' f1, f2⟩
theorem tab_put (J : Inv X pins σ H s) {E : Value → Shared → Prop} {D b : Addr} {xs : Rows V} {ks : List Leaf} {v : V} {u : Value} {Q : Unit → Shared → Prop} (hu : X.A.units + 1 < cLine) (t : TabAt X.prog X.w X.K H D xs) (hk : KeyAt X.K H b ks) (rv : RelV v u)
    (q : ∀ s', Inv X pins σ (upd H D (TabO X.prog X.w D (putX xs ks b v))) s' → Q () s') : wpAny (model X.prog X.w) X.A (dictSet D (.ref b) u) Q E s := by
  obtain ⟨us, r, hl, d⟩ := t.dict J
  refine wpAny_dictSet_heap (hsz := by rw [hl]; exact t.len) (Nat.lt_of_succ_lt hu) (hk.is J) d fun h' d' sb => q _ ?_
  obtain ⟨o, _, _, e1, _⟩ := id d'
  exact d_write J (by rw [t.obj]; exact True.intro) sb ⟨o, e1⟩ (tab_ok (rr_put r ks b rv) d')
/-- key in dict -/
def rInTab (P : Program) (w : World) (K : PySem.W.Frag) : R2 := fun x y H Q => ∃ a b xs ks, x = .ref b ∧ y = .ref a ∧ TabAt P w K H a xs ∧ KeyAt K H b ks ∧ Q (.bl (hasX xs ks)) H
def rNiTab (P : Program) (w : World) (K : PySem.W.Frag) : R2 := fun x y H Q => ∃ a b xs ks, x = .ref b ∧ y = .ref a ∧ TabAt P w K H a xs ∧ KeyAt K H b ks ∧ Q (.bl (!hasX xs ks)) H
theorem op_inTab (hu : X.A.units + 1 < cLine) : OpR X (compareOp .In) (rInTab X.prog X.w X.K) := by
  rintro pins s σ H x y v u Q J rx ry ⟨a, b, xs, ks, rfl, rfl, t, hk, q⟩
  cases rx
  cases ry
  obtain ⟨us, r, _, d⟩ := t.dict J
  refine wpAny_in_heap (tupleKind_room_in1 hu) (hk.is J) t.sys d ?_
  rw [rr_at ks r]
  exact ⟨.bl _, H, J.tok _, rfl, q⟩
theorem op_niTab (hu : X.A.units + 1 < cLine) : OpR X (compareOp .NotIn) (rNiTab X.prog X.w X.K) := by
  rintro pins s σ H x y v u Q J rx ry ⟨a, b, xs, ks, rfl, rfl, t, hk, q⟩
  cases rx
  cases ry
  obtain ⟨us, r, _, d⟩ := t.dict J
  refine wpAny_notIn_heap (tupleKind_room_in1 hu) (hk.is J) t.sys d ?_
  rw [rr_at ks r]
  exact ⟨.bl _, H, J.tok _, rfl, q⟩
end
/-! ### {key: value for target in iter if ..} -/
/-- one turn: Z is the turn's end -/
def tTurn (P : Program) (w : World) (K : PySem.W.Frag) (D : Addr) (tt : TT) (tk tv : TE) (Z : Hp → Prop) : L2.St → Hp → Prop := fun σ H => tt σ H fun c H1 => match c with
  | false => Z H1
  | true => tk σ H1 fun y H2 => tv σ H2 fun z H3 => ∃ xs ks b, y = .ref b ∧ TabAt P w K H3 D xs ∧ KeyAt K H3 b ks ∧ Z (upd H3 D (TabO P w D (putX xs ks b z)))
def tTc (P : Program) (w : World) (K : PySem.W.Frag) (wi : TI) (g : TG) (tt : TT) (tk tv : TE) (own : List Nat) : TE := fun σ H Q => wi σ H fun J H1 => ∀ D, H1 D = none → (D == sysModules) = false →
  ∃ W : Nat → Nat → Hp → Prop, (∃ m, W 0 m (upd H1 D (TabO P w D []))) ∧ ∀ i m G, W i m G → (J.stop i G ∧ Q (.ref D) G) ∨
    (J.go i G ∧ ∃ Z : Hp → Prop, (∀ G', Z G' → ∃ m', m' < m ∧ W (i + 1) m' G') ∧ ∀ x G', J.yld i G x G' → g x (wipe σ own) G' fun σ2 G2 => wipe σ2 own = wipe σ own ∧ tTurn P w K D tt tk tv Z σ2 G2)
section
variable {X : Cx} {kx vx tg iter : Expr} {ifs : List Expr} {scope : Scope} {own : List (Str × Nat)} {pos : Pos} {wi : TI} {g : TG} {tt : TT} {tk tv : TE}
abbrev Blk (X : Cx) (scope : Scope) (F : Cx → Prop) : Prop := ∀ (s : Shared) (H : Hp) (C : Addr) (cl : List (Str × Addr)) (fp : List Addr), F (X.blk s H scope (compEnvC scope cl C X.env) fp)
theorem tab_new {P : Program} {w : World} {H : Hp} (h : Heap) : ObjOk P w H (h.push { cls := .type "dict", data := .dict #[] }) h.objs.size (TabO P w h.objs.size []) := tab_ok .nil (Heap.DictOfH.new h)
/-- a turn's walk in the block -/
theorem turn_run {B : Cx} {pins : List (Addr × Obj)} {σ : L2.St} {H : Hp} {s : Shared} {D : Addr} {Z : Hp → Prop} {ce : Env} (hce : B.env = ce) (hu : B.A.units + 1 < cLine) (ht : PTs B ifs tt) (hk : PE B kx tk) (hv : PE B vx tv) (J : Inv B pins σ H s) (hxe : B.xe = fun _ _ => False)
    (q : tTurn B.prog B.w B.K D tt tk tv Z σ H) (R : Shared → Prop) (hR : ∀ s' H', Inv B pins σ H' s' → Z H' → R s') (E : Value → Shared → Prop) :
    wpAny (model B.prog B.w) B.A (forIn ifs true fun c r => if r = true then do let ok ← isTrue c ce (eval c ce); pure (ForInStep.yield ok) else pure (ForInStep.yield r)) (fun ok s3 =>
      if ok = true then wpAny (model B.prog B.w) B.A (eval kx ce) (fun kv s4 => wpAny (model B.prog B.w) B.A (eval vx ce) (fun vv s5 => wpAny (model B.prog B.w) B.A (dictSet D kv vv) (fun _ s6 => R s6) E s5) E s4) E s3 else R s3) E s := by
  subst hce
  have drop : ∀ {α : Type} {t : Sem α} {Q Q' : α → Shared → Prop} {s : Shared}, wpAny (model B.prog B.w) B.A t Q B.xe s → (∀ a s, Q a s → Q' a s) → wpAny (model B.prog B.w) B.A t Q' E s := by
    intro α t Q Q' s h k
    rw [hxe] at h
    exact thnF h k
  refine drop (ht.run _ s σ H _ J q) fun c s1 ⟨H1, J1, q1⟩ => ?_
  cases c with
  | false => exact hR s1 H1 J1 q1
  | true =>
    refine drop (hk.run _ s1 σ H1 _ J1 q1) fun kv s2 ⟨y, H2, J2, ry, q2⟩ => ?_
    refine drop (hv.run _ s2 σ H2 _ J2 q2) fun vv s3 ⟨z, H3, J3, rz, xs, ks, b, ey, t, ka, q3⟩ => ?_
    subst ey
    cases ry
    exact tab_put J3 hu t ka rz fun s4 J4 => hR s4 _ J4 q3
theorem tc_core {pins : List (Addr × Obj)} {t0 : Shared} {σ : L2.St} {G0 : Hp} {Q : VK} {pos' : Pos} {use : Option (Value → Sem Unit)} {Qf : Value → Shared → Prop} (hc : X.calm = true) (hN : X.N.Nodup) (hu : X.A.units + 1 < cLine) (J0 : Inv X pins σ G0 t0) (hi : PI X tg iter wi) (ok : BlkOk X.N X.env.scope scope own) (hg : Blk X scope fun B => PG B tg g) (ht : Blk X scope fun B => PTs B ifs tt)
    (hk : Blk X scope fun B => PE B kx tk) (hv : Blk X scope fun B => PE B vx tv) (hs : ∀ x, foldedSetIterable iter X.env x = pure x) (hq : tTc X.prog X.w X.K wi g tt tk tv (own.map (·.2)) σ G0 Q)
    (hRR : ∀ D L s' m H', Inv X pins σ H' s' → Q (.ref D) H' → s'.heap.Ns L m → FpOk X pins H' L → compPost (model X.prog X.w) X.A X.xe use Qf (.ref D) L (.ok .next) s') :
    wpAny (model X.prog X.w) X.A (comprehension (.DictComp kx vx [⟨tg, iter, ifs, 0⟩] scope pos) scope X.env pos' newDict false (eval iter X.env) use) Qf X.xe t0 := by
  refine wpAny_comprehension_free (use := use) rfl hs (closure_ok fun y hy hy2 => J0.ok.has _ (ok.free y hy hy2)) ok.kind (fun y hy hy2 => (ok.uniq y hy).trans (congrArg some hy2)) ?_
  refine thn (hi.run pins t0 σ G0 _ J0 hq) fun xv t1 hx => thn hx ?_
  rintro itv t2 ⟨it, fp, tn, Jt, G1, rfl, J1, Tn, at0, fo, hD⟩
  refine wpAny_newObj_type (newEnv_comp ?_)
  have freeD : G1 t2.heap.objs.size = none := J1.hok.fresh (Nat.le_refl _)
  have sysD : (t2.heap.objs.size == sysModules) = false := beq_eq_false_iff_ne.mpr (Nat.ne_of_gt J1.big)
  obtain ⟨W, ⟨m0, w0⟩, turn⟩ := hD _ freeD sysD
  -- the new dict is laid
  have J2 := J1.laid (a := t2.heap.objs.size) (t' := t2.toks) (fun b o e => Heap.get?_push_of_some _ e) (Nat.le_refl _) (tab_new (P := X.prog) (w := X.w) (H := upd G1 t2.heap.objs.size (TabO X.prog X.w t2.heap.objs.size [])) t2.heap)
  have low : ∀ b ∈ fp, b < t2.heap.objs.size := fun b hb => by
    obtain ⟨o, e, _⟩ := Tn.obj _ _ at0 b hb
    exact Heap.lt_size e
  generalize hdz : t2.heap.objs.size = D at *
  generalize hG2 : upd G1 D (TabO X.prog X.w D []) = G2 at *
  generalize ht3 : ({ t2 with heap := t2.heap.push { cls := .type "dict", data := .dict #[] } } : Shared) = t3 at *
  have e3 : t3.heap = t2.heap.push { cls := .type "dict", data := .dict #[] } := by rw [← ht3]
  have J3 : Inv X pins σ G2 t3 := J2
  have fo3 : ∀ b ∈ fp, FpOk X pins G2 b ∧ b < t3.heap.objs.size := fun b hb => by
    have hlt := low b hb
    refine ⟨⟨?_, (fo b hb).2⟩, ?_⟩
    · rw [← hG2, upd_ne (Nat.ne_of_lt hlt)]
      exact (fo b hb).1
    · rw [e3, Heap.size_push, hdz]
      exact Nat.lt_succ_of_lt hlt
  have at3 : tn 0 t3.heap := Tn.keep _ _ _ at0 fun b _ o e => by
    rw [e3]
    exact Heap.get?_push_of_some _ e
  have J4 := block_start J3 ok hN fo3
  have nf : ∀ b ∈ fp, G2 b = none := fun b hb => (fo3 b hb).1.1
  have hg' := hg t3 G2 t3.heap.objs.size (cellsFrom (t3.heap.objs.size + 1) scope.names (cloFrom X.env.cells scope.names [])) fp
  have ht' := ht t3 G2 t3.heap.objs.size (cellsFrom (t3.heap.objs.size + 1) scope.names (cloFrom X.env.cells scope.names [])) fp
  have hk' := hk t3 G2 t3.heap.objs.size (cellsFrom (t3.heap.objs.size + 1) scope.names (cloFrom X.env.cells scope.names [])) fp
  have hv' := hv t3 G2 t3.heap.objs.size (cellsFrom (t3.heap.objs.size + 1) scope.names (cloFrom X.env.cells scope.names [])) fp
  have at4 : tn 0 (pushCells (t3.heap.push { cls := .type "dict", data := .dict #[] }) scope.names) := Tn.keep _ _ _ at3 fun b _ o e => pushCells_keeps _ _ _ _ (Heap.get?_push_of_some _ e)
  change codeAny (model X.prog X.w) X.A (.compStart (.DictComp kx vx [⟨tg, iter, ifs, 0⟩] scope pos) 0 (.ref it) (.ref D) (compEnvC scope (cellsFrom (t3.heap.objs.size + 1) scope.names (cloFrom X.env.cells scope.names [])) t3.heap.objs.size X.env)) _ _
  generalize hce : compEnvC scope (cellsFrom (t3.heap.objs.size + 1) scope.names (cloFrom X.env.cells scope.names [])) t3.heap.objs.size X.env = ce at J4 hg' ht' hk' hv' ⊢
  have cL : ce.locals = t3.heap.objs.size := by
    rw [← hce]
    rfl
  have stat : ∀ {σ' : L2.St} {G' : Hp} {s' : Shared}, Inv (X.blk t3 G2 scope ce fp) [] σ' G' s' → (∀ b ∈ fp, G' b = none) → ∀ b ∈ fp, FpOk (X.blk t3 G2 scope ce fp) [] G' b := fun {σ' G' s'} J' hn b hb =>
    let x := J'.ok.exf b hb
    ⟨hn b hb, x.1, J'.ok.exfs b hb, .inl hb, fun y c e => x.2 y c e, fun p hp => nomatch hp⟩
  have loop : codeAny (model X.prog X.w) X.A (.compLoop (.DictComp kx vx [⟨tg, iter, ifs, 0⟩] scope pos) 0 (.ref it) (.ref D) ce) (compPost (model X.prog X.w) X.A X.xe use Qf (.ref D) t3.heap.objs.size) { t3 with heap := pushCells (t3.heap.push { cls := .type "dict", data := .dict #[] }) scope.names } := by
    refine compLoop_anyD (fun n s' => ∃ j G, Inv (X.blk t3 G2 scope ce fp) [] (wipe σ (own.map (·.2))) G s' ∧ tn j s'.heap ∧ (∀ b ∈ fp, G b = none) ∧ W j n G) ?_ m0 ⟨0, G2, J4, at4, nf, w0⟩
    rintro n s5 ⟨j, G5, J5, at5, n5, w5⟩
    rcases turn j n G5 w5 with ⟨stop, fin⟩ | ⟨go, Z, hZ, step⟩
    · refine thnF (Tn.done (X.blk t3 G2 scope ce fp) rfl rfl rfl hc j [] s5 _ G5 (fun _ _ => False) J5 (stat J5 n5) at5 stop) ?_
      rintro _ s6 ⟨rfl, J6⟩
      have back : Inv X pins σ G5 s6 := J3.call' (ch := fp) J6.os J6.base J6.hok J6.bare fun b hb =>
        let z := (fo3 b hb).1
        ⟨z.2.2.2.1, z.2.1, z.2.2.2.2.1, z.2.2.2.2.2⟩
      have freeC : G5 t3.heap.objs.size = none := by
        rw [← cL]
        exact J6.free
      obtain ⟨m, hm, _⟩ := J6.loc
      have hm : s6.heap.Ns t3.heap.objs.size m := by
        rw [← cL]
        exact hm
      exact hRR D t3.heap.objs.size s6 m G5 back fin hm (J3.fpOk (Nat.le_refl _) freeC)
    · refine thnF (Tn.item (X.blk t3 G2 scope ce fp) rfl rfl rfl hc j [] s5 _ G5 (fun _ _ => False) J5 (stat J5 n5) at5 go) ?_
      rintro _ s6 ⟨u, rfl, h6⟩
      refine thnF h6 ?_
      rintro _ s7 ⟨x, G7, J7, r7, y7, at7, n7⟩
      have J7' := J7.pinned (stat J7 n7) (Tn.obj _ _ at7)
      refine thnF (hg'.run _ s7 _ G7 x u _ J7' r7 (step x G7 y7)) ?_
      rintro _ s8 ⟨σ8, G8, J8, hw8, q8⟩
      refine turn_run (B := X.blk t3 G2 scope ce fp) rfl hu ht' hk' hv' J8 rfl q8 _ (fun s' G' J' hz => ?_) _
      obtain ⟨m', hm, w'⟩ := hZ G' hz
      have kept : ∀ b ∈ fp, ∀ o, s7.heap.get? b = some o → s'.heap.get? b = some o ∧ G' b = none := fun b hb o e =>
        let z := J'.pin (b, o) (List.mem_append_right _ (List.mem_append_right _ (mem_pinsAt hb e)))
        ⟨z.1, z.2.1⟩
      have hl : (wipe σ (own.map (·.2))).length = σ8.length := by rw [← hw8, wipe_length]
      refine ⟨m', hm, j + 1, G', (J'.unpinned (pins := [])).weak hl (fun k v e => ?_), Tn.keep _ _ _ at7 fun b hb o e => (kept b hb o e).1, fun b hb => ?_, w'⟩
      · rw [← hw8] at e
        exact (wipe_some e).1
      · obtain ⟨o, e, _⟩ := Tn.obj _ _ at7 b hb
        exact (kept b hb o e).2
  exact codeAny_compStart_dict loop (Tn.self X.A 0 _ _ _ at4 loop)
theorem pe_tc (hc : X.calm = true) (hN : X.N.Nodup) (hu : X.A.units + 1 < cLine) (hi : PI X tg iter wi) (ok : BlkOk X.N X.env.scope scope own) (hg : Blk X scope fun B => PG B tg g) (ht : Blk X scope fun B => PTs B ifs tt)
    (hk : Blk X scope fun B => PE B kx tk) (hv : Blk X scope fun B => PE B vx tv) (hs : ∀ x, foldedSetIterable iter X.env x = pure x := by intro _; rfl) :
    PE X (.DictComp kx vx [⟨tg, iter, ifs, 0⟩] scope pos) (tTc X.prog X.w X.K wi g tt tk tv (own.map (·.2))) := by
  refine ⟨fun pins t0 σ G0 Q J0 hq => ?_⟩
  rw [arm_eval_DictComp]
  refine tc_core hc hN hu J0 hi ok hg ht hk hv hs hq fun D L s' m H' J q hn f => ⟨m, hn, fun h2 sb => ?_⟩
  obtain ⟨z0, z1, z2, z3, z4, z5⟩ := f
  exact ⟨.ref D, H', J.turned (t' := s'.toks) (fun b o hb e => (sb.2 b hb).trans e) z0 z1 z3 z4 z5, rfl, q⟩
/-- name = {..} -/
theorem ps_setTc {i : Nat} {y : Str} {py spos : Pos} (hc : X.calm = true) (hN : X.N.Nodup) (hy : X.N[i]? = some y) (hyl : X.env.scope.names.lookup y = some .local) (hsw : swapsWith (.DictComp kx vx [⟨tg, iter, ifs, 0⟩] scope pos) (some (.Name y py)) spos.line X.env = pure true) (hu : X.A.units + 1 < cLine)
    (hi : PI X tg iter wi) (ok : BlkOk X.N X.env.scope scope own) (hg : Blk X scope fun B => PG B tg g) (ht : Blk X scope fun B => PTs B ifs tt)
    (hk : Blk X scope fun B => PE B kx tk) (hv : Blk X scope fun B => PE B vx tv) (hs : ∀ x, foldedSetIterable iter X.env x = pure x := by intro _; rfl) :
    PS X (.Assign [.Name y py] (.DictComp kx vx [⟨tg, iter, ifs, 0⟩] scope pos) spos) (tAsg (tTc X.prog X.w X.K wi g tt tk tv (own.map (·.2))) (gName i)) := by
  refine ⟨fun pins s σ H D J h => ?_⟩
  rw [exec_Assign_Name_used _ _ _ _ hsw]
  refine wpAny_bind (wpAny_standAt (wpAny_bind ?_))
  show wpAny _ X.A (do let _ ← comprehension (.DictComp kx vx [⟨tg, iter, ifs, 0⟩] scope pos) scope X.env (firstIterPos [⟨tg, iter, ifs, 0⟩] pos) newDict false (eval iter X.env) (some (assign (.Name y py) X.env))) _ _ s
  have h : tTc X.prog X.w X.K wi g tt tk tv (own.map (·.2)) σ H (fun x H1 => gName i x σ H1 D.nx) := h
  refine wpAny_bind (thn (tc_core (Qf := fun _ s' => SP X pins D .next s') hc hN hu J hi ok hg ht hk hv hs h fun L N s' m H' J' q hn f => ?_) fun _ s' z => wpAny_pure (wpAny_pure z))
  show wpAny _ _ (assign (.Name y py) X.env (.ref L)) _ _ _
  refine wpAny_assign_Name (store_ok2 (v := V.ref L) J' hN hy (.inl hyl) rfl (fun s2 J2 ⟨a, sb, ha⟩ => ?_) (.inr hyl))
  obtain ⟨z0, z1, z2, z3, z4, z5⟩ := f
  have na : N ≠ a := by
    rcases ha with z | z
    · rw [z]; exact z1
    · exact fun e => z4 y a z e.symm
  exact ⟨m, hn.sameBut sb na, fun h3 sb3 => ⟨_, H', J2.turned (t' := s2.toks) (fun b o hb e => (sb3.2 b hb).trans e) z0 z1 z3 z4 z5, q⟩⟩
theorem sw_tc {gs : List Comprehension} {py : Pos} {y : Str} {l : Nat} {env : Env} (hk : env.scope.kind = .function) (hy : env.scope.names.lookup y = some .local) (hl : (py.line == pos.line) = true)
    (ha : (scope.names.any fun (n, k) => n == y && (k == .local || k == .cell)) = false) : swapsWith (.DictComp kx vx gs scope pos) (some (.Name y py)) l env = pure true := by
  have ky : env.kindOf y = some .local := hy
  have hb : env.blockKind = .function := by unfold Env.blockKind; rw [hk]; rfl
  unfold swapsWith
  simp only [hb, ky, ha, Expr.pos, hl]
  rfl
end
end Tb

/-! Ab: an abstract store over the hand layer: immutable data by value, mutable objects by address. -/
namespace Ab
open PySem PySem.Spec PyProof.Rows L2

/-- the written part, the program, the world -/
structure Kw where
  K : PySem.W.Frag
  P : Program
  w : World
  /-- the tables of code objects, with the names of what is made there -/
  tb : List (Addr × Str)
instance : Coe Kw PySem.W.Frag := ⟨Kw.K⟩
/-- an abstract value: data, or the address of a mutable object -/
inductive Im where
  | tab (kvs : List (List Leaf × PyData × PyData))
  | dct (kvs : List (Key × PyData))
inductive Ax where
  | dat (d : PyData)
  | ref (a : Addr)
  | imm (i : Im)
/-- a mutable object -/
inductive MO where
  | lst (xs : List Ax)
  | dic (kvs : List (Key × Ax))
  | tab (kvs : List (List Leaf × PyData × PyData))
  /-- a table of code objects that bear this name -/
  | code (q : Str)
  /-- range(lo, hi) -/
  | rng (lo hi : Int)
  /-- an instance of the class at cl, its attributes -/
  | ins (cl : Addr) (kvs : List (Str × Ax))
abbrev Cs := Addr → Option MO
abbrev Gm := List (Option Ax)
/-- tables of code objects are told by cells alone -/
def seen : Option HO → Option HO
  | some (.tbl _) => none
  | o => o
theorem seen_le {u : Option HO} {o : HO} (h : seen u = some o) : u = some o := by
  unfold seen at h
  split at h
  · cases h
  · exact h
theorem seen_id {u : Option HO} {o : HO} (h : seen u = some o) : seen (some o) = some o := by
  have := seen_le h
  rw [this] at h
  exact h
def hid (C : Cs) (H : Hp) : Hp := fun a => if (C a).isSome = true then none else seen (H a)
/-- a row of such a dict -/
def TR (K : Kw) (H : Hp) (x : List Leaf × Addr × V) (q : List Leaf × PyData × PyData) : Prop := x.1 = q.1 ∧ Tb.KeyAt K H x.2.1 x.1 ∧ Dp K H (.ref x.2.1) q.2.1 ∧ Dp K H x.2.2 q.2.2
/-- a dict that is not changed any more -/
def ImR (K : Kw) (H : Hp) (v : V) : Im → Prop
  | .tab kvs => ∃ a xs, v = .ref a ∧ H a = some (Tb.TabO K.P K.w a xs) ∧ xs.length ≤ sizeLine ∧ (a == sysModules) = false ∧
    Paired (TR K H) xs kvs
  | .dct kvs => ∃ a ws, v = .ref a ∧ H a = some (.dK ws) ∧ Paired (fun (x : Key × V) (q : Key × PyData) => x.1 = q.1 ∧ Dp K H x.2 q.2) ws kvs
def Rx (K : Kw) (C : Cs) (H : Hp) (v : V) : Ax → Prop
  | .dat d => Dp K (hid C H) v d
  | .ref a => v = .ref a ∧ (C a).isSome = true
  | .imm i => ImR K (hid C H) v i
abbrev RxA (K : Kw) (C : Cs) (H : Hp) : List V → List Ax → Prop := Paired (Rx K C H)
def RxK (K : Kw) (C : Cs) (H : Hp) : List (Key × V) → List (Key × Ax) → Prop := Paired fun p q => p.1 = q.1 ∧ Rx K C H p.2 q.2
def RxF (K : Kw) (C : Cs) (H : Hp) : List (Str × V) → List (Str × Ax) → Prop := Paired fun p q => p.1 = q.1 ∧ Rx K C H p.2 q.2
def Cell (K : Kw) (C : Cs) (H : Hp) (a : Addr) : MO → Prop
  | .lst xs => ∃ vs, H a = some (.lst vs) ∧ RxA K C H vs xs
  | .dic kvs => ∃ ws, H a = some (.dK ws) ∧ RxK K C H ws kvs
  | .tab kvs => ∃ xs, H a = some (Tb.TabO K.P K.w a xs) ∧ xs.length ≤ sizeLine ∧ (a == sysModules) = false ∧ Paired (TR K (hid C H)) xs kvs
  | .code q => (a, q) ∈ K.tb ∧ ∃ ps : Array Value, H a = some (.tbl ps) ∧ TriplesOk ps.toList ∧ ∀ (pos : Pos) (cv : Value), codeAmong pos ps.toList = some cv → ∃ c, cv = .ref c ∧ hid C H c = some (LamX.CodeO c q)
  | .rng lo hi => H a = some (L2.HO.rng lo hi)
  | .ins cl kvs => ∃ dx vs, H a = some (.ins cl dx vs) ∧ RxF K C H vs kvs
def Cells (K : Kw) (C : Cs) (H : Hp) : Prop := ∀ a o, C a = some o → Cell K C H a o
structure Adv (K : Kw) (C : Cs) (H : Hp) (C' : Cs) (H' : Hp) : Prop where
  ex : ∀ a o, hid C H a = some o → hid C' H' a = some o
  sub : ∀ a, (C a).isSome = true → (C' a).isSome = true
  cells : Cells K C' H'
structure Sta (K : Kw) (Γ : Gm) (C : Cs) (σ : L2.St) (H : Hp) : Prop where
  len : σ.length = Γ.length
  slot : ∀ (i : Nat) x, Γ[i]? = some (some x) → ∃ v, σ[i]? = some (some v) ∧ Rx K C H v x
  cells : Cells K C H

/-! ### monotone -/
theorem Rd.up {H H' : Hp} {a : Addr} {u : HO} (e : ∀ a o, H a = some o → H' a = some o) (h : Rd H a u) : Rd H' a u := by
  rcases h with h | ⟨o, h⟩
  · exact .inl (e _ _ h)
  · exact .inr ⟨o, e _ _ h⟩
theorem SqL.up {K : PySem.W.Frag} {H H' : Hp} {a : Addr} {xs : List V} (e : ∀ a o, H a = some o → H' a = some o) (h : SqL K H a xs) : SqL K H' a xs := by
  rcases h with h | h
  · exact .inl (Rd.up e h)
  · exact .inr h
theorem SqT.up {K : PySem.W.Frag} {H H' : Hp} {a : Addr} {xs : List V} (e : ∀ a o, H a = some o → H' a = some o) (h : SqT K H a xs) : SqT K H' a xs := by
  rcases h with h | h
  · exact .inl (Rd.up e h)
  · exact .inr h
mutual
theorem Dp.up {K : PySem.W.Frag} {H H' : Hp} (e : ∀ a o, H a = some o → H' a = some o) : ∀ (d : PyData) {v : V}, Dp K H v d → Dp K H' v d
  | .none, _, h => by cases h; exact .non
  | .bool _, _, h => by cases h; exact .bl _
  | .int _, _, h => by cases h; exact .int _
  | .str _, _, h => by cases h; exact .str _
  | .list ds, _, h => by
    cases h with
    | lst hs ha => exact .lst (SqL.up e hs) (DpAll.up e ds ha)
  | .tuple ds, _, h => by
    cases h with
    | tup hs ha => exact .tup (SqT.up e hs) (DpAll.up e ds ha)
  | .dict _, _, h => by cases h
theorem DpAll.up {K : PySem.W.Frag} {H H' : Hp} (e : ∀ a o, H a = some o → H' a = some o) : ∀ (ds : List PyData) {vs : List V}, DpAll K H vs ds → DpAll K H' vs ds
  | [], _, h => by cases h; exact .nil
  | d :: ds, _, h => by
    cases h with
    | cons h1 h2 => exact .cons (Dp.up e d h1) (DpAll.up e ds h2)
end
theorem hid_le {C : Cs} {H : Hp} : ∀ a o, hid C H a = some o → H a = some o := fun a o h => by
  unfold hid at h
  split at h
  · cases h
  · exact seen_le h
theorem hid_seen {C : Cs} {H : Hp} {a : Addr} {o : HO} (h : hid C H a = some o) : seen (some o) = some o := by
  unfold hid at h
  split at h
  · cases h
  · exact seen_id h
theorem hid_of {C : Cs} {H : Hp} {a : Addr} {o : HO} (h : H a = some o) (c : C a = none) (n : seen (some o) = some o := by rfl) : hid C H a = some o := by
  unfold hid
  rw [c, h]
  exact n
theorem _root_.L2.DpAll.len {K : PySem.W.Frag} {H : Hp} : ∀ {vs : List V} {ds : List PyData}, DpAll K H vs ds → vs.length = ds.length
  | _, _, .nil => rfl
  | _, _, .cons _ t => by simp [L2.DpAll.len t]
theorem _root_.L2.DpAll.get {K : PySem.W.Frag} {H : Hp} : ∀ {vs : List V} {ds : List PyData} {i : Nat} {d : PyData}, DpAll K H vs ds → ds[i]? = some d → ∃ v, vs[i]? = some v ∧ Dp K H v d
  | _, _, _, _, .nil, e => by simp at e
  | _, _, 0, _, .cons r _, e => by simp at e; subst e; exact ⟨_, rfl, r⟩
  | _, _, i + 1, d, .cons _ t, e => by
    obtain ⟨u, h1, h2⟩ := L2.DpAll.get (i := i) (d := d) t (by simpa using e)
    exact ⟨u, by simpa using h1, h2⟩
theorem _root_.L2.DpAll.getV {K : PySem.W.Frag} {H : Hp} : ∀ {vs : List V} {ds : List PyData} {i : Nat} {v : V}, DpAll K H vs ds → vs[i]? = some v → ∃ d, ds[i]? = some d ∧ Dp K H v d
  | _, _, _, _, .nil, e => by simp at e
  | _, _, 0, _, .cons r _, e => by simp at e; subst e; exact ⟨_, rfl, r⟩
  | _, _, i + 1, v, .cons _ t, e => by
    obtain ⟨u, h1, h2⟩ := L2.DpAll.getV (i := i) (v := v) t (by simpa using e)
    exact ⟨u, by simpa using h1, h2⟩
theorem Paired.mp {α β : Type} {F G : α → β → Prop} : ∀ {l₁ : List α} {l₂ : List β}, Paired F l₁ l₂ → (∀ a b, F a b → G a b) → Paired G l₁ l₂
  | _, _, .nil, _ => .nil
  | _, _, .cons h t, f => .cons (f _ _ h) (Paired.mp t f)
theorem KeyAt.up {K : PySem.W.Frag} {H H' : Hp} (e : ∀ a o, H a = some o → H' a = some o) {b : Addr} {ks : List Leaf} (h : Tb.KeyAt K H b ks) : Tb.KeyAt K H' b ks :=
  let ⟨vs, h1, h2⟩ := h
  ⟨vs, SqT.up e h1, h2⟩
theorem TR.up {K : Kw} {H H' : Hp} (e : ∀ a o, H a = some o → H' a = some o) {x : List Leaf × Addr × V} {q : List Leaf × PyData × PyData} (h : TR K H x q) : TR K H' x q := ⟨h.1, KeyAt.up e h.2.1, Dp.up e _ h.2.2.1, Dp.up e _ h.2.2.2⟩
theorem ImR.up {K : Kw} {H H' : Hp} (e : ∀ a o, H a = some o → H' a = some o) : ∀ {i : Im} {v : V}, ImR K H v i → ImR K H' v i
  | .tab _, _, ⟨a, xs, h1, h2, h3, h4, h5⟩ => ⟨a, xs, h1, e _ _ h2, h3, h4, Paired.mp h5 fun _ _ q => q.up e⟩
  | .dct _, _, ⟨a, ws, h1, h2, h3⟩ => ⟨a, ws, h1, e _ _ h2, Paired.mp h3 fun _ _ q => ⟨q.1, Dp.up e _ q.2⟩⟩
theorem Rx.up {K : Kw} {C C' : Cs} {H H' : Hp} (e : ∀ a o, hid C H a = some o → hid C' H' a = some o) (s : ∀ a, (C a).isSome = true → (C' a).isSome = true) : ∀ {x : Ax} {v : V}, Rx K C H v x → Rx K C' H' v x
  | .dat d, _, h => Dp.up e d h
  | .ref _, _, h => ⟨h.1, s _ h.2⟩
  | .imm _, _, h => ImR.up e h
theorem Adv.rx {K : Kw} {C C' : Cs} {H H' : Hp} {v : V} {x : Ax} (a : Adv K C H C' H') (h : Rx K C H v x) : Rx K C' H' v x := Rx.up a.ex a.sub h
theorem Adv.refl {K : Kw} {C : Cs} {H : Hp} (c : Cells K C H) : Adv K C H C H := ⟨fun _ _ h => h, fun _ h => h, c⟩
theorem Adv.trans {K : Kw} {C C1 C2 : Cs} {H H1 H2 : Hp} (a : Adv K C H C1 H1) (b : Adv K C1 H1 C2 H2) : Adv K C H C2 H2 :=
  ⟨fun x o h => b.ex x o (a.ex x o h), fun x h => b.sub x (a.sub x h), b.cells⟩
theorem Adv.sta {K : Kw} {Γ : Gm} {C C' : Cs} {σ : L2.St} {H H' : Hp} (a : Adv K C H C' H') (h : Sta K Γ C σ H) : Sta K Γ C' σ H' :=
  ⟨h.len, fun i x e => let ⟨v, e1, r⟩ := h.slot i x e; ⟨v, e1, a.rx r⟩, a.cells⟩
theorem Sta.adv {K : Kw} {Γ : Gm} {C : Cs} {σ : L2.St} {H : Hp} (h : Sta K Γ C σ H) : Adv K C H C H := Adv.refl h.cells
theorem Paired.map2 {α β : Type} {F G : α → β → Prop} : ∀ {l₁ : List α} {l₂ : List β}, Paired F l₁ l₂ → (∀ a b, F a b → G a b) → Paired G l₁ l₂
  | _, _, .nil, _ => .nil
  | _, _, .cons h t, f => .cons (f _ _ h) (Paired.map2 t f)
theorem Cell.up {K : Kw} {C C' : Cs} {H H' : Hp} {a : Addr} (e : ∀ a o, hid C H a = some o → hid C' H' a = some o) (s : ∀ a, (C a).isSome = true → (C' a).isSome = true) (k : H' a = H a) : ∀ {o : MO}, Cell K C H a o → Cell K C' H' a o
  | .lst _, ⟨vs, h, r⟩ => ⟨vs, k.trans h, Paired.map2 r fun _ _ q => Rx.up e s q⟩
  | .dic _, ⟨ws, h, r⟩ => ⟨ws, k.trans h, Paired.map2 r fun _ _ q => ⟨q.1, Rx.up e s q.2⟩⟩
  | .tab _, ⟨xs, h, h2, h3, r⟩ => ⟨xs, k.trans h, h2, h3, Paired.mp r fun _ _ q => q.up e⟩
  | .code _, ⟨m, ps, h, t, r⟩ => ⟨m, ps, k.trans h, t, fun pos cv z => let ⟨c, e1, e2⟩ := r pos cv z; ⟨c, e1, e _ _ e2⟩⟩
  | .rng _ _, h => Eq.trans k h
  | .ins _ _, ⟨dx, vs, h, r⟩ => ⟨dx, vs, k.trans h, Paired.map2 r fun _ _ q => ⟨q.1, Rx.up e s q.2⟩⟩
theorem Cells.some {K : Kw} {C : Cs} {H : Hp} (c : Cells K C H) {a : Addr} (h : (C a).isSome = true) : (H a).isSome = true := by
  cases e : C a with
  | none => rw [e] at h; cases h
  | some o =>
    have q := c a o e
    cases o with
    | lst xs => obtain ⟨vs, h, _⟩ := q; rw [h]; rfl
    | dic xs => obtain ⟨vs, h, _⟩ := q; rw [h]; rfl
    | tab xs => obtain ⟨vs, h, _⟩ := q; rw [h]; rfl
    | code xs => obtain ⟨_, vs, h, _⟩ := q; rw [h]; rfl
    | rng lo hi => have q : H a = Option.some (L2.HO.rng lo hi) := q; rw [q]; rfl
    | ins cl xs => obtain ⟨_, vs, h, _⟩ := q; rw [h]; rfl
theorem Cells.free {K : Kw} {C : Cs} {H : Hp} (c : Cells K C H) {a : Addr} (h : H a = none) : C a = none := by
  cases e : C a with
  | none => rfl
  | some o =>
    have := c.some (a := a) (by rw [e]; rfl)
    rw [h] at this
    cases this
/-- a new immutable object -/
theorem Adv.new {K : Kw} {C : Cs} {H : Hp} {p : Addr} {o : HO} (c : Cells K C H) (hp : H p = none) : Adv K C H C (upd H p o) := by
  have cp := c.free hp
  have ex : ∀ a u, hid C H a = some u → hid C (upd H p o) a = some u := fun a u h => by
    have h1 := hid_le a u h
    have ne : a ≠ p := ne_of_none h1 hp
    unfold hid at h ⊢
    rw [upd_ne ne]
    exact h
  refine ⟨ex, fun _ h => h, fun a u e => ?_⟩
  · have ne : a ≠ p := fun z => by subst z; rw [cp] at e; cases e
    exact Cell.up ex (fun _ h => h) (upd_ne ne) (c a u e)
def updC (C : Cs) (a : Addr) (o : MO) : Cs := fun b => if b = a then some o else C b
theorem updC_same {C : Cs} {a : Addr} {o : MO} : updC C a o a = some o := by unfold updC; rw [if_pos rfl]
theorem updC_ne {C : Cs} {a b : Addr} {o : MO} (h : b ≠ a) : updC C a o b = C b := by unfold updC; rw [if_neg h]
theorem updC_sub {C : Cs} {a : Addr} {o : MO} : ∀ b, (C b).isSome = true → (updC C a o b).isSome = true := fun b h => by
  by_cases e : b = a
  · subst e; rw [updC_same]; rfl
  · rw [updC_ne e]; exact h
def repH : MO → HO → Prop
  | .lst _, .lst _ => True
  | .dic _, .dK _ => True
  | _, _ => False
/-- a new mutable list -/
theorem Adv.newL {K : Kw} {C : Cs} {H : Hp} {p : Addr} {vs : List V} {xs : List Ax} (c : Cells K C H) (hp : H p = none) (r : RxA K C H vs xs) : Adv K C H (updC C p (.lst xs)) (upd H p (.lst vs)) := by
  have ex : ∀ a u, hid C H a = some u → hid (updC C p (.lst xs)) (upd H p (.lst vs)) a = some u := fun a u h => by
    have h1 := hid_le a u h
    have ne : a ≠ p := ne_of_none h1 hp
    unfold hid at h ⊢
    rw [upd_ne ne, updC_ne ne]
    exact h
  refine ⟨ex, updC_sub, fun a u e => ?_⟩
  · by_cases ha : a = p
    · subst ha
      rw [updC_same] at e
      cases e
      exact ⟨vs, upd_same, Paired.map2 r fun _ _ q => Rx.up ex updC_sub q⟩
    · rw [updC_ne ha] at e
      exact Cell.up ex updC_sub (upd_ne ha) (c a u e)
/-- a mutable list changes -/
theorem Adv.setL {K : Kw} {C : Cs} {H : Hp} {p : Addr} {vs : List V} {xs : List Ax} (c : Cells K C H) (hp : (C p).isSome = true) (r : RxA K C H vs xs) : Adv K C H (updC C p (.lst xs)) (upd H p (.lst vs)) := by
  have ex : ∀ a u, hid C H a = some u → hid (updC C p (.lst xs)) (upd H p (.lst vs)) a = some u := fun a u h => by
    have ne : a ≠ p := fun z => by
      subst z
      unfold hid at h
      rw [if_pos hp] at h
      cases h
    unfold hid at h ⊢
    rw [upd_ne ne, updC_ne ne]
    exact h
  refine ⟨ex, updC_sub, fun a u e => ?_⟩
  · by_cases ha : a = p
    · subst ha
      rw [updC_same] at e
      cases e
      exact ⟨vs, upd_same, Paired.map2 r fun _ _ q => Rx.up ex updC_sub q⟩
    · rw [updC_ne ha] at e
      exact Cell.up ex updC_sub (upd_ne ha) (c a u e)
/-- a dict keyed by tuples: new, or changed -/
theorem Adv.tab {K : Kw} {C : Cs} {H : Hp} {p : Addr} {xs : Tb.Rows V} {kvs : List (List Leaf × PyData × PyData)} (c : Cells K C H) (hp : H p = none ∨ (C p).isSome = true) (hl : xs.length ≤ sizeLine) (hs : (p == sysModules) = false) (r : Paired (TR K (hid C H)) xs kvs) :
    Adv K C H (updC C p (.tab kvs)) (upd H p (Tb.TabO K.P K.w p xs)) := by
  have ex : ∀ a u, hid C H a = some u → hid (updC C p (.tab kvs)) (upd H p (Tb.TabO K.P K.w p xs)) a = some u := fun a u h => by
    have ne : a ≠ p := fun z => by
      subst z
      rcases hp with hp | hp
      · rw [hid_le a u h] at hp
        cases hp
      · unfold hid at h
        rw [if_pos hp] at h
        cases h
    unfold hid at h ⊢
    rw [upd_ne ne, updC_ne ne]
    exact h
  refine ⟨ex, updC_sub, fun a u e => ?_⟩
  · by_cases ha : a = p
    · subst ha
      rw [updC_same] at e
      cases e
      exact ⟨xs, upd_same, hl, hs, Paired.mp r fun _ _ q => q.up ex⟩
    · rw [updC_ne ha] at e
      exact Cell.up ex updC_sub (upd_ne ha) (c a u e)
theorem Sta.set {K : Kw} {Γ : Gm} {C : Cs} {σ : L2.St} {H : Hp} {v : V} {x : Ax} (s : Sta K Γ C σ H) (i : Nat) (r : Rx K C H v x) : Sta K (Γ.set i (some x)) C (σ.set i (some v)) H := by
  refine ⟨by rw [List.length_set, List.length_set, s.len], fun j y e => ?_, s.cells⟩
  by_cases ij : i = j
  · subst ij
    by_cases hi : i < Γ.length
    · rw [List.getElem?_set_self hi] at e
      cases e
      exact ⟨v, List.getElem?_set_self (by rw [s.len]; exact hi), r⟩
    · rw [List.getElem?_eq_none (by rw [List.length_set]; omega)] at e
      cases e
  · rw [List.getElem?_set_ne ij] at e
    obtain ⟨w, e1, q⟩ := s.slot j y e
    exact ⟨w, by rw [List.getElem?_set_ne ij]; exact e1, q⟩
/-- less is known -/
def Le : Gm → Gm → Prop
  | [], [] => True
  | none :: r, _ :: q => Le r q
  | some x :: r, y :: q => y = some x ∧ Le r q
  | _, _ => False
theorem Le.len : ∀ {Γ Δ : Gm}, Le Γ Δ → Γ.length = Δ.length
  | [], [], _ => rfl
  | none :: r, _ :: q, h => by simp [Le.len (Γ := r) (Δ := q) h]
  | some x :: r, y :: q, h => by simp [Le.len (Γ := r) (Δ := q) h.2]
theorem Le.get : ∀ {Γ Δ : Gm} {i : Nat} {x : Ax}, Le Γ Δ → Γ[i]? = some (some x) → Δ[i]? = some (some x)
  | [], [], _, _, _, e => by simp at e
  | none :: r, _ :: q, 0, _, _, e => by simp at e
  | none :: r, _ :: q, i + 1, x, h, e => by
    have := Le.get (Γ := r) (Δ := q) (i := i) (x := x) h (by simpa using e)
    simpa using this
  | some x :: r, y :: q, 0, z, h, e => by
    simp at e
    subst e
    simp [h.1]
  | some x :: r, y :: q, i + 1, z, h, e => by
    have := Le.get (Γ := r) (Δ := q) (i := i) (x := z) h.2 (by simpa using e)
    simpa using this
theorem Le.refl : ∀ Γ : Gm, Le Γ Γ
  | [] => trivial
  | none :: r => Le.refl r
  | some x :: r => ⟨rfl, Le.refl r⟩
theorem Sta.weak {K : Kw} {Γ Δ : Gm} {C : Cs} {σ : L2.St} {H : Hp} (s : Sta K Δ C σ H) (h : Le Γ Δ) : Sta K Γ C σ H :=
  ⟨s.len.trans h.len.symm, fun i x e => s.slot i x (h.get e), s.cells⟩
end Ab

/-! Ab2: judgements over the abstract store, rules for expressions. -/
namespace Ab
open PySem PySem.Spec PyProof.Rows L2

abbrev I (i : Int) : Ax := .dat (.int i)
abbrev B (b : Bool) : Ax := .dat (.bool b)
abbrev S (s : Str) : Ax := .dat (.str s)
abbrev T (ds : List PyData) : Ax := .dat (.tuple ds)
abbrev Ls (ds : List PyData) : Ax := .dat (.list ds)
abbrev No : Ax := .dat .none

section
variable (K : Kw)
def Ev (te : TE) (Γ : Gm) (C : Cs) (P : Ax → Cs → Prop) : Prop := ∀ σ H, Sta K Γ C σ H → ∀ Q : VK, (∀ v x C2 H2, Adv K C H C2 H2 → Rx K C2 H2 v x → P x C2 → Q v H2) → te σ H Q
def Pu (te : TE) (Γ : Gm) (C : Cs) (x : Ax) : Prop := ∀ σ H, Sta K Γ C σ H → ∀ Q : VK, (∀ v H2, Adv K C H C H2 → Rx K C H2 v x → Q v H2) → te σ H Q
def EvT (tt : TT) (Γ : Gm) (C : Cs) (P : Bool → Cs → Prop) : Prop := ∀ σ H, Sta K Γ C σ H → ∀ Q : Bool → Hp → Prop, (∀ b C2 H2, Adv K C H C2 H2 → P b C2 → Q b H2) → tt σ H Q
def PuT (tt : TT) (Γ : Gm) (C : Cs) (b : Bool) : Prop := ∀ σ H, Sta K Γ C σ H → ∀ Q : Bool → Hp → Prop, (∀ H2, Adv K C H C H2 → Q b H2) → tt σ H Q
def PuA (ta : TA) (Γ : Gm) (C : Cs) (xs : List Ax) : Prop := ∀ σ H, Sta K Γ C σ H → ∀ Q : List V → Hp → Prop, (∀ vs H2, Adv K C H C H2 → RxA K C H2 vs xs → Q vs H2) → ta σ H Q
def PuO (to : TO) (Γ : Gm) (C : Cs) (o : Option Int) : Prop := ∀ σ H, Sta K Γ C σ H → ∀ Q : Option Int → Hp → Prop, (∀ H2, Adv K C H C H2 → Q o H2) → to σ H Q
/-- a new list: its items, its place free before -/
def PuL (te : TE) (Γ : Gm) (C : Cs) (xs : List Ax) : Prop := ∀ σ H, Sta K Γ C σ H → ∀ Q : VK, (∀ p vs H1, Adv K C H C H1 → H1 p = none → RxA K C H1 vs xs → Q (.ref p) (upd H1 p (.lst vs))) → te σ H Q
/-- by values -/
def R2u (r : R2) (C : Cs) (x y z : Ax) : Prop := ∀ v w H, Cells K C H → Rx K C H v x → Rx K C H w y → ∀ Q : VK, (∀ u H2, Adv K C H C H2 → Rx K C H2 u z → Q u H2) → r v w H Q
def RCu (r : List V → Hp → VK → Prop) (C : Cs) (xs : List Ax) (z : Ax) : Prop := ∀ vs H, Cells K C H → RxA K C H vs xs → ∀ Q : VK, (∀ u H2, Adv K C H C H2 → Rx K C H2 u z → Q u H2) → r vs H Q
def SpG (rel : Cs → List Ax → (Ax → Cs → Prop) → Prop) : Sp := fun vs H Q _ => ∃ C xs P, Cells K C H ∧ RxA K C H vs xs ∧ rel C xs P ∧ ∀ v x C' H', Adv K C H C' H' → Rx K C' H' v x → P x C' → Q v H'
end
variable {K : Kw} {Γ : Gm} {C : Cs} {ta tb tc te : TE} {x y z : Ax} {t u : TT} {r : R2}

theorem rx_int {H : Hp} {v : V} {i : Int} (h : Rx K C H v (I i)) : v = .int i := by cases h; rfl
theorem rx_bl {H : Hp} {v : V} {i : Bool} (h : Rx K C H v (B i)) : v = .bl i := by cases h; rfl
theorem rx_str {H : Hp} {v : V} {i : Str} (h : Rx K C H v (S i)) : v = .str i := by cases h; rfl
theorem rx_no {H : Hp} {v : V} (h : Rx K C H v No) : v = .non := by cases h; rfl
theorem rx_I {H : Hp} {i : Int} : Rx K C H (.int i) (I i) := Dp.int i
theorem rx_B {H : Hp} {i : Bool} : Rx K C H (.bl i) (B i) := Dp.bl i
theorem rx_S {H : Hp} {i : Str} : Rx K C H (.str i) (S i) := Dp.str i
theorem rx_N {H : Hp} : Rx K C H .non No := Dp.non
theorem rxa_dat {H : Hp} : ∀ {vs : List V} {ds : List PyData}, DpAll K (hid C H) vs ds → RxA K C H vs (ds.map .dat)
  | _, _, .nil => .nil
  | _, _, .cons h t => .cons h (rxa_dat t)
theorem dat_rxa {H : Hp} : ∀ {vs : List V} {ds : List PyData}, RxA K C H vs (ds.map .dat) → DpAll K (hid C H) vs ds
  | _, [], h => by cases h; exact .nil
  | _, d :: ds, h => by
    cases h with
    | cons a b => exact .cons a (dat_rxa b)

theorem Pu.ev (h : Pu K te Γ C x) : Ev K te Γ C (fun y C2 => y = x ∧ C2 = C) := fun σ H s Q q => h σ H s Q fun v H2 a r => q v x C H2 a r ⟨rfl, rfl⟩
theorem PuT.ev {b : Bool} (h : PuT K t Γ C b) : EvT K t Γ C (fun y C2 => y = b ∧ C2 = C) := fun σ H s Q q => h σ H s Q fun H2 a => q b C H2 a ⟨rfl, rfl⟩
theorem Ev.imp {P P' : Ax → Cs → Prop} (h : Ev K te Γ C P) (k : ∀ x C, P x C → P' x C) : Ev K te Γ C P' := fun σ H s Q q => h σ H s Q fun v x C2 H2 a r p => q v x C2 H2 a r (k _ _ p)

/-! ### expressions -/
theorem pu_var {i : Nat} (h : Γ[i]? = some (some x)) : Pu K (tVar i) Γ C x := fun σ H s Q q =>
  let ⟨v, e, r⟩ := s.slot i x h
  ⟨v, e, q v H s.adv r⟩
theorem pu_int {i : Int} : Pu K (tC (.int i)) Γ C (I i) := fun σ H s Q q => q _ H s.adv rx_I
theorem pu_bl {i : Bool} : Pu K (tC (.bl i)) Γ C (B i) := fun σ H s Q q => q _ H s.adv rx_B
theorem pu_str {i : Str} : Pu K (tC (.str i)) Γ C (S i) := fun σ H s Q q => q _ H s.adv rx_S
theorem pu_no : Pu K (tC .non) Γ C No := fun σ H s Q q => q _ H s.adv rx_N
theorem pu_op (ha : Pu K ta Γ C x) (hb : Pu K tb Γ C y) (hr : R2u K r C x y z) : Pu K (tOp r ta tb) Γ C z := fun σ H s Q q =>
  ha σ H s _ fun v H1 a1 r1 => hb σ H1 (a1.sta s) _ fun w H2 a2 r2 => hr v w H2 a2.cells (a2.rx r1) r2 Q fun u H3 a3 r3 => q u H3 ((a1.trans a2).trans a3) r3
theorem ri0 {f : Int → Int → V} {i j : Int} (h : ∀ H, Rx K C H (f i j) z) : R2u K (rI0 f) C (I i) (I j) z := fun v w H c r1 r2 Q q => by
  cases rx_int r1; cases rx_int r2
  exact ⟨i, j, rfl, rfl, q _ H (Adv.refl c) (h H)⟩
theorem ri1 {G : Int → Int → Prop} {f : Int → Int → V} {i j : Int} (g : G i j) (h : ∀ H, Rx K C H (f i j) z) : R2u K (rI G f) C (I i) (I j) z := fun v w H c r1 r2 Q q => by
  cases rx_int r1; cases rx_int r2
  exact ⟨i, j, rfl, rfl, g, q _ H (Adv.refl c) (h H)⟩
section
variable {i j : Int}
theorem pu_add (ha : Pu K ta Γ C (I i)) (hb : Pu K tb Γ C (I j)) : Pu K (tOp (rI0 fun i j => .int (i + j)) ta tb) Γ C (I (i + j)) := pu_op ha hb (ri0 fun _ => rx_I)
theorem pu_sub (ha : Pu K ta Γ C (I i)) (hb : Pu K tb Γ C (I j)) : Pu K (tOp (rI0 fun i j => .int (i - j)) ta tb) Γ C (I (i - j)) := pu_op ha hb (ri0 fun _ => rx_I)
theorem pu_mul (ha : Pu K ta Γ C (I i)) (hb : Pu K tb Γ C (I j)) (h : CMul i j) : Pu K (tOp (rI CMul fun i j => .int (i * j)) ta tb) Γ C (I (i * j)) := pu_op ha hb (ri1 h fun _ => rx_I)
theorem pu_mulW (ha : Pu K ta Γ C (I i)) (hb : Pu K tb Γ C (I j)) (h : CMulW i j) : Pu K (tOp (rI CMulW fun i j => .int (i * j)) ta tb) Γ C (I (i * j)) := pu_op ha hb (ri1 h fun _ => rx_I)
theorem pu_mod (ha : Pu K ta Γ C (I i)) (hb : Pu K tb Γ C (I j)) (h : 0 < j) : Pu K (tOp (rI (fun _ j => 0 < j) fun i j => .int (i % j)) ta tb) Γ C (I (i % j)) := pu_op ha hb (ri1 h fun _ => rx_I)
theorem pu_fdiv (ha : Pu K ta Γ C (I i)) (hb : Pu K tb Γ C (I j)) (h : CDiv i j) : Pu K (tOp (rI CDiv fun i j => .int (i / j)) ta tb) Γ C (I (i / j)) := pu_op ha hb (ri1 h fun _ => rx_I)
theorem pu_pow (ha : Pu K ta Γ C (I i)) (hb : Pu K tb Γ C (I j)) (h : CPow i j) : Pu K (tOp (rI CPow fun i j => .int (i ^ j.toNat)) ta tb) Γ C (I (i ^ j.toNat)) := pu_op ha hb (ri1 h fun _ => rx_I)
theorem pu_lt (ha : Pu K ta Γ C (I i)) (hb : Pu K tb Γ C (I j)) : Pu K (tOp (rI0 fun i j => .bl (decide (i < j))) ta tb) Γ C (B (decide (i < j))) := pu_op ha hb (ri0 fun _ => rx_B)
theorem pu_le (ha : Pu K ta Γ C (I i)) (hb : Pu K tb Γ C (I j)) : Pu K (tOp (rI0 fun i j => .bl (decide (i ≤ j))) ta tb) Γ C (B (decide (i ≤ j))) := pu_op ha hb (ri0 fun _ => rx_B)
theorem pu_gt (ha : Pu K ta Γ C (I i)) (hb : Pu K tb Γ C (I j)) : Pu K (tOp (rI0 fun i j => .bl (decide (j < i))) ta tb) Γ C (B (decide (j < i))) := pu_op ha hb (ri0 fun _ => rx_B)
theorem pu_ge (ha : Pu K ta Γ C (I i)) (hb : Pu K tb Γ C (I j)) : Pu K (tOp (rI0 fun i j => .bl (decide (j ≤ i))) ta tb) Γ C (B (decide (j ≤ i))) := pu_op ha hb (ri0 fun _ => rx_B)
end
/-- scalars -/
def scD : PyData → Option V
  | .none => some .non
  | .bool b => some (.bl b)
  | .int i => some (.int i)
  | .str s => some (.str s)
  | _ => none
theorem scD_rx {H : Hp} {v w : V} {d : PyData} (h : scD d = some w) (r : Rx K C H v (.dat d)) : v = w := by
  cases d <;> simp [scD] at h <;> subst h <;> cases r <;> rfl
theorem pu_eqS {d e : PyData} {v w : V} (ha : Pu K ta Γ C (.dat d)) (hb : Pu K tb Γ C (.dat e)) (hd : scD d = some v) (he : scD e = some w) (hs : scal v w = true) : Pu K (tOp rEq ta tb) Γ C (B (decide (v = w))) :=
  pu_op ha hb fun v' w' H c r1 r2 Q q => by
    cases scD_rx hd r1; cases scD_rx he r2
    exact ⟨hs, q _ H (Adv.refl c) rx_B⟩
theorem pu_neS {d e : PyData} {v w : V} (ha : Pu K ta Γ C (.dat d)) (hb : Pu K tb Γ C (.dat e)) (hd : scD d = some v) (he : scD e = some w) (hs : scal v w = true) : Pu K (tOp rNe ta tb) Γ C (B (!decide (v = w))) :=
  pu_op ha hb fun v' w' H c r1 r2 Q q => by
    cases scD_rx hd r1; cases scD_rx he r2
    exact ⟨hs, q _ H (Adv.refl c) rx_B⟩
theorem dec_i {i j : Int} : decide (V.int i = V.int j) = decide (i = j) := by
  by_cases h : i = j
  · rw [decide_eq_true h, decide_eq_true (by rw [h])]
  · rw [decide_eq_false h, decide_eq_false (by simpa using h)]
theorem dec_s {i j : Str} : decide (V.str i = V.str j) = decide (i = j) := by
  by_cases h : i = j
  · rw [decide_eq_true h, decide_eq_true (by rw [h])]
  · rw [decide_eq_false h, decide_eq_false (by simpa using h)]
theorem pu_eqI {i j : Int} (ha : Pu K ta Γ C (I i)) (hb : Pu K tb Γ C (I j)) : Pu K (tOp rEq ta tb) Γ C (B (decide (i = j))) := by
  have := pu_eqS ha hb rfl rfl rfl
  rw [dec_i] at this
  exact this
theorem pu_neI {i j : Int} (ha : Pu K ta Γ C (I i)) (hb : Pu K tb Γ C (I j)) : Pu K (tOp rNe ta tb) Γ C (B (!decide (i = j))) := by
  have := pu_neS ha hb rfl rfl rfl
  rw [dec_i] at this
  exact this
theorem pu_eqStr {i j : Str} (ha : Pu K ta Γ C (S i)) (hb : Pu K tb Γ C (S j)) : Pu K (tOp rEq ta tb) Γ C (B (decide (i = j))) := by
  have := pu_eqS ha hb rfl rfl rfl
  rw [dec_s] at this
  exact this
theorem pu_neStr {i j : Str} (ha : Pu K ta Γ C (S i)) (hb : Pu K tb Γ C (S j)) : Pu K (tOp rNe ta tb) Γ C (B (!decide (i = j))) := by
  have := pu_neS ha hb rfl rfl rfl
  rw [dec_s] at this
  exact this
theorem rx_dp {H : Hp} {v : V} {d : PyData} (r : Rx K C H v (.dat d)) : Dp K H v d := Dp.up hid_le d r
theorem pu_eqD {d e : PyData} (ha : Pu K ta Γ C (.dat d)) (hb : Pu K tb Γ C (.dat e)) (hd : SeqAt.shaped d = true) (he : SeqAt.shaped e = true) : Pu K (tOp (rEqD K) ta tb) Γ C (B (PyData.eqv d e)) :=
  pu_op ha hb fun v w H c r1 r2 Q q => ⟨d, e, rx_dp r1, rx_dp r2, hd, he, q _ H (Adv.refl c) rx_B⟩
theorem pu_neD {d e : PyData} (ha : Pu K ta Γ C (.dat d)) (hb : Pu K tb Γ C (.dat e)) (hd : SeqAt.shaped d = true) (he : SeqAt.shaped e = true) : Pu K (tOp (rNeD K) ta tb) Γ C (B (!PyData.eqv d e)) :=
  pu_op ha hb fun v w H c r1 r2 Q q => ⟨d, e, rx_dp r1, rx_dp r2, hd, he, q _ H (Adv.refl c) rx_B⟩
/-! ### subscripts -/
theorem atI_D {H : Hp} {vs : List V} {ds : List PyData} {i : Int} {d : PyData} (h : DpAll K H vs ds) (e : atI ds i = some d) : ∃ v, atI vs i = some v ∧ Dp K H v d := by
  unfold atI at e ⊢
  rw [h.len]
  cases hi : ixN ds.length i with
  | none => rw [hi] at e; cases e
  | some j =>
    rw [hi] at e
    exact h.get e
theorem pu_ixT {ds : List PyData} {i : Int} {d : PyData} (ha : Pu K ta Γ C (T ds)) (hb : Pu K tb Γ C (I i)) (h : atI ds i = some d) : Pu K (tOp (rIxT K) ta tb) Γ C (.dat d) :=
  pu_op ha hb fun v w H c r1 r2 Q q => by
    cases rx_int r2
    cases r1 with
    | tup hs hd =>
      obtain ⟨u, e1, e2⟩ := atI_D hd h
      exact ⟨_, _, i, u, rfl, rfl, SqT.up hid_le hs, e1, q _ H (Adv.refl c) e2⟩
theorem pu_ixL {ds : List PyData} {i : Int} {d : PyData} (ha : Pu K ta Γ C (Ls ds)) (hb : Pu K tb Γ C (I i)) (h : atI ds i = some d) : Pu K (tOp (rIxL K) ta tb) Γ C (.dat d) :=
  pu_op ha hb fun v w H c r1 r2 Q q => by
    cases rx_int r2
    cases r1 with
    | lst hs hd =>
      obtain ⟨u, e1, e2⟩ := atI_D hd h
      exact ⟨_, _, i, u, rfl, rfl, SqL.up hid_le hs, e1, q _ H (Adv.refl c) e2⟩
theorem rxa_get {H : Hp} : ∀ {vs : List V} {xs : List Ax} {i : Nat} {x : Ax}, RxA K C H vs xs → xs[i]? = some x → ∃ v, vs[i]? = some v ∧ Rx K C H v x
  | _, _, _, _, .nil, e => by simp at e
  | _, _, 0, _, .cons r _, e => by simp at e; subst e; exact ⟨_, rfl, r⟩
  | _, _, i + 1, d, .cons _ t, e => by
    obtain ⟨u, h1, h2⟩ := rxa_get (i := i) (x := d) t (by simpa using e)
    exact ⟨u, by simpa using h1, h2⟩
theorem atI_A {H : Hp} {vs : List V} {xs : List Ax} {i : Int} {d : Ax} (h : RxA K C H vs xs) (e : atI xs i = some d) : ∃ v, atI vs i = some v ∧ Rx K C H v d := by
  unfold atI at e ⊢
  rw [h.length]
  cases hi : ixN xs.length i with
  | none => rw [hi] at e; cases e
  | some j =>
    rw [hi] at e
    exact rxa_get h e
/-- an item of a mutable list -/
theorem pu_ixM {a : Addr} {xs : List Ax} {i : Int} (ha : Pu K ta Γ C (.ref a)) (hb : Pu K tb Γ C (I i)) (hc : C a = some (.lst xs)) (h : atI xs i = some x) : Pu K (tOp (rIxL K) ta tb) Γ C x :=
  pu_op ha hb fun v w H c r1 r2 Q q => by
    cases rx_int r2
    obtain ⟨rfl, _⟩ := r1
    obtain ⟨vs, e1, e2⟩ := c a _ hc
    obtain ⟨u, e3, e4⟩ := atI_A e2 h
    exact ⟨_, _, i, u, rfl, rfl, SqL.of e1, e3, q _ H (Adv.refl c) e4⟩
/-! ### tests -/
theorem ut_test {b : Bool} (h : Pu K te Γ C (B b)) : PuT K (tTest te) Γ C b := fun σ H s Q q => h σ H s _ fun v H2 a r => by
  cases rx_bl r
  exact ⟨b, rfl, q H2 a⟩
theorem ut_B {b : Bool} (h : Pu K te Γ C (B b)) : PuT K (tB te) Γ C b := fun σ H s Q q => h σ H s _ fun v H2 a r => by
  cases rx_bl r
  exact ⟨b, rfl, q H2 a⟩
theorem ut_and {a b : Bool} (h1 : PuT K t Γ C a) (h2 : a = true → PuT K u Γ C b) : PuT K (tAnd t u) Γ C (a && b) := fun σ H s Q q => h1 σ H s _ fun H1 a1 => by
  cases a with
  | true =>
    show u σ H1 Q
    exact h2 rfl σ H1 (a1.sta s) Q fun H2 a2 => q H2 (a1.trans a2)
  | false =>
    show Q false H1
    exact q H1 a1
theorem ut_or {a b : Bool} (h1 : PuT K t Γ C a) (h2 : a = false → PuT K u Γ C b) : PuT K (tOr t u) Γ C (a || b) := fun σ H s Q q => h1 σ H s _ fun H1 a1 => by
  cases a with
  | true =>
    show Q true H1
    exact q H1 a1
  | false =>
    show u σ H1 Q
    exact h2 rfl σ H1 (a1.sta s) Q fun H2 a2 => q H2 (a1.trans a2)
theorem ut_not {a : Bool} (h : PuT K t Γ C a) : PuT K (tNot t) Γ C (!a) := fun σ H s Q q => h σ H s _ fun H1 a1 => q H1 a1
theorem ut_is {a b : Bool} (h : PuT K t Γ C a) (e : a = b) : PuT K t Γ C b := e ▸ h
theorem pu_is (h : Pu K te Γ C x) (e : x = y) : Pu K te Γ C y := e ▸ h
theorem pu_andV {a b : Bool} (h1 : Pu K ta Γ C (B a)) (h2 : a = true → Pu K tb Γ C (B b)) : Pu K (tAndV ta tb) Γ C (B (a && b)) := fun σ H s Q q => h1 σ H s _ fun v H1 a1 r1 => by
  cases rx_bl r1
  refine ⟨a, rfl, ?_⟩
  cases a with
  | true =>
    show tb σ H1 Q
    exact h2 rfl σ H1 (a1.sta s) Q fun v H2 a2 r => q v H2 (a1.trans a2) r
  | false =>
    show Q (.bl false) H1
    exact q _ H1 a1 rx_B
theorem pu_orV {a b : Bool} (h1 : Pu K ta Γ C (B a)) (h2 : a = false → Pu K tb Γ C (B b)) : Pu K (tOrV ta tb) Γ C (B (a || b)) := fun σ H s Q q => h1 σ H s _ fun v H1 a1 r1 => by
  cases rx_bl r1
  refine ⟨a, rfl, ?_⟩
  cases a with
  | true =>
    show Q (.bl true) H1
    exact q _ H1 a1 rx_B
  | false =>
    show tb σ H1 Q
    exact h2 rfl σ H1 (a1.sta s) Q fun v H2 a2 r => q v H2 (a1.trans a2) r
theorem pu_notV {a : Bool} (h1 : Pu K ta Γ C (B a)) : Pu K (tNotV ta) Γ C (B (!a)) := fun σ H s Q q => h1 σ H s _ fun v H1 a1 r1 => by
  cases rx_bl r1
  exact ⟨a, rfl, q _ H1 a1 rx_B⟩
theorem pu_if {b : Bool} (h : PuT K t Γ C b) (h1 : b = true → Pu K ta Γ C x) (h2 : b = false → Pu K tb Γ C x) : Pu K (tIf t ta tb) Γ C x := fun σ H s Q q => h σ H s _ fun H1 a1 => by
  cases b with
  | true =>
    show ta σ H1 Q
    exact h1 rfl σ H1 (a1.sta s) Q fun v H2 a2 r => q v H2 (a1.trans a2) r
  | false =>
    show tb σ H1 Q
    exact h2 rfl σ H1 (a1.sta s) Q fun v H2 a2 r => q v H2 (a1.trans a2) r
/-! ### arguments, displays -/
theorem au_nil : PuA K tNil Γ C [] := fun σ H s Q q => q [] H s.adv .nil
theorem au_cons {tr : TA} {xs : List Ax} (h : Pu K te Γ C x) (hr : PuA K tr Γ C xs) : PuA K (tCons te tr) Γ C (x :: xs) := fun σ H s Q q =>
  h σ H s _ fun v H1 a1 r1 => hr σ H1 (a1.sta s) _ fun vs H2 a2 r2 => q _ H2 (a1.trans a2) (.cons (a2.rx r1) r2)
theorem sz {n : Nat} (h : n ≤ 100000) : n ≤ sizeLine := Nat.le_trans h (by decide)
theorem szl {n : Nat} (h : n < 100000) : n < sizeLine := Nat.lt_of_lt_of_le h (by decide)
theorem pu_tup {tr : TA} {ds : List PyData} (h : PuA K tr Γ C (ds.map .dat)) (hl : ds.length ≤ 100000) : Pu K (tTup tr) Γ C (T ds) := fun σ H s Q q =>
  h σ H s _ fun vs H1 a1 r1 => ⟨sz (by rw [r1.length, List.length_map]; exact hl), fun p hp => by
    have a2 := Adv.new (o := .tup vs) a1.cells hp
    exact q _ _ (a1.trans a2) (.tup (SqT.of (hid_of upd_same (a1.cells.free hp))) (DpAll.up a2.ex ds (dat_rxa r1)))⟩
theorem pl_lst {tr : TA} {xs : List Ax} (h : PuA K tr Γ C xs) (hl : xs.length ≤ 100000) : PuL K (tLst tr) Γ C xs := fun σ H s Q q =>
  h σ H s _ fun vs H1 a1 r1 => ⟨sz (by rw [r1.length]; exact hl), fun p hp => q p vs H1 a1 hp r1⟩
/-- a new list as data -/
theorem pu_fz {ds : List PyData} (h : PuL K te Γ C (ds.map .dat)) : Pu K te Γ C (Ls ds) := fun σ H s Q q =>
  h σ H s _ fun p vs H1 a1 hp r => by
    have a2 := Adv.new (o := .lst vs) a1.cells hp
    exact q _ _ (a1.trans a2) (.lst (SqL.of (hid_of upd_same (a1.cells.free hp))) (DpAll.up a2.ex ds (dat_rxa r)))
theorem pu_cb {r : List V → Hp → VK → Prop} {tr : TA} {xs : List Ax} (h : PuA K tr Γ C xs) (hr : RCu K r C xs z) : Pu K (tCB r tr) Γ C z := fun σ H s Q q =>
  h σ H s _ fun vs H1 a1 r1 => hr vs H1 a1.cells r1 Q fun u H2 a2 r2 => q u H2 (a1.trans a2) r2
theorem pu_call {rel : Cs → List Ax → (Ax → Cs → Prop) → Prop} {E : XK} {tr : TA} {xs : List Ax} (h : PuA K tr Γ C xs) (hr : rel C xs fun y C2 => y = x ∧ C2 = C) : Pu K (tCall (SpG K rel) [] E tr) Γ C x := fun σ H s Q q =>
  h σ H s _ fun vs H1 a1 r1 => by
    rw [List.append_nil]
    refine ⟨C, xs, _, a1.cells, r1, hr, fun v y C2 H2 a2 r2 e => ?_⟩
    obtain ⟨rfl, rfl⟩ := e
    exact q v H2 (a1.trans a2) r2
theorem ev_call {rel : Cs → List Ax → (Ax → Cs → Prop) → Prop} {E : XK} {tr : TA} {xs : List Ax} {P : Ax → Cs → Prop} (h : PuA K tr Γ C xs) (hr : rel C xs P) : Ev K (tCall (SpG K rel) [] E tr) Γ C P := fun σ H s Q q =>
  h σ H s _ fun vs H1 a1 r1 => by
    rw [List.append_nil]
    exact ⟨C, xs, P, a1.cells, r1, hr, fun v y C2 H2 a2 r2 e => q v y C2 H2 (a1.trans a2) r2 e⟩
/-! ### len, list, tuple, int -/
def lenD : PyData → Option Nat
  | .list ds => some ds.length
  | .tuple ds => some ds.length
  | _ => none
def rLen (K : PySem.W.Frag) : List V → Hp → VK → Prop := fun xs H Q => ∃ p ys, xs = [.ref p] ∧ (SqL K H p ys ∨ SqT K H p ys) ∧ Q (.int ys.length) H
theorem rc_lenT {ds : List PyData} : RCu K (fun xs H Q => ∃ p ys, xs = [V.ref p] ∧ (SqL K H p ys ∨ SqT K H p ys) ∧ Q (.int ys.length) H) C [T ds] (I (ds.length : Int)) := fun vs H c r Q q => by
  cases r with
  | cons r1 rt =>
    cases rt
    cases r1 with
    | tup hs hd => exact ⟨_, _, rfl, .inr (SqT.up hid_le hs), q _ H (Adv.refl c) (by rw [hd.len]; exact rx_I)⟩
theorem rc_lenL {ds : List PyData} : RCu K (fun xs H Q => ∃ p ys, xs = [V.ref p] ∧ (SqL K H p ys ∨ SqT K H p ys) ∧ Q (.int ys.length) H) C [Ls ds] (I (ds.length : Int)) := fun vs H c r Q q => by
  cases r with
  | cons r1 rt =>
    cases rt
    cases r1 with
    | lst hs hd => exact ⟨_, _, rfl, .inl (SqL.up hid_le hs), q _ H (Adv.refl c) (by rw [hd.len]; exact rx_I)⟩
theorem rc_lenM {a : Addr} {xs : List Ax} (h : C a = some (.lst xs)) : RCu K (fun xs H Q => ∃ p ys, xs = [V.ref p] ∧ (SqL K H p ys ∨ SqT K H p ys) ∧ Q (.int ys.length) H) C [.ref a] (I (xs.length : Int)) := fun vs H c r Q q => by
  cases r with
  | cons r1 rt =>
    cases rt
    obtain ⟨rfl, _⟩ := r1
    obtain ⟨ws, e1, e2⟩ := c a _ h
    exact ⟨_, _, rfl, .inl (SqL.of e1), q _ H (Adv.refl c) (by rw [e2.length]; exact rx_I)⟩
/-- tuple(..) of a list of data; of a mutable list of data -/
theorem rc_tupL {ds : List PyData} : RCu K (fun xs H Q => ∃ p ys, xs = [V.ref p] ∧ ((SqL K H p ys ∧ ∀ l, H l = none → Q (.ref l) (upd H l (.tup ys))) ∨ (SqT K H p ys ∧ Q (.ref p) H))) C [Ls ds] (T ds) := fun vs H c r Q q => by
  cases r with
  | cons r1 rt =>
    cases rt
    cases r1 with
    | lst hs hd =>
      rename_i b us
      refine ⟨_, _, rfl, .inl ⟨SqL.up hid_le hs, fun l hl => ?_⟩⟩
      have a2 := Adv.new (o := .tup us) c hl
      exact q _ _ a2 (.tup (SqT.of (hid_of upd_same (c.free hl))) (DpAll.up a2.ex ds hd))
theorem rc_tupT {ds : List PyData} : RCu K (fun xs H Q => ∃ p ys, xs = [V.ref p] ∧ ((SqL K H p ys ∧ ∀ l, H l = none → Q (.ref l) (upd H l (.tup ys))) ∨ (SqT K H p ys ∧ Q (.ref p) H))) C [T ds] (T ds) := fun vs H c r Q q => by
  cases r with
  | cons r1 rt =>
    cases rt
    cases r1 with
    | tup hs hd => exact ⟨_, _, rfl, .inr ⟨SqT.up hid_le hs, q _ H (Adv.refl c) (.tup hs hd)⟩⟩
theorem rc_tupM {a : Addr} {ds : List PyData} (h : C a = some (.lst (ds.map .dat))) : RCu K (fun xs H Q => ∃ p ys, xs = [V.ref p] ∧ ((SqL K H p ys ∧ ∀ l, H l = none → Q (.ref l) (upd H l (.tup ys))) ∨ (SqT K H p ys ∧ Q (.ref p) H))) C [.ref a] (T ds) := fun vs H c r Q q => by
  cases r with
  | cons r1 rt =>
    cases rt
    obtain ⟨rfl, _⟩ := r1
    obtain ⟨ws, e1, e2⟩ := c a _ h
    refine ⟨_, _, rfl, .inl ⟨SqL.of e1, fun l hl => ?_⟩⟩
    have a2 := Adv.new (o := .tup ws) c hl
    exact q _ _ a2 (.tup (SqT.of (hid_of upd_same (c.free hl))) (DpAll.up a2.ex ds (dat_rxa e2)))
/-- list(..): a new list -/
theorem pl_listD {tr : TA} {d : PyData} {ds : List PyData} (h : PuA K tr Γ C [.dat d]) (e : d = .list ds ∨ d = .tuple ds) :
    PuL K (tCB (fun xs H Q => ∃ p ys, xs = [V.ref p] ∧ (SqL K H p ys ∨ SqT K H p ys) ∧ ∀ l, H l = none → Q (.ref l) (upd H l (.lst ys))) tr) Γ C (ds.map .dat) := fun σ H s Q q =>
  h σ H s _ fun vs H1 a1 r1 => by
    cases r1 with
    | cons r1 rt =>
      cases rt
      rcases e with rfl | rfl
      · cases r1 with
        | lst hs hd => exact ⟨_, _, rfl, .inl (SqL.up hid_le hs), fun l hl => q l _ H1 a1 hl (rxa_dat hd)⟩
      · cases r1 with
        | tup hs hd => exact ⟨_, _, rfl, .inr (SqT.up hid_le hs), fun l hl => q l _ H1 a1 hl (rxa_dat hd)⟩
theorem rc_int1 {i : Int} : RCu K (fun xs H Q => (∃ i, xs = [V.int i] ∧ Q (.int i) H) ∨ ∃ k, xs = [V.bl k] ∧ Q (.int (if k then 1 else 0)) H) C [I i] (I i) := fun vs H c r Q q => by
  cases r with
  | cons r1 rt =>
    cases rt
    cases rx_int r1
    exact .inl ⟨i, rfl, q _ H (Adv.refl c) rx_I⟩
theorem rc_intB {b : Bool} : RCu K (fun xs H Q => (∃ i, xs = [V.int i] ∧ Q (.int i) H) ∨ ∃ k, xs = [V.bl k] ∧ Q (.int (if k then 1 else 0)) H) C [B b] (I (if b then 1 else 0)) := fun vs H c r Q q => by
  cases r with
  | cons r1 rt =>
    cases rt
    cases rx_bl r1
    exact .inr ⟨b, rfl, q _ H (Adv.refl c) rx_I⟩
theorem rc_max2 {i j : Int} : RCu K (fun xs H Q => ∃ i j, xs = [V.int i, .int j] ∧ Q (.int (if j > i then j else i)) H) C [I i, I j] (I (if j > i then j else i)) := fun vs H c r Q q => by
  cases r with
  | cons r1 rt =>
    cases rt with
    | cons r2 rt =>
      cases rt
      cases rx_int r1; cases rx_int r2
      exact ⟨i, j, rfl, q _ H (Adv.refl c) rx_I⟩
/-! ### in -/
def flatD : PyData → Bool
  | .none => true
  | .bool _ => true
  | .int _ => true
  | .str _ => true
  | _ => false
end Ab

/-! Ab3: statements, loops, comprehensions over the abstract store. -/
namespace Ab
open PySem PySem.Spec PyProof.Rows L2

structure En where
  nx : Gm → Cs → Prop
  rt : Ax → Cs → Prop := fun _ _ => False
  bk : Gm → Cs → Prop := fun _ _ => False
  ct : Gm → Cs → Prop := fun _ _ => False
/-- the ends that are wanted, told from the anchor (C, H): the caller's store, or a loop's at its start; with what is known of its heap -/
structure Anc where
  C : Cs
  ok : Hp → Prop := fun _ => True
instance : Coe Cs Anc := ⟨fun C => { C := C }⟩
def AdvA (K : Kw) (An : Anc) (H0 : Hp) (C : Cs) (H : Hp) : Prop := An.ok H0 ∧ Adv K An.C H0 C H
theorem AdvA.trans {K : Kw} {An : Anc} {C C' : Cs} {H0 H H' : Hp} (a : AdvA K An H0 C H) (b : Adv K C H C' H') : AdvA K An H0 C' H' := ⟨a.1, a.2.trans b⟩
theorem AdvA.cells {K : Kw} {An : Anc} {C : Cs} {H0 H : Hp} (a : AdvA K An H0 C H) : Cells K C H := a.2.cells
theorem Adv.a {K : Kw} {An C : Cs} {H0 H : Hp} (a : Adv K An H0 C H) : AdvA K An H0 C H := ⟨trivial, a⟩
structure Fit (K : Kw) (E : En) (An : Anc) (H : Hp) (D : Ends) : Prop where
  nx : ∀ Γ C' σ' H', AdvA K An H C' H' → Sta K Γ C' σ' H' → E.nx Γ C' → D.nx σ' H'
  rt : ∀ x v C' H', AdvA K An H C' H' → Rx K C' H' v x → E.rt x C' → D.rt v H'
  bk : ∀ Γ C' σ' H', AdvA K An H C' H' → Sta K Γ C' σ' H' → E.bk Γ C' → D.bk σ' H'
  ct : ∀ Γ C' σ' H', AdvA K An H C' H' → Sta K Γ C' σ' H' → E.ct Γ C' → D.ct σ' H'
def Ds (K : Kw) (An : Anc) (ts : TS) (E : En) (Γ : Gm) (C : Cs) : Prop := ∀ H0 σ H, AdvA K An H0 C H → Sta K Γ C σ H → ∀ D, Fit K E An H0 D → ts D σ H
/-- a target takes x: Γ becomes Γ', only the slots vs change -/
def Chg (vs : List Nat) (σ σ' : L2.St) : Prop := σ'.length = σ.length ∧ ∀ i, i ∉ vs → σ'[i]? = σ[i]?
def Tg (K : Kw) (g : TG) (x : Ax) (Γ Γ' : Gm) (vs : List Nat) : Prop := ∀ C σ H v, Sta K Γ C σ H → Rx K C H v x → ∀ Q : L2.St → Hp → Prop, (∀ σ', Sta K Γ' C σ' H → Chg vs σ σ' → Q σ' H) → g v σ H Q

variable {K : Kw} {An : Anc} {Γ Γ' : Gm} {C : Cs} {ta tb tc te to ti : TE} {x y z : Ax} {t u rest : TS} {c : TT} {E : En} {g : TG}

theorem rx_ref {C : Cs} {H : Hp} {a : Addr} (h : (C a).isSome = true) : Rx K C H (.ref a) (.ref a) := ⟨rfl, h⟩
theorem tg_name {i : Nat} : Tg K (gName i) x Γ (Γ.set i (some x)) [i] := fun C σ H v s r Q q => q _ (s.set i r) ⟨List.length_set, fun j hj => List.getElem?_set_ne (fun e => hj (by simp [e]))⟩
theorem Chg.refl {vs : List Nat} {σ : L2.St} : Chg vs σ σ := ⟨rfl, fun _ _ => rfl⟩
theorem Chg.trans {vs ws : List Nat} {σ σ1 σ2 : L2.St} (a : Chg vs σ σ1) (b : Chg ws σ1 σ2) : Chg (vs ++ ws) σ σ2 :=
  ⟨b.1.trans a.1, fun i hi => by
    rw [List.mem_append, not_or] at hi
    exact (b.2 i hi.2).trans (a.2 i hi.1)⟩
/-- targets of a tuple -/
def TgL (K : Kw) (g : TGs) (ds : List PyData) (Γ Γ' : Gm) (vs : List Nat) : Prop := ∀ C σ H us, Sta K Γ C σ H → DpAll K (hid C H) us ds → ∀ Q : L2.St → Hp → Prop, (∀ σ', Sta K Γ' C σ' H → Chg vs σ σ' → Q σ' H) → g us σ H Q
theorem tgl_nil : TgL K gNil [] Γ Γ [] := fun C σ H us s r Q q => by
  cases r
  exact ⟨rfl, q σ s Chg.refl⟩
theorem tgl_cons {g : TG} {gs : TGs} {d : PyData} {ds : List PyData} {Γ1 Γ2 : Gm} {vs ws : List Nat} (h : Tg K g (.dat d) Γ Γ1 vs) (hs : TgL K gs ds Γ1 Γ2 ws) : TgL K (gCons g gs) (d :: ds) Γ Γ2 (vs ++ ws) := fun C σ H us s r Q q => by
  cases r with
  | cons r1 rt => exact ⟨_, _, rfl, h C σ H _ s r1 _ fun σ1 s1 c1 => hs C σ1 H _ s1 rt _ fun σ2 s2 c2 => q σ2 s2 (c1.trans c2)⟩
theorem tg_tup {gs : TGs} {ds : List PyData} {n : Nat} {vs : List Nat} (h : TgL K gs ds Γ Γ' vs) (hn : ds.length = n) : Tg K (gTup K n gs) (T ds) Γ Γ' vs := fun C σ H v s r Q q => by
  cases r with
  | tup hs hd => exact ⟨_, _, rfl, SqT.up hid_le hs, hd.len.trans hn, h C σ H _ s hd _ q⟩

/-! ### statements -/
theorem ds_next (h : E.nx Γ C) : Ds K An tNext E Γ C := fun H0 σ H b s D f => f.nx Γ C σ H b s h
theorem ds_brk (h : E.bk Γ C) : Ds K An tBreak E Γ C := fun H0 σ H b s D f => f.bk Γ C σ H b s h
theorem ds_ct (h : E.ct Γ C) : Ds K An tCont E Γ C := fun H0 σ H b s D f => f.ct Γ C σ H b s h
theorem ds_seq {M : Gm → Cs → Prop} (h : Ds K An t { E with nx := M } Γ C) (k : ∀ Γ' C', M Γ' C' → Ds K An u E Γ' C') : Ds K An (tSeq t u) E Γ C := fun H0 σ H b s D f =>
  h H0 σ H b s _ ⟨fun Γ1 C1 σ1 H1 a s1 m => k Γ1 C1 m H0 σ1 H1 a s1 D f, f.rt, f.bk, f.ct⟩
theorem ds_set {i : Nat} (h : Pu K te Γ C x) (k : Ds K An rest E (Γ.set i (some x)) C) : Ds K An (tSeq (tAsg te (gName i)) rest) E Γ C := fun H0 σ H b0 s D f =>
  h σ H s _ fun v H1 a r => k H0 (σ.set i (some v)) H1 (b0.trans a) ((a.sta s).set i r) D f
theorem ds_set1 {i : Nat} (h : Pu K te Γ C x) (k : E.nx (Γ.set i (some x)) C) : Ds K An (tAsg te (gName i)) E Γ C := fun H0 σ H b0 s D f =>
  h σ H s _ fun v H1 a r => f.nx _ C (σ.set i (some v)) H1 (b0.trans a) ((a.sta s).set i r) k
theorem ds_setE {i : Nat} {P : Ax → Cs → Prop} (h : Ev K te Γ C P) (k : ∀ x C', P x C' → Ds K An rest E (Γ.set i (some x)) C') : Ds K An (tSeq (tAsg te (gName i)) rest) E Γ C := fun H0 σ H b0 s D f =>
  h σ H s _ fun v x C1 H1 a r p => k x C1 p H0 (σ.set i (some v)) H1 (b0.trans a) ((a.sta s).set i r) D f
theorem ev_new {xs : List Ax} (h : PuL K te Γ C xs) : Ev K te Γ C (fun x C' => ∃ p, C p = none ∧ x = .ref p ∧ C' = updC C p (.lst xs)) := fun σ H s Q q =>
  h σ H s _ fun p vs H1 a hp r => by
    have b := Adv.newL a.cells hp r
    exact q _ _ _ _ (a.trans b) (rx_ref (by rw [updC_same]; rfl)) ⟨p, a.cells.free hp, rfl, rfl⟩
theorem ds_new {i : Nat} {xs : List Ax} (h : PuL K te Γ C xs) (k : ∀ p, C p = none → Ds K An rest E (Γ.set i (some (.ref p))) (updC C p (.lst xs))) : Ds K An (tSeq (tAsg te (gName i)) rest) E Γ C :=
  ds_setE (ev_new h) fun x C' ⟨p, e1, e2, e3⟩ => by subst e2; subst e3; exact k p e1
theorem ds_tgt {vs : List Nat} (h : Pu K te Γ C x) (ht : Tg K g x Γ Γ' vs) (k : Ds K An rest E Γ' C) : Ds K An (tSeq (tAsg te g) rest) E Γ C := fun H0 σ H b0 s D f =>
  h σ H s _ fun v H1 a r => ht C σ H1 v (a.sta s) r _ fun σ' s' _ => k H0 σ' H1 (b0.trans a) s' D f
theorem ds_ret (h : Pu K te Γ C x) (k : E.rt x C) : Ds K An (tRet te) E Γ C := fun H0 σ H b0 s D f =>
  h σ H s _ fun v H1 a r => f.rt x v C H1 (b0.trans a) r k
theorem ds_retE {P : Ax → Cs → Prop} (h : Ev K te Γ C P) (k : ∀ x C', P x C' → E.rt x C') : Ds K An (tRet te) E Γ C := fun H0 σ H b0 s D f =>
  h σ H s _ fun v x C1 H1 a r p => f.rt x v C1 H1 (b0.trans a) r (k x C1 p)
theorem ds_if {b : Bool} (h : PuT K c Γ C b) (h1 : b = true → Ds K An t E Γ C) (h2 : b = false → Ds K An u E Γ C) : Ds K An (tIfS c t u) E Γ C := fun H0 σ H b0 s D f =>
  h σ H s _ fun H1 a => by
    cases b with
    | true =>
      show t D σ H1
      exact h1 rfl H0 σ H1 (b0.trans a) (a.sta s) D f
    | false =>
      show u D σ H1
      exact h2 rfl H0 σ H1 (b0.trans a) (a.sta s) D f
theorem ds_ifs {b : Bool} (h : PuT K c Γ C b) (h1 : b = true → Ds K An (tSeq t rest) E Γ C) (h2 : b = false → Ds K An (tSeq u rest) E Γ C) : Ds K An (tSeq (tIfS c t u) rest) E Γ C := fun H0 σ H b0 s D f =>
  h σ H s _ fun H1 a => by
    cases b with
    | true =>
      show tSeq t rest D σ H1
      exact h1 rfl H0 σ H1 (b0.trans a) (a.sta s) D f
    | false =>
      show tSeq u rest D σ H1
      exact h2 rfl H0 σ H1 (b0.trans a) (a.sta s) D f
theorem ds_ifE {P : Bool → Cs → Prop} (h : EvT K c Γ C P) (h1 : ∀ C', P true C' → Ds K An t E Γ C') (h2 : ∀ C', P false C' → Ds K An u E Γ C') : Ds K An (tIfS c t u) E Γ C := fun H0 σ H b0 s D f =>
  h σ H s _ fun b C1 H1 a p => by
    cases b with
    | true =>
      show t D σ H1
      exact h1 C1 p H0 σ H1 (b0.trans a) (a.sta s) D f
    | false =>
      show u D σ H1
      exact h2 C1 p H0 σ H1 (b0.trans a) (a.sta s) D f
theorem ds_ifsE {P : Bool → Cs → Prop} (h : EvT K c Γ C P) (h1 : ∀ C', P true C' → Ds K An (tSeq t rest) E Γ C') (h2 : ∀ C', P false C' → Ds K An (tSeq u rest) E Γ C') : Ds K An (tSeq (tIfS c t u) rest) E Γ C := fun H0 σ H b0 s D f =>
  h σ H s _ fun b C1 H1 a p => by
    cases b with
    | true =>
      show tSeq t rest D σ H1
      exact h1 C1 p H0 σ H1 (b0.trans a) (a.sta s) D f
    | false =>
      show tSeq u rest D σ H1
      exact h2 C1 p H0 σ H1 (b0.trans a) (a.sta s) D f
theorem ds_weak {Δ : Gm} (h : Ds K An t E Δ C) (l : Le Δ Γ) : Ds K An t E Γ C := fun H0 σ H b s D f => h H0 σ H b (s.weak l) D f
theorem ds_drop {P : Ax → Cs → Prop} (h : Ev K te Γ C P) (k : ∀ x C', P x C' → Ds K An rest E Γ C') : Ds K An (tSeq (tDrop te) rest) E Γ C := fun H0 σ H b0 s D f =>
  h σ H s _ fun v x C1 H1 a r p => k x C1 p H0 σ H1 (b0.trans a) (a.sta s) D f
theorem ds_drop1 {P : Ax → Cs → Prop} (h : Ev K te Γ C P) (k : ∀ x C', P x C' → E.nx Γ C') : Ds K An (tDrop te) E Γ C := fun H0 σ H b0 s D f =>
  h σ H s _ fun v x C1 H1 a r p => f.nx Γ C1 σ H1 (b0.trans a) (a.sta s) (k x C1 p)
theorem ds_nextseq (h : Ds K An rest E Γ C) : Ds K An (tSeq tNext rest) E Γ C := h
theorem ds_retseq (h : Ds K An (tRet te) E Γ C) : Ds K An (tSeq (tRet te) rest) E Γ C := fun H0 σ H b s D f =>
  h H0 σ H b s D f
/-- xs.append(e) -/
theorem ev_app {a : Addr} {xs : List Ax} (ho : Pu K to Γ C (.ref a)) (h : Pu K te Γ C y) (hc : C a = some (.lst xs)) (hz : xs.length < 100000) : Ev K (tBM K "list" rAppend to (tCons te tNil)) Γ C (fun x C' => x = No ∧ C' = updC C a (.lst (xs ++ [y]))) := fun σ H s Q q =>
  ho σ H s _ fun v H1 a1 r1 => by
    obtain ⟨rfl, ia⟩ := r1
    obtain ⟨ws, e1, e2⟩ := a1.cells a _ hc
    refine ⟨.inl ⟨rfl, ws, SqL.of e1⟩, h σ H1 (a1.sta s) _ fun w H2 a2 r2 => ?_⟩
    obtain ⟨ws2, e3, e4⟩ := a2.cells a _ hc
    refine ⟨a, ws2, w, rfl, rfl, e3, szl (by rw [e4.length]; exact hz), ?_⟩
    have b := Adv.setL (p := a) a2.cells ia (Paired.snoc e4 r2)
    exact q _ _ _ _ ((a1.trans a2).trans b) rx_N ⟨rfl, rfl⟩
/-- xs[i] = e of a mutable list -/
theorem ds_setix {a : Addr} {xs : List Ax} {k : Int} {j : Nat} (h : Pu K te Γ C y) (ho : Pu K to Γ C (.ref a)) (hi : Pu K ti Γ C (I k)) (hc : C a = some (.lst xs)) (hj : ixN xs.length k = some j) (kk : Ds K An rest E Γ (updC C a (.lst (xs.set j y)))) :
    Ds K An (tSeq (tAsg te (gSub to ti rSetL)) rest) E Γ C := fun H0 σ H b0 s D f =>
  h σ H s _ fun v H1 a1 r1 => ho σ H1 (a1.sta s) _ fun w H2 a2 r2 => hi σ H2 ((a1.trans a2).sta s) _ fun i' H3 a3 r3 => by
    obtain ⟨rfl, ia⟩ := r2
    cases rx_int r3
    obtain ⟨ws, e1, e2⟩ := a3.cells a _ hc
    refine ⟨a, ws, k, j, rfl, rfl, e1, by rw [e2.length]; exact hj, ?_⟩
    have hset : ∀ {vs : List V} {xs : List Ax} (j : Nat), RxA K C H3 vs xs → RxA K C H3 (vs.set j v) (xs.set j y) := by
      intro vs xs j hp
      induction hp generalizing j with
      | nil => exact .nil
      | cons h1 h2 ih =>
        cases j with
        | zero => exact .cons ((a2.trans a3).rx r1) h2
        | succ j => exact .cons h1 (ih j)
    have b := Adv.setL (p := a) a3.cells ia (hset j e2)
    exact kk H0 σ _ (b0.trans (((a1.trans a2).trans a3).trans b)) ((((a1.trans a2).trans a3).trans b).sta s) D f

/-! ### what is walked -/
structure Wk (K : Kw) (F : Cs → Prop) (C : Cs) (H : Hp) (J : It) (xs : List Ax) : Prop where
  go : ∀ i C' H', Adv K C H C' H' → F C' → i < xs.length → J.go i H'
  stop : ∀ C' H', Adv K C H C' H' → F C' → J.stop xs.length H'
  yld : ∀ i x C' H' v H2, xs[i]? = some x → Adv K C H C' H' → F C' → J.yld i H' v H2 → Adv K C' H' C' H2 ∧ Rx K C' H2 v x
def PuI (K : Kw) (F : Cs → Prop) (wi : TI) (Γ : Gm) (C : Cs) (xs : List Ax) : Prop := ∀ σ H, Sta K Γ C σ H → ∀ R : It → Hp → Prop, (∀ J H1, Adv K C H C H1 → Wk K F C H1 J xs → R J H1) → wi σ H R
abbrev F0 : Cs → Prop := fun _ => True
theorem datget {ds : List PyData} {i : Nat} {x : Ax} (h : (ds.map Ax.dat)[i]? = some x) : ∃ d, ds[i]? = some d ∧ x = .dat d := by
  rw [List.getElem?_map] at h
  cases e : ds[i]? with
  | none => rw [e] at h; cases h
  | some d => rw [e] at h; cases h; exact ⟨d, rfl, rfl⟩
theorem ui_listD {ds : List PyData} (h : Pu K te Γ C (Ls ds)) : PuI K F0 (iList K te) Γ C (ds.map .dat) := fun σ H s R q => h σ H s _ fun v H1 a r => by
  cases r with
  | lst hs hd =>
    refine ⟨_, rfl, ⟨_, SqL.up hid_le hs⟩, q _ _ a ⟨fun i C' H' b _ hi => ?_, fun C' H' b _ => ?_, fun i x C' H' v H2 e b _ hy => ?_⟩⟩
    · have hi' : i < ds.length := by simpa using hi
      obtain ⟨w, e1, _⟩ := hd.get (List.getElem?_eq_getElem hi')
      exact ⟨_, w, SqL.up (fun a o h => hid_le a o (b.ex a o h)) hs, e1⟩
    · exact ⟨_, SqL.up (fun a o h => hid_le a o (b.ex a o h)) hs, by rw [hd.len, List.length_map]; exact Nat.le_refl _⟩
    · obtain ⟨rfl, hy⟩ := hy
      obtain ⟨d, e1, rfl⟩ := datget e
      obtain ⟨w, e2, e3⟩ := hd.get e1
      have e4 := hy _ (SqL.up (fun a o h => hid_le a o (b.ex a o h)) hs)
      cases e4.symm.trans e2
      exact ⟨Adv.refl b.cells, Dp.up b.ex d e3⟩
theorem ui_tupD {ds : List PyData} (h : Pu K te Γ C (T ds)) : PuI K F0 (iTup K te) Γ C (ds.map .dat) := fun σ H s R q => h σ H s _ fun v H1 a r => by
  cases r with
  | tup hs hd =>
    refine ⟨_, rfl, ⟨_, SqT.up hid_le hs⟩, q _ _ a ⟨fun i C' H' b _ hi => ?_, fun C' H' b _ => ?_, fun i x C' H' v H2 e b _ hy => ?_⟩⟩
    · have hi' : i < ds.length := by simpa using hi
      obtain ⟨w, e1, _⟩ := hd.get (List.getElem?_eq_getElem hi')
      exact ⟨_, w, SqT.up (fun a o h => hid_le a o (b.ex a o h)) hs, e1⟩
    · exact ⟨_, SqT.up (fun a o h => hid_le a o (b.ex a o h)) hs, by rw [hd.len, List.length_map]; exact Nat.le_refl _⟩
    · obtain ⟨rfl, hy⟩ := hy
      obtain ⟨d, e1, rfl⟩ := datget e
      obtain ⟨w, e2, e3⟩ := hd.get e1
      have e4 := hy _ (SqT.up (fun a o h => hid_le a o (b.ex a o h)) hs)
      cases e4.symm.trans e2
      exact ⟨Adv.refl b.cells, Dp.up b.ex d e3⟩
/-- a mutable list that stays while it is walked -/
theorem ui_listM {a : Addr} {xs : List Ax} (h : Pu K te Γ C (.ref a)) (hc : C a = some (.lst xs)) : PuI K (fun C' => C' a = some (.lst xs)) (iList K te) Γ C xs := fun σ H s R q => h σ H s _ fun v H1 a1 r => by
  obtain ⟨rfl, ia⟩ := r
  obtain ⟨ws, e1, e2⟩ := a1.cells a _ hc
  refine ⟨a, rfl, ⟨ws, SqL.of e1⟩, q _ _ a1 ⟨fun i C' H' b hF hi => ?_, fun C' H' b hF => ?_, fun i x C' H' v H2 e b hF hy => ?_⟩⟩
  · obtain ⟨us, e3, e4⟩ := b.cells a _ hF
    obtain ⟨w, e5, _⟩ := rxa_get e4 (List.getElem?_eq_getElem hi)
    exact ⟨us, w, SqL.of e3, e5⟩
  · obtain ⟨us, e3, e4⟩ := b.cells a _ hF
    exact ⟨us, SqL.of e3, by rw [e4.length]; exact Nat.le_refl _⟩
  · obtain ⟨rfl, hy⟩ := hy
    obtain ⟨us, e3, e4⟩ := b.cells a _ hF
    obtain ⟨w, e5, e6⟩ := rxa_get e4 e
    cases (hy _ (SqL.of e3)).symm.trans e5
    exact ⟨Adv.refl b.cells, e6⟩
def rngD (lo : Int) (n : Nat) : List Ax := (List.range n).map fun (i : Nat) => I (lo + (i : Int))
theorem rngD_len {lo : Int} {n : Nat} : (rngD lo n).length = n := by simp [rngD]
theorem rngD_get {lo : Int} {n i : Nat} {x : Ax} (h : (rngD lo n)[i]? = some x) : i < n ∧ x = I (lo + (i : Int)) := by
  unfold rngD at h
  rw [List.getElem?_map] at h
  by_cases hi : i < n
  · rw [List.getElem?_range hi] at h
    cases h
    exact ⟨hi, rfl⟩
  · rw [List.getElem?_eq_none (by simpa using hi)] at h
    cases h
theorem wk_rng {lo : Int} {n : Nat} {H : Hp} : Wk K F0 C H (Itr lo n) (rngD lo n) := by
  refine ⟨fun i C' H' b _ hi => ?_, fun C' H' b _ => ?_, fun i x C' H' v H2 e b _ hy => ?_⟩
  · show i < n
    rw [rngD_len] at hi
    exact hi
  · show n ≤ _
    rw [rngD_len]
    exact Nat.le_refl _
  · obtain ⟨rfl, rfl⟩ := hy
    obtain ⟨_, rfl⟩ := rngD_get e
    exact ⟨Adv.refl b.cells, rx_I⟩
theorem ui_rng1 {tr : TA} {n : Int} (h : PuA K tr Γ C [I n]) (hn : n ≤ 100000) (hm : -100000 ≤ n := by omega) : PuI K F0 (iRng1 tr) Γ C (rngD 0 n.toNat) := fun σ H s R q => h σ H s _ fun vs H1 a r => by
  cases r with
  | cons r1 rt =>
    cases rt
    cases rx_int r1
    exact ⟨n, rfl, by omega, by omega, q _ _ a wk_rng⟩
theorem ui_rng2 {tr : TA} {lo n : Int} (h : PuA K tr Γ C [I lo, I n]) (hn : -100000 ≤ lo ∧ lo ≤ 100000 ∧ -100000 ≤ n ∧ n ≤ 100000) : PuI K F0 (iRng2 tr) Γ C (rngD lo (n - lo).toNat) := fun σ H s R q => h σ H s _ fun vs H1 a r => by
  cases r with
  | cons r1 rt =>
    cases rt with
    | cons r2 rt =>
      cases rt
      cases rx_int r1
      cases rx_int r2
      exact ⟨lo, n, rfl, ⟨by omega, by omega, by omega, by omega⟩, q _ _ a wk_rng⟩

/-! ### for -/
theorem ds_for {F : Cs → Prop} {wi : TI} {xs : List Ax} (Iv : Nat → Gm → Cs → Prop) (hi : PuI K F wi Γ C xs) (h0 : Iv 0 Γ C) (hF : ∀ i Γ' C', Iv i Γ' C' → F C')
    (hs : ∀ i x Γ' C', xs[i]? = some x → Iv i Γ' C' → ∃ Γ2 vs, Tg K g x Γ' Γ2 vs ∧ Ds K C t { nx := Iv (i + 1), rt := E.rt, bk := E.nx, ct := Iv (i + 1) } Γ2 C') (hd : ∀ Γ' C', Iv xs.length Γ' C' → E.nx Γ' C') : Ds K An (tFor wi g t) E Γ C := fun H0 σ H b0 s D f =>
  hi σ H s _ fun J H1 a W => by
    have b1 := b0.trans a
    refine ⟨fun i m σ' H' => m = xs.length - i ∧ i ≤ xs.length ∧ ∃ Γ' C', Adv K C H1 C' H' ∧ Sta K Γ' C' σ' H' ∧ Iv i Γ' C', ⟨xs.length, by simp, Nat.zero_le _, Γ, C, Adv.refl a.cells, a.sta s, h0⟩, ?_⟩
    rintro i m σ' H' ⟨rfl, hil, Γ', C', a1, s1, iv⟩
    by_cases hlt : i < xs.length
    · refine .inr ⟨W.go i C' H' a1 (hF _ _ _ iv) hlt, fun σ2 H2 => ∃ Γ2 C2, Adv K C H1 C2 H2 ∧ Sta K Γ2 C2 σ2 H2 ∧ Iv (i + 1) Γ2 C2, fun σ2 H2 ⟨Γ2, C2, a2, s2, iv2⟩ => ⟨xs.length - (i + 1), by omega, rfl, hlt, Γ2, C2, a2, s2, iv2⟩, fun v H2 hy => ?_⟩
      obtain ⟨a2, r2⟩ := W.yld i _ C' H' v H2 (List.getElem?_eq_getElem hlt) a1 (hF _ _ _ iv) hy
      obtain ⟨Γ2, vs, ht, hb⟩ := hs i _ Γ' C' (List.getElem?_eq_getElem hlt) iv
      refine ht C' σ' H2 v (a2.sta s1) r2 _ fun σ2 s2 _ => hb H1 σ2 H2 (a1.trans a2).a s2 _ ⟨fun Γ3 C3 σ3 H3 a3 s3 e => ⟨Γ3, C3, a3.2, s3, e⟩, fun x v C3 H3 a3 r3 e => f.rt x v C3 H3 (b1.trans a3.2) r3 e, fun Γ3 C3 σ3 H3 a3 s3 e => f.nx Γ3 C3 σ3 H3 (b1.trans a3.2) s3 e, fun Γ3 C3 σ3 H3 a3 s3 e => ⟨Γ3, C3, a3.2, s3, e⟩⟩
    · have e : i = xs.length := by omega
      subst e
      exact .inl ⟨W.stop C' H' a1 (hF _ _ _ iv), f.nx Γ' C' σ' H' (b1.trans a1) s1 (hd Γ' C' iv)⟩

/-! ### list comprehensions -/
def wipeG (Γ : Gm) : List Nat → Gm
  | [] => Γ
  | v :: vs => (wipeG Γ vs).set v none
theorem wipeG_len : ∀ vs : List Nat, (wipeG Γ vs).length = Γ.length
  | [] => rfl
  | v :: vs => by unfold wipeG; rw [List.length_set, wipeG_len vs]
theorem wipe_get {σ : L2.St} {i : Nat} : ∀ {vs : List Nat}, i ∉ vs → (wipe σ vs)[i]? = σ[i]?
  | [], _ => rfl
  | v :: vs, h => by
    unfold wipe
    rw [List.getElem?_set_ne (fun e => h (by simp [e])), wipe_get (fun e => h (by simp [e]))]
theorem wipe_in {σ : L2.St} {i : Nat} : ∀ {vs : List Nat}, i ∈ vs → i < σ.length → (wipe σ vs)[i]? = some none
  | v :: vs, h, hl => by
    unfold wipe
    by_cases e : v = i
    · subst e
      rw [List.getElem?_set_self (by rw [wipe_length]; exact hl)]
    · rw [List.getElem?_set_ne e]
      exact wipe_in (by simpa [Ne.symm e] using h) hl
theorem wipe_chg {vs : List Nat} {σ σ' : L2.St} (h : Chg vs (wipe σ vs) σ') : wipe σ' vs = wipe σ vs := by
  have hl : σ'.length = σ.length := by rw [h.1, wipe_length]
  refine List.ext_getElem? fun i => ?_
  by_cases hi : i ∈ vs
  · by_cases hk : i < σ.length
    · rw [wipe_in hi (by omega), wipe_in hi hk]
    · rw [List.getElem?_eq_none (by rw [wipe_length]; omega), List.getElem?_eq_none (by rw [wipe_length]; omega)]
  · rw [wipe_get hi, h.2 i hi]
theorem Sta.wipe {σ : L2.St} {H : Hp} (s : Sta K Γ C σ H) : ∀ vs : List Nat, Sta K (wipeG Γ vs) C (wipe σ vs) H
  | [] => s
  | v :: vs => by
    have q := Sta.wipe s vs
    unfold wipeG L2.wipe
    refine ⟨by rw [List.length_set, List.length_set, q.len], fun i x e => ?_, q.cells⟩
    by_cases iv : v = i
    · subst iv
      by_cases hl : v < (wipeG Γ vs).length
      · rw [List.getElem?_set_self hl] at e; cases e
      · rw [List.getElem?_eq_none (by simpa using hl)] at e; cases e
    · rw [List.getElem?_set_ne iv] at e
      rw [List.getElem?_set_ne iv]
      exact q.slot i x e
theorem Chg.mono {vs ws : List Nat} {σ σ' : L2.St} (h : Chg vs σ σ') (k : ∀ i, i ∈ vs → i ∈ ws) : Chg ws σ σ' := ⟨h.1, fun i hi => h.2 i fun e => hi (k i e)⟩
/-- the list under way is the cell at D: what holds of the items so far -/
theorem ev_lc {F : Cs → Prop} {wi : TI} {xs : List Ax} {tt : TT} {own : List Nat} (Iv : Addr → Nat → List Ax → Cs → Prop) {P : Ax → Cs → Prop} (hi : PuI K F wi Γ C xs) (hn : xs.length < 100000)
    (h0 : ∀ D, C D = none → Iv D 0 [] (updC C D (.lst []))) (hF : ∀ D i acc C', Iv D i acc C' → F C')
    (hs : ∀ D i x acc C', C D = none → xs[i]? = some x → Iv D i acc C' → C' D = some (.lst acc) → ∃ Γ2 vs b, (∀ j, j ∈ vs → j ∈ own) ∧ Tg K g x (wipeG Γ own) Γ2 vs ∧ PuT K tt Γ2 C' b ∧ (b = false → Iv D (i + 1) acc C') ∧
      (b = true → Ev K te Γ2 C' fun y C2 => C2 D = some (.lst acc) ∧ Iv D (i + 1) (acc ++ [y]) (updC C2 D (.lst (acc ++ [y])))))
    (hd : ∀ D acc C', C D = none → Iv D xs.length acc C' → C' D = some (.lst acc) → P (.ref D) C') : Ev K (tLc wi g tt te own) Γ C P := fun σ H s Q q =>
  hi σ H s _ fun J H1 a W D hD => by
    have cD := a.cells.free hD
    have aN := Adv.newL (p := D) (xs := []) (vs := []) a.cells hD .nil
    refine ⟨fun i m H' => m = xs.length - i ∧ i ≤ xs.length ∧ ∃ acc C', Adv K C H1 C' H' ∧ Iv D i acc C' ∧ C' D = some (.lst acc) ∧ acc.length ≤ i, ⟨xs.length, by simp, Nat.zero_le _, [], _, aN, h0 D cD, updC_same, Nat.le_refl _⟩, ?_⟩
    rintro i m H' ⟨rfl, hil, acc, C', a1, iv, cd, al⟩
    by_cases hlt : i < xs.length
    · refine .inr ⟨W.go i C' H' a1 (hF _ _ _ _ iv) hlt, fun H2 => ∃ acc C2, Adv K C H1 C2 H2 ∧ Iv D (i + 1) acc C2 ∧ C2 D = some (.lst acc) ∧ acc.length ≤ i + 1, fun H2 ⟨acc, C2, a2, iv2, cd2, al2⟩ => ⟨xs.length - (i + 1), by omega, rfl, hlt, acc, C2, a2, iv2, cd2, al2⟩, fun v H2 hy => ?_⟩
      obtain ⟨a2, r2⟩ := W.yld i _ C' H' v H2 (List.getElem?_eq_getElem hlt) a1 (hF _ _ _ _ iv) hy
      obtain ⟨Γ2, vs, b, hv, ht, hb, hf0, hf1⟩ := hs D i _ acc C' cD (List.getElem?_eq_getElem hlt) iv cd
      have sw := (((a.trans a1).trans a2).sta s).wipe own
      refine ht C' _ H2 v sw r2 _ fun σ2 s2 ch => ⟨wipe_chg (ch.mono hv), hb σ2 H2 s2 _ fun H3 a3 => ?_⟩
      cases b with
      | false =>
        show ∃ acc C2, _
        exact ⟨acc, C', (a1.trans a2).trans a3, hf0 rfl, cd, by omega⟩
      | true =>
        show te σ2 H3 _
        refine hf1 rfl σ2 H3 (a3.sta s2) _ fun w y C4 H4 a4 r4 ⟨cd4, iv4⟩ => ?_
        obtain ⟨ws, e1, e2⟩ := a4.cells D _ cd4
        have b5 := Adv.setL (p := D) a4.cells (by rw [cd4]; rfl) (Paired.snoc e2 r4)
        refine ⟨ws, e1, szl (by rw [e2.length]; omega), acc ++ [y], _, (((a1.trans a2).trans a3).trans a4).trans b5, iv4, updC_same, by rw [List.length_append]; simp; omega⟩
    · have e : i = xs.length := by omega
      subst e
      exact .inl ⟨W.stop C' H' a1 (hF _ _ _ _ iv), q _ _ _ _ (a.trans a1) (rx_ref (by rw [cd]; rfl)) (hd D acc C' cD iv cd)⟩
/-- a store that has more -/
def Mor (C C' : Cs) : Prop := ∀ a, (C a).isSome = true → C' a = C a
theorem Mor.refl : Mor C C := fun _ _ => rfl
theorem Mor.upd {p : Addr} {o : MO} (h : C p = none) : Mor C (updC C p o) := fun a ha => updC_ne fun e => by subst e; rw [h] at ha; cases ha
theorem Mor.at_ {C' : Cs} (m : Mor C C') {a : Addr} {o : MO} (h : C a = some o) : C' a = some o := (m a (by rw [h]; rfl)).trans h
/-- the store without the cell at D, the object immutable now -/
theorem Adv.freeze {D : Addr} {H H' : Hp} {ds : List PyData} (c0 : Cells K C H) (hD : C D = none) (a : Adv K C H (updC C D (.lst (ds.map .dat))) H') : Adv K C H C H' ∧ Rx K C H' (.ref D) (Ls ds) := by
  obtain ⟨ws, e1, e2⟩ := a.cells D _ updC_same
  have up : ∀ b o, hid (updC C D (.lst (ds.map .dat))) H' b = some o → hid C H' b = some o := fun b o h => by
    by_cases e : b = D
    · subst e
      unfold hid at h
      rw [updC_same] at h
      cases h
    · unfold hid at h ⊢
      rw [updC_ne e] at h
      exact h
  have rx : ∀ {x : Ax} {v w : V}, Rx K C H v x → Rx K (updC C D (.lst (ds.map .dat))) H' w x → Rx K C H' w x := fun {x v w} h k => by
    cases x with
    | dat d => exact Dp.up up d k
    | ref b => exact ⟨k.1, h.2⟩
    | imm i => exact ImR.up up k
  have pr : ∀ {xs : List Ax} {vs us : List V}, RxA K C H vs xs → RxA K (updC C D (.lst (ds.map .dat))) H' us xs → RxA K C H' us xs := by
    intro xs
    induction xs with
    | nil => intro vs us h k; cases k; exact .nil
    | cons x xs ih =>
      intro vs us h k
      cases h with
      | cons h1 h2 =>
        cases k with
        | cons k1 k2 => exact .cons (rx h1 k1) (ih h2 k2)
  have pk : ∀ {xs : List (Key × Ax)} {vs us : List (Key × V)}, RxK K C H vs xs → RxK K (updC C D (.lst (ds.map .dat))) H' us xs → RxK K C H' us xs := by
    intro xs
    induction xs with
    | nil => intro vs us h k; cases k; exact .nil
    | cons x xs ih =>
      intro vs us h k
      cases h with
      | cons h1 h2 =>
        cases k with
        | cons k1 k2 => exact .cons ⟨k1.1, rx h1.2 k1.2⟩ (ih h2 k2)
  have pf : ∀ {xs : List (Str × Ax)} {vs us : List (Str × V)}, RxF K C H vs xs → RxF K (updC C D (.lst (ds.map .dat))) H' us xs → RxF K C H' us xs := by
    intro xs
    induction xs with
    | nil => intro vs us h k; cases k; exact .nil
    | cons x xs ih =>
      intro vs us h k
      cases h with
      | cons h1 h2 =>
        cases k with
        | cons k1 k2 => exact .cons ⟨k1.1, rx h1.2 k1.2⟩ (ih h2 k2)
  refine ⟨⟨fun b o h => up b o (a.ex b o h), fun _ h => h, fun b o e => ?_⟩, ?_⟩
  · have ne : b ≠ D := fun z => by subst z; rw [hD] at e; cases e
    have q0 := c0 b o e
    have q1 := a.cells b o ((updC_ne ne).trans e)
    cases o with
    | lst xs =>
      obtain ⟨v0, _, r0⟩ := q0
      obtain ⟨v1, h1, r1⟩ := q1
      exact ⟨v1, h1, pr r0 r1⟩
    | dic xs =>
      obtain ⟨v0, _, r0⟩ := q0
      obtain ⟨v1, h1, r1⟩ := q1
      exact ⟨v1, h1, pk r0 r1⟩
    | tab xs =>
      obtain ⟨v1, h1, h2, h3, r1⟩ := q1
      exact ⟨v1, h1, h2, h3, Paired.mp r1 fun _ _ q => q.up up⟩
    | code xs =>
      obtain ⟨m, v1, h1, h2, r1⟩ := q1
      exact ⟨m, v1, h1, h2, fun pos cv z => let ⟨c, e1, e2⟩ := r1 pos cv z; ⟨c, e1, up _ _ e2⟩⟩
    | rng lo hi => exact q1
    | ins cl xs =>
      obtain ⟨dx0, v0, _, r0⟩ := q0
      obtain ⟨dx, v1, h1, r1⟩ := q1
      exact ⟨dx, v1, h1, pf r0 r1⟩
  · exact .lst (SqL.of (hid_of e1 hD)) (DpAll.up up ds (dat_rxa e2))
theorem map_snoc {α β : Type} (f : α → β) (xs : List α) (y : α) : xs.map f ++ [f y] = (xs ++ [y]).map f := by simp
/-- a comprehension of data: its items by place -/
theorem pu_lc {wi : TI} {xs : List Ax} {tt : TT} {own : List Nat} {F : Cs → Prop} (p : Nat → Bool) (f : Nat → PyData) (hi : PuI K F wi Γ C xs) (hn : xs.length < 100000) (hF : ∀ C', Mor C C' → F C')
    (hs : ∀ i x C', Mor C C' → xs[i]? = some x → ∃ Γ2 vs, (∀ j, j ∈ vs → j ∈ own) ∧ Tg K g x (wipeG Γ own) Γ2 vs ∧ PuT K tt Γ2 C' (p i) ∧ (p i = true → Pu K te Γ2 C' (.dat (f i)))) :
    Pu K (tLc wi g tt te own) Γ C (Ls (((List.range xs.length).filter p).map f)) := fun σ H s Q q => by
  refine ev_lc (P := fun x C' => ∃ D, C D = none ∧ x = .ref D ∧ C' = updC C D (.lst ((((List.range xs.length).filter p).map f).map .dat))) (fun D i acc C' => acc = (((List.range i).filter p).map f).map .dat ∧ C' = updC C D (.lst acc) ∧ C D = none) hi hn (fun D h => ⟨rfl, rfl, h⟩) (fun D i acc C' e => by rw [e.2.1]; exact hF _ (Mor.upd e.2.2)) ?_ ?_ σ H s Q ?_
  · intro D i x acc C' hD hx ⟨e1, e2, _⟩ e3
    obtain ⟨Γ2, vs, hv, ht, hp, hf⟩ := hs i x C' (by rw [e2]; exact Mor.upd hD) hx
    have rs : List.range (i + 1) = List.range i ++ [i] := List.range_succ
    refine ⟨Γ2, vs, p i, hv, ht, hp, fun e => ⟨?_, e2, hD⟩, fun e => (hf e).ev.imp fun y C2 ⟨ey, ec⟩ => ?_⟩
    · rw [e1, rs, List.filter_append]
      simp [List.filter, e]
    · subst ey; subst ec
      refine ⟨e3, ?_, ?_, hD⟩
      · rw [e1, rs, List.filter_append]
        simp [List.filter, e]
      · rw [e2]
        funext b
        by_cases hb : b = D
        · subst hb; rw [updC_same, updC_same]
        · rw [updC_ne hb, updC_ne hb, updC_ne hb]
  · intro D acc C' hD ⟨e1, e2, _⟩ _
    exact ⟨D, hD, rfl, by rw [e2, e1]⟩
  · intro v x C2 H2 a r ⟨D, hD, ex, ec⟩
    subst ex; subst ec
    obtain ⟨rfl, _⟩ := r
    obtain ⟨a2, r2⟩ := Adv.freeze s.cells hD a
    exact q _ H2 a2 r2
theorem ut_yes : PuT K tYes Γ C true := fun σ H s Q q => q H s.adv
/-! ### a def -/
def stG (N : List Str) (xs : List Ax) : Gm := xs.map some ++ List.replicate (N.length - xs.length) none
theorem sta_start {N : List Str} {vs : List V} {xs : List Ax} {H : Hp} (c : Cells K C H) (r : RxA K C H vs xs) : Sta K (stG N xs) C (L2.start N vs) H := by
  refine ⟨by unfold L2.start stG; simp [r.length], fun i x e => ?_, c⟩
  unfold stG at e
  by_cases hi : i < xs.length
  · rw [List.getElem?_append_left (by simpa using hi), List.getElem?_map] at e
    cases ex : xs[i]? with
    | none => rw [ex] at e; cases e
    | some y =>
      rw [ex] at e
      cases e
      obtain ⟨v, e1, q⟩ := rxa_get r ex
      have hv : i < vs.length := by rw [r.length]; exact hi
      refine ⟨v, ?_, q⟩
      unfold L2.start
      rw [List.getElem?_append_left (by simpa using hv), List.getElem?_map, e1]
      rfl
  · rw [List.getElem?_append_right (by simpa using hi), List.getElem?_replicate] at e
    split at e <;> cases e
end Ab

/-! Ab4: defs (what is new and forgotten is dropped, what is handed back is frozen), and more rules. -/
namespace Ab
open PySem PySem.Spec PyProof.Rows L2
variable {K : Kw} {An : Anc} {Γ Γ' : Gm} {C : Cs} {ta tb tc te to ti : TE} {x y z : Ax} {t u rest : TS} {c : TT} {E : En} {g : TG} {C1 : Cs}

/-- every reference stays within -/
def Clo (C : Cs) : Prop := ∀ a o, C a = some o → match o with
  | .lst xs => ∀ b, Ax.ref b ∈ xs → (C b).isSome = true
  | .dic kvs => ∀ b, Ax.ref b ∈ kvs.map (·.2) → (C b).isSome = true
  | .tab _ => True
  | .code _ => True
  | .rng _ _ => True
  | .ins _ kvs => ∀ b, Ax.ref b ∈ kvs.map (·.2) → (C b).isSome = true
theorem rxa_ref {H : Hp} {b : Addr} : ∀ {vs : List V} {xs : List Ax}, RxA K C H vs xs → Ax.ref b ∈ xs → (C b).isSome = true
  | _, _, .nil, h => by cases h
  | _, _, .cons r t, h => by
    cases h with
    | head => exact r.2
    | tail _ h => exact rxa_ref t h
theorem rxk_ref {H : Hp} {b : Addr} : ∀ {vs : List (Key × V)} {xs : List (Key × Ax)}, RxK K C H vs xs → Ax.ref b ∈ xs.map (·.2) → (C b).isSome = true
  | _, _, .nil, h => by cases h
  | _, _, .cons (a := p) (b := q) r t, h => by
    rw [List.map_cons, List.mem_cons] at h
    rcases h with h | h
    · have k := r.2
      rw [← h] at k
      exact k.2
    · exact rxk_ref t h
theorem rxf_ref {H : Hp} {b : Addr} : ∀ {vs : List (Str × V)} {xs : List (Str × Ax)}, RxF K C H vs xs → Ax.ref b ∈ xs.map (·.2) → (C b).isSome = true
  | _, _, .nil, h => by cases h
  | _, _, .cons (a := p) (b := q) r t, h => by
    rw [List.map_cons, List.mem_cons] at h
    rcases h with h | h
    · have k := r.2
      rw [← h] at k
      exact k.2
    · exact rxf_ref t h
theorem Cells.clo {H : Hp} (c : Cells K C H) : Clo C := fun a o e => by
  have q := c a o e
  cases o with
  | lst xs =>
    obtain ⟨vs, _, r⟩ := q
    exact fun b h => rxa_ref r h
  | dic xs =>
    obtain ⟨vs, _, r⟩ := q
    exact fun b h => rxk_ref r h
  | tab xs => trivial
  | code xs => trivial
  | rng lo hi => trivial
  | ins cl xs =>
    obtain ⟨dx, vs, _, r⟩ := q
    exact fun b h => rxf_ref r h
/-- fewer cells -/
def Sbs (C2 C1 : Cs) : Prop := ∀ a o, C2 a = some o → C1 a = some o
theorem hid_sbs {C1 C2 : Cs} {H : Hp} (s : Sbs C2 C1) : ∀ a o, hid C1 H a = some o → hid C2 H a = some o := fun a o h => by
  have h1 := hid_le a o h
  refine hid_of h1 ?_ (hid_seen h)
  cases e : C2 a with
  | none => rfl
  | some u =>
    have := s a u e
    unfold hid at h
    rw [this] at h
    cases h
theorem rxa_sbs {C1 C2 : Cs} {H : Hp} (s : Sbs C2 C1) : ∀ {vs : List V} {xs : List Ax}, RxA K C1 H vs xs → (∀ b, Ax.ref b ∈ xs → (C2 b).isSome = true) → RxA K C2 H vs xs
  | _, _, .nil, _ => .nil
  | _, x :: _, .cons r t, h => .cons (by
      cases x with
      | dat d => exact Dp.up (hid_sbs s) d r
      | ref b => exact ⟨r.1, h b (by simp)⟩
      | imm i => exact ImR.up (hid_sbs s) r) (rxa_sbs s t fun b hb => h b (by simp [hb]))
theorem rxk_sbs {C1 C2 : Cs} {H : Hp} (s : Sbs C2 C1) : ∀ {vs : List (Key × V)} {xs : List (Key × Ax)}, RxK K C1 H vs xs → (∀ b, Ax.ref b ∈ xs.map (·.2) → (C2 b).isSome = true) → RxK K C2 H vs xs
  | _, _, .nil, _ => .nil
  | _, x :: _, .cons r t, h => .cons ⟨r.1, by
      obtain ⟨k, x⟩ := x
      cases x with
      | dat d => exact Dp.up (hid_sbs s) d r.2
      | ref b => exact ⟨r.2.1, h b (by simp)⟩
      | imm i => exact ImR.up (hid_sbs s) r.2⟩ (rxk_sbs s t fun b hb => h b (by simp [hb]))
theorem rxf_sbs {C1 C2 : Cs} {H : Hp} (s : Sbs C2 C1) : ∀ {vs : List (Str × V)} {xs : List (Str × Ax)}, RxF K C1 H vs xs → (∀ b, Ax.ref b ∈ xs.map (·.2) → (C2 b).isSome = true) → RxF K C2 H vs xs
  | _, _, .nil, _ => .nil
  | _, x :: _, .cons r t, h => .cons ⟨r.1, by
      obtain ⟨k, x⟩ := x
      cases x with
      | dat d => exact Dp.up (hid_sbs s) d r.2
      | ref b => exact ⟨r.2.1, h b (by simp)⟩
      | imm i => exact ImR.up (hid_sbs s) r.2⟩ (rxf_sbs s t fun b hb => h b (by simp [hb]))
theorem cells_sbs {C1 C2 : Cs} {H : Hp} (s : Sbs C2 C1) (cl : Clo C2) (c : Cells K C1 H) : Cells K C2 H := fun a o e => by
  have q := c a o (s a o e)
  have k := cl a o e
  cases o with
  | lst xs =>
    obtain ⟨vs, h, r⟩ := q
    exact ⟨vs, h, rxa_sbs s r k⟩
  | dic xs =>
    obtain ⟨vs, h, r⟩ := q
    exact ⟨vs, h, rxk_sbs s r k⟩
  | tab xs =>
    obtain ⟨vs, h, h2, h3, r⟩ := q
    exact ⟨vs, h, h2, h3, Paired.mp r fun _ _ z => z.up (hid_sbs s)⟩
  | code xs =>
    obtain ⟨m, ps, h, t, r⟩ := q
    exact ⟨m, ps, h, t, fun pos cv z => let ⟨c, e1, e2⟩ := r pos cv z; ⟨c, e1, hid_sbs s _ _ e2⟩⟩
  | rng lo hi => exact q
  | ins cl xs =>
    obtain ⟨dx, vs, h, r⟩ := q
    exact ⟨dx, vs, h, rxf_sbs s r k⟩
/-- what x is as data, once the cells that it reaches are dropped -/
inductive Dz (C1 C2 : Cs) : Ax → PyData → Prop
  | dat (d : PyData) : Dz C1 C2 (.dat d) d
  | lst {p : Addr} {xs : List Ax} {ds : List PyData} : C1 p = some (.lst xs) → C2 p = none → Paired (Dz C1 C2) xs ds → Dz C1 C2 (.ref p) (.list ds)
theorem Dz.rx {C1 C2 : Cs} {H : Hp} (s : Sbs C2 C1) (c : Cells K C1 H) {x : Ax} {d : PyData} (z : Dz C1 C2 x d) : ∀ {v : V}, Rx K C1 H v x → Dp K (hid C2 H) v d := by
  refine Dz.rec (motive_1 := fun x d _ => ∀ {v : V}, Rx K C1 H v x → Dp K (hid C2 H) v d) (motive_2 := fun xs ds _ => ∀ {vs : List V}, RxA K C1 H vs xs → DpAll K (hid C2 H) vs ds) ?_ ?_ ?_ ?_ z
  · intro d v r
    exact Dp.up (hid_sbs s) d r
  · intro p xs ds h1 h2 _ ih v r
    obtain ⟨rfl, _⟩ := r
    obtain ⟨vs, e1, e2⟩ := c p _ h1
    exact .lst (SqL.of (hid_of e1 h2)) (ih e2)
  · intro vs r
    cases r
    exact .nil
  · intro a b l1 l2 _ _ ih1 ih2 vs r
    cases r with
    | cons r1 r2 => exact .cons (ih1 r1) (ih2 r2)
def Vw (C1 C2 : Cs) (x y : Ax) : Prop := (y = x ∧ ∀ a, x = .ref a → (C2 a).isSome = true) ∨ ∃ d, Dz C1 C2 x d ∧ y = .dat d
/-- what may be handed back: x, with the cells C1 at the end; the caller sees y, with the cells C2 -/
def Rt (C : Cs) (R : Ax → Cs → Prop) (x : Ax) (C1 : Cs) : Prop := R x C1 ∨ ∃ y C2, Sbs C2 C1 ∧ (∀ a, (C a).isSome = true → (C2 a).isSome = true) ∧ Clo C2 ∧ Vw C1 C2 x y ∧ R y C2
theorem rt_keep {R : Ax → Cs → Prop} {x : Ax} {C1 : Cs} (h : R x C1) : Rt C R x C1 := .inl h
abbrev EnR (C : Cs) (R : Ax → Cs → Prop) : En := { nx := fun _ C1 => Rt C R No C1, rt := Rt C R }
theorem Rt.fin {R : Ax → Cs → Prop} {H H1 : Hp} {C1 : Cs} {v : V} (a : Adv K C H C1 H1) (r : Rx K C1 H1 v x) (h : Rt C R x C1) : ∃ y C2, Adv K C H C2 H1 ∧ Rx K C2 H1 v y ∧ R y C2 := by
  rcases h with q | ⟨y, C2, s, sb, cl, vw, q⟩
  · exact ⟨x, C1, a, r, q⟩
  refine ⟨y, C2, ⟨fun b o e => hid_sbs s b o (a.ex b o e), sb, cells_sbs s cl a.cells⟩, ?_, q⟩
  rcases vw with ⟨rfl, hv⟩ | ⟨d, z, rfl⟩
  · cases y with
    | dat d => exact Dp.up (hid_sbs s) d r
    | ref b => exact ⟨r.1, hv b rfl⟩
    | imm i => exact ImR.up (hid_sbs s) r
  · exact z.rx s a.cells r
theorem ok_def {mg : Str → Option Value} {base : Heap} {x qual : Str} {st : Stmt} {f : Addr} {fd : FuncData} {N ps : List Str} {k : Nat} {rel : Cs → List Ax → (Ax → Cs → Prop) → Prop} (F : Fun K.K x qual st f fd) (S : FnScope N ps (defScope st))
    (len : ∀ C xs R, rel C xs R → xs.length = ps.length)
    (hb : ∀ (cdv : Value) (A : Around) (outer : List Env) (s : Shared) (H : Hp) (E : XK), Room k (A.deeper (envOfC qual (defScope st) s.heap.objs.size f cdv)) →
      ∃ t, PSs (cxOf CX0 K.P K.w K.K mg base N qual (defScope st) f cdv A outer s H E).nox (defBody st) t ∧ ∀ C xs R, Clo C → rel C xs R → Ds K C t (EnR C R) (stG N xs) C) : FnOk K.P K.w K.K mg base CX0 (k + 1) f fd ps (SpG K rel) := by
  refine F.ok S (fun vs H Q E h => ?_) (fun cdv A outer s H vs Q E hr h => ?_)
  · obtain ⟨C, xs, R, _, r, h, _⟩ := h
    rw [r.length]
    exact len _ _ _ h
  · obtain ⟨C, xs, R, c, r, h, q⟩ := h
    obtain ⟨t, ht, hd⟩ := hb cdv A outer s H E hr
    refine ⟨t, ht, hd C xs R c.clo h H _ H (Adv.refl c).a (sta_start c r) _ ⟨fun Γ C' σ' H' a s' e => ?_, fun x v C' H' a r' e => ?_, fun _ _ _ _ _ _ e => e.elim, fun _ _ _ _ _ _ e => e.elim⟩⟩
    · obtain ⟨y, C2, a2, r2, e2⟩ := Rt.fin a.2 rx_N e
      exact q _ _ C2 H' a2 r2 e2
    · obtain ⟨y, C2, a2, r2, e2⟩ := Rt.fin a.2 r' e
      exact q _ _ C2 H' a2 r2 e2
theorem mor_sbs {C1 : Cs} (m : Mor C C1) : Sbs C C1 := fun a o e => (m a (by rw [e]; rfl)).trans e
theorem Mor.trans {C1 C2 : Cs} (a : Mor C C1) (b : Mor C1 C2) : Mor C C2 := fun x h => by
  have e := a x h
  exact (b x (by rw [e]; exact h)).trans e
/-- a cell that the caller does not know changes -/
theorem Mor.put {C1 : Cs} {p : Addr} {o : MO} (m : Mor C C1) (h : C p = none) : Mor C (updC C1 p o) := fun a ha => by
  have ne : a ≠ p := fun e => by subst e; rw [h] at ha; cases ha
  rw [updC_ne ne]
  exact m a ha
theorem Mor.free {C1 : Cs} {p : Addr} (m : Mor C C1) (h : C1 p = none) : C p = none := by
  cases e : C p with
  | none => rfl
  | some o =>
    have := m.at_ e
    rw [h] at this
    cases this
theorem rt_dat {R : Ax → Cs → Prop} {C1 : Cs} {d : PyData} (cl : Clo C) (m : Mor C C1) (h : R (.dat d) C) : Rt C R (.dat d) C1 :=
  .inr ⟨.dat d, C, mor_sbs m, fun _ h => h, cl, .inl ⟨rfl, fun _ e => nomatch e⟩, h⟩
theorem rt_fz {R : Ax → Cs → Prop} {C1 : Cs} {x : Ax} {d : PyData} (cl : Clo C) (m : Mor C C1) (z : Dz C1 C x d) (h : R (.dat d) C) : Rt C R x C1 :=
  .inr ⟨.dat d, C, mor_sbs m, fun _ h => h, cl, .inr ⟨d, z, rfl⟩, h⟩
theorem paired_map {α β γ : Type} {F : β → γ → Prop} (f : α → β) (g : α → γ) (h : ∀ a, F (f a) (g a)) : ∀ l : List α, Paired F (l.map f) (l.map g)
  | [] => .nil
  | a :: l => .cons (h a) (paired_map f g h l)
theorem dz_lst {C1 : Cs} {p : Addr} {ds : List PyData} (h1 : C1 p = some (.lst (ds.map .dat))) (h2 : C p = none) : Dz C1 C (.ref p) (.list ds) :=
  .lst h1 h2 (by
    have := paired_map (F := Dz C1 C) Ax.dat (fun d => d) (fun d => Dz.dat d) ds
    rw [List.map_id'] at this
    exact this)

/-! ### more expressions -/
theorem uo_none : PuO K tNoPart Γ C none := fun σ H s Q q => q H s.adv
theorem uo_some {i : Int} (h : Pu K te Γ C (I i)) : PuO K (tPart te) Γ C (some i) := fun σ H s Q q => h σ H s _ fun v H1 a r => by
  cases rx_int r
  exact ⟨i, rfl, q H1 a⟩
def cutD {α : Type} (xs : List α) (lo hi : Option Int) : List α := (xs.drop (HT.sIx xs.length 0 lo)).take (HT.sIx xs.length xs.length hi - HT.sIx xs.length 0 lo)
theorem dpa_drop {H : Hp} : ∀ {vs : List V} {ds : List PyData} (n : Nat), DpAll K H vs ds → DpAll K H (vs.drop n) (ds.drop n)
  | _, _, 0, h => h
  | _, _, n + 1, .nil => .nil
  | _, _, n + 1, .cons _ t => dpa_drop n t
theorem dpa_take {H : Hp} : ∀ {vs : List V} {ds : List PyData} (n : Nat), DpAll K H vs ds → DpAll K H (vs.take n) (ds.take n)
  | _, _, 0, h => .nil
  | _, _, n + 1, .nil => .nil
  | _, _, n + 1, .cons r t => .cons r (dpa_take n t)
theorem dpa_cut {H : Hp} {vs : List V} {ds : List PyData} {lo hi : Option Int} (h : DpAll K H vs ds) : DpAll K H (cutV vs lo hi) (cutD ds lo hi) := by
  unfold cutV cutD
  rw [h.len]
  exact dpa_take _ (dpa_drop _ h)
theorem pu_slT {ds es : List PyData} {tl th : TO} {lo hi : Option Int} (h : Pu K te Γ C (T ds)) (h1 : PuO K tl Γ C lo) (h2 : PuO K th Γ C hi) (e : cutD ds lo hi = es) (nf : ¬(HT.sIx ds.length 0 lo = 0 ∧ HT.sIx ds.length ds.length hi = ds.length)) : Pu K (tSl (rSlT K) te tl th) Γ C (T es) := fun σ H s Q q =>
  h σ H s _ fun v H1 a1 r1 => h1 σ H1 (a1.sta s) _ fun H2 a2 => h2 σ H2 ((a1.trans a2).sta s) _ fun H3 a3 => by
    subst e
    cases (a2.trans a3).rx r1 with
    | tup hs hd =>
      rename_i ad us
      refine ⟨_, _, rfl, SqT.up hid_le hs, by rw [hd.len]; exact nf, fun p hp => ?_⟩
      have a4 := Adv.new (o := .tup (cutV us lo hi)) a3.cells hp
      exact q _ _ (((a1.trans a2).trans a3).trans a4) (.tup (SqT.of (hid_of upd_same (a3.cells.free hp))) (DpAll.up a4.ex _ (dpa_cut hd)))
theorem pl_slL {ds es : List PyData} {tl th : TO} {lo hi : Option Int} (h : Pu K te Γ C (Ls ds)) (h1 : PuO K tl Γ C lo) (h2 : PuO K th Γ C hi) (e : cutD ds lo hi = es) : PuL K (tSl (rSlL K) te tl th) Γ C (es.map .dat) := fun σ H s Q q =>
  h σ H s _ fun v H1 a1 r1 => h1 σ H1 (a1.sta s) _ fun H2 a2 => h2 σ H2 ((a1.trans a2).sta s) _ fun H3 a3 => by
    subst e
    cases (a2.trans a3).rx r1 with
    | lst hs hd => exact ⟨_, _, rfl, SqL.up hid_le hs, fun p hp => q p _ _ ((a1.trans a2).trans a3) hp (rxa_dat (dpa_cut hd))⟩
/-! ### in a written row of texts -/
theorem eqV_str {s t : Str} : eqV (.str s) (.str t) = decide (s = t) := rfl
theorem inV_strs {s : Str} : ∀ ss : List Str, inV (.str s) (ss.map V.str) = decide (s ∈ ss)
  | [] => rfl
  | r :: ss => by
    have ih := inV_strs (s := s) ss
    show (eqV (.str r) (.str s) || inV (.str s) (ss.map V.str)) = _
    rw [ih, eqV_str]
    by_cases h : r = s
    · subst h
      simp
    · have h' : s ≠ r := fun e => h e.symm
      simp [h, h']
theorem flat_strs : ∀ ss : List Str, (ss.map V.str).all flatV = true
  | [] => rfl
  | _ :: ss => flat_strs ss
theorem dpa_strs {H : Hp} : ∀ {vs : List V} {ss : List Str}, DpAll K H vs (ss.map PyData.str) → vs = ss.map V.str
  | _, [], h => by cases h; rfl
  | _, s :: ss, h => by
    cases h with
    | cons h1 h2 =>
      cases h1
      rw [dpa_strs h2]
      rfl
theorem pu_in {s : Str} {ss : List Str} (ha : Pu K ta Γ C (S s)) (hb : Pu K tb Γ C (T (ss.map .str))) : Pu K (tOp (rIn K false) ta tb) Γ C (B (decide (s ∈ ss))) :=
  pu_op ha hb fun v w H c r1 r2 Q q => by
    cases rx_str r1
    cases r2 with
    | tup hs hd =>
      have e := dpa_strs hd
      subst e
      refine ⟨_, _, rfl, .inr (SqT.up hid_le hs), rfl, flat_strs ss, ?_⟩
      rw [if_neg (by decide), inV_strs]
      exact q _ H (Adv.refl c) rx_B
theorem pu_notIn {s : Str} {ss : List Str} (ha : Pu K ta Γ C (S s)) (hb : Pu K tb Γ C (T (ss.map .str))) : Pu K (tOp (rIn K true) ta tb) Γ C (B (!decide (s ∈ ss))) :=
  pu_op ha hb fun v w H c r1 r2 Q q => by
    cases rx_str r1
    cases r2 with
    | tup hs hd =>
      have e := dpa_strs hd
      subst e
      refine ⟨_, _, rfl, .inr (SqT.up hid_le hs), rfl, flat_strs ss, ?_⟩
      rw [if_pos rfl, inV_strs]
      exact q _ H (Adv.refl c) rx_B
/-! ### ints in a list -/
theorem at_ints {ns : List Int} {i : Int} (h0 : 0 ≤ i) (h : i < ns.length) : atI (ns.map PyData.int) i = some (.int (ns.getD i.toNat 0)) := by
  obtain ⟨j, rfl⟩ : ∃ j : Nat, i = (j : Int) := ⟨i.toNat, by omega⟩
  have hj : j < ns.length := by omega
  rw [atI_nat (v := PyData.int (ns.getD j 0)) (by rw [List.getElem?_map, List.getD_eq_getElem?_getD, List.getElem?_eq_getElem hj]; rfl)]
  rfl
theorem pu_ixI {ns : List Int} {i : Int} (ha : Pu K ta Γ C (Ls (ns.map .int))) (hb : Pu K tb Γ C (I i)) (h0 : 0 ≤ i) (h : i < ns.length) : Pu K (tOp (rIxL K) ta tb) Γ C (I (ns.getD i.toNat 0)) := pu_ixL ha hb (at_ints h0 h)
theorem pu_neg {i : Int} (h : Pu K te Γ C (I i)) : Pu K (tUn (rU fun i => .int (-i)) te) Γ C (I (-i)) := fun σ H s Q q => h σ H s _ fun v H1 a r => by
  cases rx_int r
  exact ⟨i, rfl, q _ H1 a rx_I⟩
theorem ds_aug {i : Nat} {f : Int → Int → Int} {a b : Int} (hx : Γ[i]? = some (some (I a))) (h : Pu K te Γ C (I b)) (k : Ds K An rest E (Γ.set i (some (I (f a b)))) C) : Ds K An (tSeq (tAug i te (ipI f)) rest) E Γ C := fun H0 σ H b0 s D fi => by
  obtain ⟨v, e, r⟩ := s.slot i _ hx
  cases rx_int r
  refine ⟨_, e, h σ H s _ fun w H1 a1 r1 => ?_⟩
  cases rx_int r1
  exact ⟨_, _, rfl, rfl, k H0 _ H1 (b0.trans a1) ((a1.sta s).set i rx_I) D fi⟩
theorem ds_aug1 {i : Nat} {f : Int → Int → Int} {a b : Int} (hx : Γ[i]? = some (some (I a))) (h : Pu K te Γ C (I b)) (k : E.nx (Γ.set i (some (I (f a b)))) C) : Ds K An (tAug i te (ipI f)) E Γ C :=
  show Ds K An (tSeq (tAug i te (ipI f)) tNext) E Γ C from ds_aug hx h (ds_next k)
/-- a mutable list becomes data: what is known of its slots -/
def Frz (p : Addr) (ds : List PyData) : Gm → Gm → Prop
  | [], [] => True
  | _ :: r, none :: q => Frz p ds r q
  | some (.dat d) :: r, some y :: q => y = .dat d ∧ Frz p ds r q
  | some (.ref a) :: r, some y :: q => ((a ≠ p ∧ y = .ref a) ∨ (a = p ∧ y = Ls ds)) ∧ Frz p ds r q
  | some (.imm i) :: r, some y :: q => y = .imm i ∧ Frz p ds r q
  | _, _ => False
theorem Frz.len {p : Addr} {ds : List PyData} : ∀ {Γ Δ : Gm}, Frz p ds Γ Δ → Γ.length = Δ.length := by
  intro Γ
  induction Γ with
  | nil =>
    intro Δ h
    cases Δ with
    | nil => rfl
    | cons y q => cases y <;> exact h.elim
  | cons x r ih =>
    intro Δ h
    cases Δ with
    | nil => cases x with
      | none => exact h.elim
      | some x => cases x <;> exact h.elim
    | cons y q =>
      cases y with
      | none =>
        have h2 : Frz p ds r q := by cases x with
          | none => exact h
          | some x => cases x <;> exact h
        simp [ih h2]
      | some y =>
        cases x with
        | none => exact h.elim
        | some x => cases x <;> simp [ih h.2]
theorem Frz.get {p : Addr} {ds : List PyData} : ∀ {Γ Δ : Gm} {i : Nat} {y : Ax}, Frz p ds Γ Δ → Δ[i]? = some (some y) → (∃ x, (∀ a, x ≠ Ax.ref a) ∧ y = x ∧ Γ[i]? = some (some x)) ∨ (∃ a, a ≠ p ∧ y = .ref a ∧ Γ[i]? = some (some (.ref a))) ∨ (y = Ls ds ∧ Γ[i]? = some (some (.ref p))) := by
  intro Γ
  induction Γ with
  | nil =>
    intro Δ i y h e
    cases Δ with
    | nil => simp at e
    | cons y q => cases y <;> exact h.elim
  | cons x r ih =>
    intro Δ i y h e
    cases Δ with
    | nil => simp at e
    | cons z q =>
      cases i with
      | zero =>
        simp at e
        subst e
        cases x with
        | none => exact h.elim
        | some x =>
          cases x with
          | dat d => exact .inl ⟨.dat d, (fun a e => nomatch e), h.1, by simp⟩
          | imm j => exact .inl ⟨.imm j, (fun a e => nomatch e), h.1, by simp⟩
          | ref a =>
            rcases h.1 with ⟨h1, h2⟩ | ⟨h1, h2⟩
            · exact .inr (.inl ⟨a, h1, h2, by simp⟩)
            · subst h1
              exact .inr (.inr ⟨h2, by simp⟩)
      | succ i =>
        have h2 : Frz p ds r q := by
          cases z with
          | none => cases x with
            | none => exact h
            | some x => cases x <;> exact h
          | some z => cases x with
            | none => exact h.elim
            | some x => cases x <;> exact h.2
        have := ih h2 (i := i) (y := y) (by simpa using e)
        simpa using this
/-- from here on the list at p is data -/
theorem ds_freeze {p : Addr} {ds : List PyData} {Δ : Gm} (e : C = updC C1 p (.lst (ds.map .dat))) (hp : C1 p = none) (cl : Clo C1) (ha : An.C p = none) (fz : Frz p ds Γ Δ) (k : Ds K An t E Δ C1) : Ds K An t E Γ C := fun H0 σ H b0 s D f => by
  subst e
  have sb : Sbs C1 (updC C1 p (.lst (ds.map .dat))) := fun a o h => by
    rw [updC_ne (fun z => by subst z; rw [hp] at h; cases h)]
    exact h
  have cc := cells_sbs sb cl s.cells
  refine k H0 σ H ⟨b0.1, fun a o h => hid_sbs sb a o (b0.2.ex a o h), fun a h => ?_, cc⟩ ⟨s.len.trans fz.len, fun i y e => ?_, cc⟩ D f
  · have h1 := b0.2.sub a h
    rw [updC_ne (fun z => by subst z; rw [ha] at h; cases h)] at h1
    exact h1
  · rcases fz.get e with ⟨x, nx, rfl, e1⟩ | ⟨a, na, rfl, e1⟩ | ⟨rfl, e1⟩
    · obtain ⟨v, e2, r⟩ := s.slot i _ e1
      refine ⟨v, e2, ?_⟩
      cases y with
      | dat d => exact Dp.up (hid_sbs sb) d r
      | ref a => exact absurd rfl (nx a)
      | imm j => exact ImR.up (hid_sbs sb) r
    · obtain ⟨v, e2, r⟩ := s.slot i _ e1
      refine ⟨v, e2, r.1, ?_⟩
      have := r.2
      rw [updC_ne na] at this
      exact this
    · obtain ⟨v, e2, r⟩ := s.slot i _ e1
      exact ⟨v, e2, (dz_lst (C := C1) updC_same hp).rx sb s.cells r⟩
end Ab

/-! Ab5: a list of lists that a def makes and changes. -/
namespace Ab
open PySem PySem.Spec PyProof.Rows L2
variable {K : Kw} {An : Anc} {Γ Γ' : Gm} {C : Cs} {ta tb tc te to ti : TE} {x y z : Ax} {t u rest : TS} {c : TT} {E : En} {g : TG}

structure Grid (C C1 : Cs) (p : Addr) (ps : List Addr) (fs : List (List PyData)) : Prop where
  mor : Mor C C1
  new : C p = none
  news : ∀ q ∈ ps, C q = none
  top : C1 p = some (.lst (ps.map .ref))
  len : ps.length = fs.length
  row : ∀ (i : Nat) q, ps[i]? = some q → C1 q = some (.lst ((fs.getD i []).map .dat))
  nd : ps.Nodup
  apart : p ∉ ps
theorem Grid.put {C1 : Cs} {p q : Addr} {ps : List Addr} {fs : List (List PyData)} (G : Grid C C1 p ps fs) {i : Nat} (hq : ps[i]? = some q) (f : List PyData) : Grid C (updC C1 q (.lst (f.map .dat))) p ps (fs.set i f) := by
  have hm := List.mem_of_getElem? hq
  have hi : i < ps.length := (List.getElem?_eq_some_iff.mp hq).1
  have hpq : p ≠ q := fun e => G.apart (e ▸ hm)
  refine ⟨G.mor.put (G.news q hm), G.new, G.news, by rw [updC_ne hpq]; exact G.top, by rw [List.length_set]; exact G.len, fun j r hj => ?_, G.nd, G.apart⟩
  by_cases e : j = i
  · subst e
    cases hj.symm.trans hq
    rw [updC_same, List.getD_eq_getElem?_getD, List.getElem?_set_self (by rw [← G.len]; exact hi)]
    rfl
  · have hr : r ≠ q := fun e2 => e (nd_ix G.nd hj (e2 ▸ hq))
    rw [updC_ne hr, G.row j r hj, List.getD_eq_getElem?_getD, List.getD_eq_getElem?_getD, List.getElem?_set_ne (fun e2 => e e2.symm)]
/-- cells that are none of its own come and change -/
theorem Grid.other {C1 : Cs} {p q : Addr} {ps : List Addr} {fs : List (List PyData)} (G : Grid C C1 p ps fs) (h0 : C q = none) (hp : q ≠ p) (hs : q ∉ ps) (o : MO) : Grid C (updC C1 q o) p ps fs :=
  ⟨G.mor.put h0, G.new, G.news, by rw [updC_ne (Ne.symm hp)]; exact G.top, G.len, fun j r hj => by rw [updC_ne (show r ≠ q from fun e => hs (by rw [← e]; exact List.mem_of_getElem? hj))]; exact G.row j r hj, G.nd, G.apart⟩
theorem Grid.at_ {C1 : Cs} {p : Addr} {ps : List Addr} {fs : List (List PyData)} (G : Grid C C1 p ps fs) {i : Nat} (hi : i < fs.length) : ∃ q, ps[i]? = some q ∧ C1 q = some (.lst ((fs.getD i []).map .dat)) ∧ atI (ps.map Ax.ref) (i : Int) = some (.ref q) := by
  have h : i < ps.length := by rw [G.len]; exact hi
  refine ⟨ps[i], List.getElem?_eq_getElem h, G.row i _ (List.getElem?_eq_getElem h), atI_nat ?_⟩
  rw [List.getElem?_map, List.getElem?_eq_getElem h]
  rfl
/-- [ROW for _ in xs], a new row each time -/
theorem ev_grid {F : Cs → Prop} {wi : TI} {xs : List Ax} {own : List Nat} {r : List PyData} (hi : PuI K F wi Γ C xs) (hn : xs.length < 100000) (hF : ∀ C', Mor C C' → F C')
    (hs : ∀ (i : Nat) (x : Ax) C', Mor C C' → xs[i]? = some x → ∃ Γ2 vs, (∀ j, j ∈ vs → j ∈ own) ∧ Tg K g x (wipeG Γ own) Γ2 vs ∧ PuL K te Γ2 C' (r.map .dat)) :
    Ev K (tLc wi g tYes te own) Γ C (fun x C' => ∃ p ps, x = .ref p ∧ Grid C C' p ps (List.replicate xs.length r)) := by
  refine ev_lc (fun D i acc C' => ∃ ps, acc = ps.map .ref ∧ Grid C C' D ps (List.replicate i r)) hi hn (fun D h => ⟨[], rfl, Mor.upd h, h, (fun q hq => by cases hq), updC_same, rfl, (fun i q hq => by simp at hq), .nil, (fun h => by cases h)⟩) (fun D i acc C' ⟨ps, _, G⟩ => hF C' G.mor) ?_ ?_
  · intro D i x acc C' hD hx ⟨ps, e1, G⟩ e2
    obtain ⟨Γ2, vs, hv, ht, hl⟩ := hs i x C' G.mor hx
    refine ⟨Γ2, vs, true, hv, ht, ut_yes, (fun e => by cases e), fun _ => (ev_new hl).imp fun y C2 ⟨q, hq, ey, ec⟩ => ?_⟩
    subst ey; subst ec; subst e1
    have hqD : D ≠ q := fun e => by rw [← e, e2] at hq; cases hq
    have hqs : ∀ r ∈ ps, r ≠ q := fun r hr e => by
      obtain ⟨j, hj⟩ := List.getElem?_of_mem hr
      have := G.row j r hj
      rw [e, hq] at this
      cases this
    refine ⟨by rw [updC_ne hqD]; exact e2, ps ++ [q], by simp, (G.mor.put (G.mor.free hq)).put hD, hD, fun a ha => ?_, by rw [updC_same]; simp, by simp [G.len], fun j a ha => ?_, ?_, ?_⟩
    · rw [List.mem_append, List.mem_singleton] at ha
      rcases ha with ha | ha
      · exact G.news a ha
      · subst ha
        exact G.mor.free hq
    · by_cases hj : j < ps.length
      · rw [List.getElem?_append_left hj] at ha
        have hm := List.mem_of_getElem? ha
        rw [updC_ne (show a ≠ D from fun e => G.apart (by rw [← e]; exact hm)), updC_ne (hqs a hm), G.row j a ha]
        have h1 : j < i := by have := G.len; simp at this; omega
        rw [List.getD_eq_getElem?_getD, List.getD_eq_getElem?_getD, List.getElem?_replicate, List.getElem?_replicate, if_pos h1, if_pos (by omega)]
      · have h2 : j = ps.length := by
          have := (List.getElem?_eq_some_iff.mp ha).1
          simp at this
          omega
        subst h2
        rw [List.getElem?_append_right (Nat.le_refl _), Nat.sub_self] at ha
        have ea : q = a := by simpa using ha
        subst ea
        rw [updC_ne (Ne.symm hqD), updC_same, List.getD_eq_getElem?_getD, List.getElem?_replicate, if_pos (by have := G.len; simp at this; omega)]
        rfl
    · rw [List.nodup_append]
      refine ⟨G.nd, by simp, fun a ha b hb => ?_⟩
      rw [List.mem_singleton] at hb
      subst hb
      exact hqs a ha
    · rw [List.mem_append, List.mem_singleton, not_or]
      exact ⟨G.apart, hqD⟩
  · intro D acc C' hD ⟨ps, e1, G⟩ _
    exact ⟨D, ps, rfl, G⟩
/-- [tuple(f) for f in grid] -/
theorem pu_rows {p : Addr} {ps : List Addr} {fs : List (List PyData)} {C1 : Cs} {i : Nat} (G : Grid C C1 p ps fs) (h : Pu K te Γ C1 (.ref p)) (hn : fs.length < 100000) (hi : i < Γ.length) :
    Pu K (tLc (iList K te) (gName i) tYes (tCB (fun xs H Q => ∃ p ys, xs = [V.ref p] ∧ ((SqL K H p ys ∧ ∀ l, H l = none → Q (.ref l) (upd H l (.tup ys))) ∨ (SqT K H p ys ∧ Q (.ref p) H))) (tCons (tVar i) tNil)) [i]) Γ C1 (Ls (fs.map .tuple)) := by
  have e : fs.map PyData.tuple = ((List.range (ps.map Ax.ref).length).filter (fun _ => true)).map (fun j => PyData.tuple (fs.getD j [])) := by
    rw [List.filter_eq_self.mpr (fun _ _ => rfl), List.length_map, G.len]
    refine List.ext_getElem? fun j => ?_
    by_cases hj : j < fs.length
    · rw [List.getElem?_map, List.getElem?_map, List.getElem?_range hj, List.getElem?_eq_getElem hj]
      simp [hj]
    · rw [List.getElem?_eq_none (by simpa using hj), List.getElem?_eq_none (by simpa using hj)]
  rw [e]
  refine pu_lc (F := fun C' => C' p = some (.lst (ps.map .ref))) (fun _ => true) (fun j => .tuple (fs.getD j [])) (ui_listM h G.top) (by rw [List.length_map, G.len]; exact hn) (fun C' m => m.at_ G.top) fun j x C' m hx => ?_
  rw [List.getElem?_map] at hx
  cases hj : ps[j]? with
  | none => rw [hj] at hx; cases hx
  | some q =>
    rw [hj] at hx
    cases hx
    refine ⟨_, [i], fun _ h => h, tg_name, ut_yes, fun _ => ?_⟩
    refine pu_cb (au_cons (pu_var ?_) au_nil) (rc_tupM (m.at_ (G.row j q hj)))
    exact List.getElem?_set_self (by rw [wipeG_len]; exact hi)
end Ab

/-! Ab6: loops by what is known in their turns. -/
namespace Ab
open PySem PySem.Spec PyProof.Rows L2
variable {K : Kw} {An : Anc} {Γ Γ' : Gm} {C : Cs} {ta tb tc te to ti : TE} {x y z : Ax} {t u rest : TS} {c : TT} {E : En} {g : TG}
theorem Le.trans : ∀ (Γ Δ Θ : Gm), Le Γ Δ → Le Δ Θ → Le Γ Θ := by
  intro Γ
  induction Γ with
  | nil =>
    intro Δ Θ h k
    cases Δ with
    | nil => exact k
    | cons _ _ => exact h.elim
  | cons x r ih =>
    intro Δ Θ h k
    cases Δ with
    | nil => cases x <;> exact h.elim
    | cons y q =>
      cases Θ with
      | nil => cases y <;> exact k.elim
      | cons z u =>
        cases x with
        | none =>
          cases y with
          | none => exact ih q u h k
          | some y => exact ih q u h k.2
        | some x =>
          obtain ⟨rfl, h⟩ := h
          exact ⟨k.1, ih q u h k.2⟩
theorem ds_for1 {F : Cs → Prop} {wi : TI} {xs : List Ax} (Iv : Nat → Gm → Cs → Prop) (hi : PuI K F wi Γ C xs) (h0 : ∃ Δ, Le Δ Γ ∧ Iv 0 Δ C) (hF : ∀ i Γ' C', Iv i Γ' C' → F C')
    (hs : ∀ i x Δ C', xs[i]? = some x → Iv i Δ C' → ∃ Γ2 vs, Tg K g x Δ Γ2 vs ∧ Ds K C t { nx := fun Γ' C' => ∃ Δ, Le Δ Γ' ∧ Iv (i + 1) Δ C', rt := E.rt, bk := E.nx, ct := fun Γ' C' => ∃ Δ, Le Δ Γ' ∧ Iv (i + 1) Δ C' } Γ2 C') (hd : ∀ Γ' Δ C', Le Δ Γ' → Iv xs.length Δ C' → E.nx Γ' C') : Ds K An (tFor wi g t) E Γ C :=
  ds_for (fun i Γ' C' => ∃ Δ, Le Δ Γ' ∧ Iv i Δ C') hi h0 (fun i Γ' C' ⟨Δ, _, h⟩ => hF i Δ C' h) (fun i x Γ' C' hx ⟨Δ, l, h⟩ => by
    obtain ⟨Γ2, vs, ht, hb⟩ := hs i x Δ C' hx h
    exact ⟨Γ2, vs, fun C σ H v s r Q q => ht C σ H v (s.weak l) r Q q, hb⟩) (fun Γ' C' ⟨Δ, l, h⟩ => hd Γ' Δ C' l h)
/-- a for without a break, and what follows it -/
theorem ds_forS {F : Cs → Prop} {wi : TI} {xs : List Ax} (Iv : Nat → Gm → Cs → Prop) (hi : PuI K F wi Γ C xs) (h0 : ∃ Δ, Le Δ Γ ∧ Iv 0 Δ C) (hF : ∀ i Γ' C', Iv i Γ' C' → F C')
    (hs : ∀ i x Δ C', xs[i]? = some x → Iv i Δ C' → ∃ Γ2 vs, Tg K g x Δ Γ2 vs ∧ Ds K C t { nx := fun Γ' C' => ∃ Δ, Le Δ Γ' ∧ Iv (i + 1) Δ C', rt := E.rt, bk := fun Γ' C' => ∃ Δ, Le Δ Γ' ∧ Iv xs.length Δ C', ct := fun Γ' C' => ∃ Δ, Le Δ Γ' ∧ Iv (i + 1) Δ C' } Γ2 C') (k : ∀ Δ C', Iv xs.length Δ C' → Ds K An rest E Δ C') : Ds K An (tSeq (tFor wi g t) rest) E Γ C :=
  ds_seq (M := fun Γ' C' => ∃ Δ, Le Δ Γ' ∧ Iv xs.length Δ C') (ds_for1 Iv hi h0 hF hs (fun Γ' Δ C' l h => ⟨Δ, l, h⟩)) (fun Γ' C' ⟨Δ, l, h⟩ => ds_weak (k Δ C' h) l)
theorem le2 {Δ : Gm} {P : Gm → Cs → Prop} {C' : Cs} (h : P Δ C') : ∃ Δ', Le Δ' Δ ∧ P Δ' C' := ⟨Δ, Le.refl Δ, h⟩
theorem updC_updC {p : Addr} {o o' : MO} : updC (updC C p o) p o' = updC C p o' := by
  funext b
  by_cases h : b = p
  · subst h; rw [updC_same, updC_same]
  · rw [updC_ne h, updC_ne h, updC_ne h]
theorem rt_no {R : Ax → Cs → Prop} {C1 : Cs} (cl : Clo C) (m : Mor C C1) (h : R No C) : Rt C R No C1 := rt_dat cl m h
end Ab

/-! Ab7: the layer's rules with the written part named, for blocks. -/
namespace Ab
open PySem PySem.Spec PyProof.Rows L2
variable {X : Cx}
theorem kx_ixL (K : PySem.W.Frag) (h : X.K = K) : IxR X (rIxL K) := h ▸ ix_list
theorem kx_ixT (K : PySem.W.Frag) (h : X.K = K) : IxR X (rIxT K) := h ▸ ix_tup
theorem kx_in (K : PySem.W.Frag) (h : X.K = K) : OpR X (compareOp .In) (rIn K false) := h ▸ op_in_seq
theorem kx_notIn (K : PySem.W.Frag) (h : X.K = K) : OpR X (compareOp .NotIn) (rIn K true) := h ▸ op_notIn_seq
theorem kx_eqD (K : PySem.W.Frag) (h : X.K = K) (hu : X.A.units + 64 < cLine) : OpR X (compareOp .Eq) (rEqD K) := h ▸ op_eqD hu
theorem kx_neD (K : PySem.W.Frag) (h : X.K = K) (hu : X.A.units + 64 < cLine) : OpR X (compareOp .NotEq) (rNeD K) := h ▸ op_neD hu
theorem kx_slT (K : PySem.W.Frag) (h : X.K = K) : SlR X (rSlT K) := h ▸ sl_tup
theorem kx_slL (K : PySem.W.Frag) (h : X.K = K) : SlR X (rSlL K) := h ▸ sl_list
theorem kx_catT (K : PySem.W.Frag) (h : X.K = K) : OpR X (binaryOp .Add) (rCatT K) := h ▸ op_catT
theorem kx_len (K : PySem.W.Frag) (h : X.K = K) : CallR X (.builtin "len") (fun xs H Q => ∃ p ys, xs = [.ref p] ∧ (SqL K H p ys ∨ SqT K H p ys) ∧ Q (.int ys.length) H) := h ▸ call_len_seq
theorem kx_list (K : PySem.W.Frag) (h : X.K = K) : CallR X (.type "list") (fun xs H Q => ∃ p ys, xs = [.ref p] ∧ (SqL K H p ys ∨ SqT K H p ys) ∧ ∀ l, H l = none → Q (.ref l) (upd H l (.lst ys))) := h ▸ call_list_of
theorem kx_tuple (K : PySem.W.Frag) (h : X.K = K) : CallR X (.type "tuple") (fun xs H Q => ∃ p ys, xs = [.ref p] ∧ ((SqL K H p ys ∧ ∀ l, H l = none → Q (.ref l) (upd H l (.tup ys))) ∨ (SqT K H p ys ∧ Q (.ref p) H))) := h ▸ call_tuple_of
theorem kx_all (K : PySem.W.Frag) (h : X.K = K) (hc : X.calm = true) : CallR X (.builtin "all") (rAll K) := h ▸ cr_all hc
theorem kx_any (K : PySem.W.Frag) (h : X.K = K) (hc : X.calm = true) : CallR X (.builtin "any") (rAny K) := h ▸ cr_any hc
theorem kx_sum (K : PySem.W.Frag) (h : X.K = K) (hc : X.calm = true) : CallR X (.builtin "sum") (rSum K) := h ▸ cr_sum hc
theorem kx_pList (K : PySem.W.Frag) (h : X.K = K) {tg l : Expr} {tl : TE} (hl : PE X l tl) : PI X tg l (iList K tl) := h ▸ pi_list hl
theorem kx_pTup (K : PySem.W.Frag) (h : X.K = K) {tg l : Expr} {tl : TE} (hl : PE X l tl) : PI X tg l (iTup K tl) := h ▸ pi_tup hl
theorem lk {n : Nat} (h : Nat.ble n 100000 = true) : n ≤ 100000 := Nat.le_of_ble_eq_true h
end Ab

/-! Ab8: data that == reads. -/
namespace Ab
open PySem PySem.Spec PyProof.Rows L2
/-- at most n deep, its texts in order -/
def Sh (n : Nat) (d : PyData) : Prop := d.canLay0 = true ∧ d.depth ≤ n
theorem Sh.mono {n m : Nat} {d : PyData} (h : Sh n d) (k : n ≤ m) : Sh m d := ⟨h.1, Nat.le_trans h.2 k⟩
theorem Sh.sh {n : Nat} {d : PyData} (h : Sh n d) (k : n ≤ 64 := by decide) : SeqAt.shaped d = true := by
  show (d.canLay0 && decide (d.depth ≤ 64)) = true
  rw [h.1, decide_eq_true (Nat.le_trans h.2 k)]
  rfl
theorem sh_int {i : Int} : Sh 0 (.int i) := ⟨by simp [PyData.canLay0], by simp [PyData.depth]⟩
theorem sh_bool {i : Bool} : Sh 0 (.bool i) := ⟨by simp [PyData.canLay0], by simp [PyData.depth]⟩
theorem sh_none : Sh 0 .none := ⟨by simp [PyData.canLay0], by simp [PyData.depth]⟩
theorem sh_str {s : Str} (h : PyData.strOk s = true) : Sh 0 (.str s) := ⟨by simp [PyData.canLay0, h], by simp [PyData.depth]⟩
theorem sh_all {n : Nat} : ∀ {ds : List PyData}, (∀ d ∈ ds, Sh n d) → PyData.canLayAll0 ds = true ∧ PyData.depthAll ds ≤ n
  | [], _ => ⟨by simp [PyData.canLayAll0], by simp [PyData.depthAll]⟩
  | d :: ds, h => by
    have h1 := h d (by simp)
    have h2 := sh_all (ds := ds) fun e he => h e (by simp [he])
    refine ⟨by simp [PyData.canLayAll0, h1.1, h2.1], ?_⟩
    simp only [PyData.depthAll]
    exact Nat.max_le.mpr ⟨h1.2, h2.2⟩
theorem sh_tup {n : Nat} {ds : List PyData} (h : ∀ d ∈ ds, Sh n d) : Sh (n + 1) (.tuple ds) := by
  obtain ⟨h1, h2⟩ := sh_all h
  exact ⟨by simp only [PyData.canLay0]; exact h1, by simp only [PyData.depth]; omega⟩
theorem sh_list {n : Nat} {ds : List PyData} (h : ∀ d ∈ ds, Sh n d) : Sh (n + 1) (.list ds) := by
  obtain ⟨h1, h2⟩ := sh_all h
  exact ⟨by simp only [PyData.canLay0]; exact h1, by simp only [PyData.depth]; omega⟩
theorem Sh.eq {n : Nat} {d : PyData} (h : Sh n d) : PyData.eqv d d = true := SeqAt.eqv_refl d h.1
theorem sh_nil {n : Nat} : ∀ d ∈ ([] : List PyData), Sh n d := fun d h => by cases h
theorem sh_cons {n : Nat} {d : PyData} {ds : List PyData} (h : Sh n d) (k : ∀ e ∈ ds, Sh n e) : ∀ e ∈ d :: ds, Sh n e := fun e he => by
  rcases List.mem_cons.mp he with rfl | he
  · exact h
  · exact k e he
/-- the items of a list, by place, filtered -/
theorem range_getD {α : Type} (d : α) : ∀ l : List α, (List.range l.length).map (fun i => l.getD i d) = l := fun l => by
  refine List.ext_getElem? fun i => ?_
  by_cases h : i < l.length
  · rw [List.getElem?_map, List.getElem?_range h, List.getElem?_eq_getElem h]
    simp [h]
  · rw [List.getElem?_eq_none (by simpa using h), List.getElem?_eq_none (by omega)]
theorem filter_range {α β : Type} (d : α) (p : α → Bool) (f : α → β) (l : List α) : ((List.range l.length).filter (fun i => p (l.getD i d))).map (fun i => f (l.getD i d)) = (l.filter p).map f := by
  have e : l.filter p = ((List.range l.length).filter (fun i => p (l.getD i d))).map (fun i => l.getD i d) := by
    have := congrArg (List.filter p) (range_getD d l)
    rw [List.filter_map] at this
    rw [← this]
    rfl
  rw [e, List.map_map]
  rfl
theorem dpa_ints {K : PySem.W.Frag} {H : Hp} : ∀ ns : List Int, DpAll K H (ns.map V.int) (ns.map PyData.int)
  | [] => .nil
  | n :: ns => .cons (.int n) (dpa_ints ns)
/-- the law's promise at the script -/
theorem sp_law {K : Kw} {rel : Cs → List Ax → (Ax → Cs → Prop) → Prop} {H : Hp} {a : Addr} {ns : List Int} {E : XK} (hS : SqL K H a (ns.map V.int)) (h : ∀ C (R : Ax → Cs → Prop), R (B true) C → rel C [Ls (ns.map .int)] R) :
    SpG K rel [.ref a] H (fun v _ => v = .bl true) E := by
  have up : ∀ o, H a = some o → seen (some o) = some o → hid (fun _ => none) H a = some o := fun o h n => hid_of h rfl n
  have hS : SqL K (hid (fun _ => none) H) a (ns.map V.int) := by
    rcases hS with (h | ⟨o, h⟩) | h
    · exact .inl (.inl (up _ h rfl))
    · exact .inl (.inr ⟨o, up _ h rfl⟩)
    · exact .inr h
  refine ⟨fun _ => none, [Ls (ns.map .int)], fun x _ => x = B true, (fun _ _ h => by cases h), .cons ?_ .nil, h _ _ rfl, fun v x C' H' _ r e => ?_⟩
  · show Dp K (hid _ H) (.ref a) (.list _)
    exact .lst hS (dpa_ints ns)
  · subst e
    exact rx_bl r
section
variable {K : Kw} {Γ : Gm} {C : Cs} {te : TE}
theorem sIx1 (n : Nat) : HT.sIx (n + 1) 0 (some 1) = 1 := by
  rw [show (1 : Int) = ((1 : Nat) : Int) from rfl, HT.sIx_nat]
  omega
theorem cut_1 {α : Type} (d : α) (ds : List α) : cutD (d :: ds) (some 1) none = ds := by
  unfold cutD
  rw [List.length_cons, sIx1, HT.sIx_none]
  simp
/-- t[1:] -/
theorem pu_tail {d : PyData} {ds : List PyData} (h : Pu K te Γ C (T (d :: ds))) : Pu K (tSl (rSlT K) te (tPart (tC (.int 1))) tNoPart) Γ C (T ds) :=
  pu_slT h (uo_some pu_int) uo_none (cut_1 d ds) fun e => by
    rw [List.length_cons, sIx1] at e
    exact absurd e.1 (by decide)
end
end Ab

/-! Ab9: defs that change what they are passed; o[i] op= e; concatenation; tests that change. -/
namespace Ab
open PySem PySem.Spec PyProof.Rows L2
section
variable {X : Cx}
/-- xs[i], i from 0 on -/
def rGetL (K : PySem.W.Frag) : R2 := fun x y H Q => ∃ (p : Addr) (xs : List V) (j : Nat) (v : V), x = .ref p ∧ y = .int (j : Int) ∧ SqL K H p xs ∧ xs[j]? = some v ∧ Q v H
theorem get_list : PGet X (rGetL X.K) := by
  intro pins s σ H o i ov iv Q I ro ri h
  obtain ⟨p, xs, j, z, rfl, rfl, hq, he, q⟩ := h
  cases ro
  obtain ⟨t, rfl⟩ := ri
  obtain ⟨its, r, pl, hz⟩ := I.list hq
  obtain ⟨w, ew, rw'⟩ := r.get he
  have hj := (List.getElem?_eq_some_iff.mp he).1
  have hn := line63
  have hl := r.length
  exact wpAny_getItem_list pl.isList (by omega) (by omega) (by simpa using ew) ⟨z, H, I, rw', q⟩
theorem kx_getL (K : PySem.W.Frag) (h : X.K = K) : PGet X (rGetL K) := h ▸ get_list
theorem kx_catA (K : PySem.W.Frag) (h : X.K = K) : OpR X (binaryOp .Add) (rCatA K) := h ▸ op_catA
theorem kx_slA (K : PySem.W.Frag) (h : X.K = K) : SlR X (rSlA K) := h ▸ sl_tupA
end
variable {K : Kw} {An : Anc} {Γ Γ' : Gm} {C : Cs} {ta tb tc te to ti : TE} {x y z : Ax} {t u rest : TS} {c : TT} {E : En} {g : TG}
theorem rxa_set {H : Hp} {v : V} (r : Rx K C H v y) : ∀ {vs : List V} {xs : List Ax} (j : Nat), RxA K C H vs xs → RxA K C H (vs.set j v) (xs.set j y)
  | _, _, _, .nil => .nil
  | _, _, 0, .cons _ t => .cons r t
  | _, _, j + 1, .cons q t => .cons q (rxa_set r j t)
/-- xs[i] op= e, a mutable list of ints -/
theorem ds_augix {a : Addr} {xs : List Ax} {k n b : Int} {j : Nat} {f : Int → Int → Int} (ho : Pu K to Γ C (.ref a)) (hi : Pu K ti Γ C (I k)) (h : Pu K te Γ C (I b)) (hc : C a = some (.lst xs)) (hk : k = (j : Int)) (hx : xs[j]? = some (I n))
    (kk : Ds K An rest E Γ (updC C a (.lst (xs.set j (I (f n b)))))) : Ds K An (tSeq (tAugS to ti te (rGetL K) (ipI f) rSetL) rest) E Γ C := fun H0 σ H b0 s D fi =>
  ho σ H s _ fun w H1 a1 r1 => hi σ H1 (a1.sta s) _ fun i' H2 a2 r2 => by
    subst hk
    obtain ⟨rfl, ia⟩ := r1
    cases rx_int r2
    obtain ⟨ws, e1, e2⟩ := a2.cells a _ hc
    obtain ⟨v, e3, e4⟩ := rxa_get e2 hx
    cases rx_int e4
    have hj : j < xs.length := (List.getElem?_eq_some_iff.mp hx).1
    refine ⟨a, ws, j, .int n, rfl, rfl, SqL.of e1, e3, ?_⟩
    refine h σ H2 ((a1.trans a2).sta s) _ fun u H3 a3 r3 => ?_
    cases rx_int r3
    refine ⟨n, b, rfl, rfl, ?_⟩
    obtain ⟨ws2, e5, e6⟩ := a3.cells a _ hc
    refine ⟨a, ws2, (j : Int), j, rfl, rfl, e5, by rw [e6.length]; exact Evl.ixN_nat hj, ?_⟩
    have bb := Adv.setL (p := a) a3.cells ia (rxa_set (v := .int (f n b)) (y := I (f n b)) rx_I j e6)
    exact kk H0 σ _ (b0.trans (((a1.trans a2).trans a3).trans bb)) ((((a1.trans a2).trans a3).trans bb).sta s) D fi
theorem ds_augix1 {a : Addr} {xs : List Ax} {k n b : Int} {j : Nat} {f : Int → Int → Int} (ho : Pu K to Γ C (.ref a)) (hi : Pu K ti Γ C (I k)) (h : Pu K te Γ C (I b)) (hc : C a = some (.lst xs)) (hk : k = (j : Int)) (hx : xs[j]? = some (I n))
    (kk : E.nx Γ (updC C a (.lst (xs.set j (I (f n b)))))) : Ds K An (tAugS to ti te (rGetL K) (ipI f) rSetL) E Γ C :=
  show Ds K An (tSeq (tAugS to ti te (rGetL K) (ipI f) rSetL) tNext) E Γ C from ds_augix ho hi h hc hk hx (ds_next kk)
/-- tests that change the store -/
theorem ev_test {P : Ax → Cs → Prop} (h : Ev K te Γ C P) (hb : ∀ x C', P x C' → ∃ b, x = B b) : EvT K (tTest te) Γ C (fun b C' => P (B b) C') := fun σ H s Q q => h σ H s _ fun v x C2 H2 a r p => by
  obtain ⟨b, rfl⟩ := hb x C2 p
  cases rx_bl r
  exact ⟨b, rfl, q b C2 H2 a p⟩
theorem ev_B {P : Ax → Cs → Prop} (h : Ev K te Γ C P) (hb : ∀ x C', P x C' → ∃ b, x = B b) : EvT K (tB te) Γ C (fun b C' => P (B b) C') := fun σ H s Q q => h σ H s _ fun v x C2 H2 a r p => by
  obtain ⟨b, rfl⟩ := hb x C2 p
  cases rx_bl r
  exact ⟨b, rfl, q b C2 H2 a p⟩
theorem ev_not {t : TT} {P : Bool → Cs → Prop} (h : EvT K t Γ C P) : EvT K (tNot t) Γ C (fun b C' => P (!b) C') := fun σ H s Q q => h σ H s _ fun b C2 H2 a p => q (!b) C2 H2 a (by show P (!!b) C2; rw [Bool.not_not]; exact p)
theorem ev_or {t u : TT} {a : Bool} {P : Bool → Cs → Prop} (h1 : PuT K t Γ C a) (h2 : a = false → EvT K u Γ C P) : EvT K (tOr t u) Γ C (fun b C' => (a = true ∧ b = true ∧ C' = C) ∨ (a = false ∧ P b C')) := fun σ H s Q q => h1 σ H s _ fun H1 a1 => by
  cases a with
  | true =>
    show Q true H1
    exact q true C H1 a1 (.inl ⟨rfl, rfl, rfl⟩)
  | false =>
    show u σ H1 Q
    exact h2 rfl σ H1 (a1.sta s) Q fun b C2 H2 a2 p => q b C2 H2 (a1.trans a2) (.inr ⟨rfl, p⟩)
theorem EvT.imp {t : TT} {P P' : Bool → Cs → Prop} (h : EvT K t Γ C P) (k : ∀ b C, P b C → P' b C) : EvT K t Γ C P' := fun σ H s Q q => h σ H s Q fun b C2 H2 a p => q b C2 H2 a (k _ _ p)
/-- what is passed and changed: the store at the end is the caller's -/
theorem rt_mut {R : Ax → Cs → Prop} {C1 : Cs} {d : PyData} (sb : ∀ a, (C a).isSome = true → (C1 a).isSome = true) (cl : Clo C1) (h : R (.dat d) C1) : Rt C R (.dat d) C1 :=
  .inr ⟨.dat d, C1, (fun _ _ e => e), sb, cl, .inl ⟨rfl, fun _ e => nomatch e⟩, h⟩
theorem Clo.put {p : Addr} {ds : List PyData} (cl : Clo C) : Clo (updC C p (.lst (ds.map .dat))) := fun a o e => by
  by_cases h : a = p
  · subst h
    rw [updC_same] at e
    cases e
    intro b hb
    obtain ⟨d, _, hd⟩ := List.mem_map.mp hb
    cases hd
  · rw [updC_ne h] at e
    have q := cl a o e
    cases o with
    | lst xs => exact fun b hb => updC_sub b (q b hb)
    | dic xs => exact fun b hb => updC_sub b (q b hb)
    | tab xs => trivial
    | code xs => trivial
    | rng lo hi => trivial
    | ins cl xs => exact fun b hb => updC_sub b (q b hb)
theorem dpa_app {H : Hp} : ∀ {us ws : List V} {xs ys : List PyData}, DpAll K H us xs → DpAll K H ws ys → DpAll K H (us ++ ws) (xs ++ ys)
  | _, _, _, _, .nil, k => k
  | _, _, _, _, .cons h t, k => .cons h (dpa_app t k)
theorem rxa_app {H : Hp} : ∀ {us ws : List V} {xs ys : List Ax}, RxA K C H us xs → RxA K C H ws ys → RxA K C H (us ++ ws) (xs ++ ys)
  | _, _, _, _, .nil, k => k
  | _, _, _, _, .cons h t, k => .cons h (rxa_app t k)
/-! ### lists put together -/
/-- two mutable lists -/
theorem pl_cat {p q : Addr} {xs ys : List Ax} (ha : Pu K ta Γ C (.ref p)) (hb : Pu K tb Γ C (.ref q)) (hp : C p = some (.lst xs)) (hq : C q = some (.lst ys)) (hn : xs.length + ys.length ≤ 100000) : PuL K (tOp rCat ta tb) Γ C (xs ++ ys) := fun σ H s Q k =>
  ha σ H s _ fun v H1 a1 r1 => hb σ H1 (a1.sta s) _ fun w H2 a2 r2 => by
    obtain ⟨rfl, _⟩ := r1
    obtain ⟨rfl, _⟩ := r2
    obtain ⟨us, e1, e2⟩ := a2.cells p _ hp
    obtain ⟨ws, e3, e4⟩ := a2.cells q _ hq
    exact ⟨p, q, us, ws, rfl, rfl, e1, e3, sz (by rw [e2.length, e4.length]; exact hn), fun n hn => k n _ H2 (a1.trans a2) hn (rxa_app e2 e4)⟩
/-- a mutable list and a new one -/
theorem pl_catN {p : Addr} {xs ys : List Ax} (ha : Pu K ta Γ C (.ref p)) (hb : PuL K tb Γ C ys) (hp : C p = some (.lst xs)) (hn : xs.length + ys.length ≤ 100000) : PuL K (tOp rCat ta tb) Γ C (xs ++ ys) := fun σ H s Q k =>
  ha σ H s _ fun v H1 a1 r1 => hb σ H1 (a1.sta s) _ fun q ws H2 a2 hq r2 => by
    obtain ⟨rfl, _⟩ := r1
    have a3 := Adv.new (o := .lst ws) a2.cells hq
    obtain ⟨us, e1, e2⟩ := a3.cells p _ hp
    refine ⟨p, q, us, ws, rfl, rfl, e1, upd_same, sz (by rw [e2.length, r2.length]; exact hn), fun n hn => ?_⟩
    exact k n _ _ ((a1.trans a2).trans a3) hn (rxa_app e2 (Paired.map2 r2 fun _ _ h => a3.rx h))
/-- a tuple and a tuple -/
theorem pu_catA {ds es : List PyData} (ha : Pu K ta Γ C (T ds)) (hb : Pu K tb Γ C (T es)) (hn : ds.length + es.length ≤ 100000) : Pu K (tOp (rCatA K) ta tb) Γ C (T (ds ++ es)) :=
  pu_op ha hb fun v w H c r1 r2 Q q => by
    cases r1 with
    | tup hs hd =>
      cases r2 with
      | tup hs2 hd2 =>
        rename_i a us b ws
        refine ⟨a, b, us, ws, rfl, rfl, SqT.up hid_le hs, SqT.up hid_le hs2, sz (by rw [hd.len, hd2.len]; exact hn), fun e => ?_, fun _ e => ?_, fun _ _ p hp => ?_⟩
        · subst e
          cases hd
          exact q _ H (Adv.refl c) (.tup hs2 hd2)
        · subst e
          cases hd2
          rw [List.append_nil] at q
          exact q _ H (Adv.refl c) (.tup hs hd)
        · have a4 := Adv.new (o := .tup (us ++ ws)) c hp
          refine q _ _ a4 (.tup (SqT.of (hid_of upd_same (c.free hp))) (DpAll.up a4.ex _ ?_))
          exact dpa_app hd hd2
theorem pu_slA {ds es : List PyData} {tl th : TO} {lo hi : Option Int} (h : Pu K te Γ C (T ds)) (h1 : PuO K tl Γ C lo) (h2 : PuO K th Γ C hi) (e : cutD ds lo hi = es) : Pu K (tSl (rSlA K) te tl th) Γ C (T es) := fun σ H s Q q =>
  h σ H s _ fun v H1 a1 r1 => h1 σ H1 (a1.sta s) _ fun H2 a2 => h2 σ H2 ((a1.trans a2).sta s) _ fun H3 a3 => by
    subst e
    cases (a2.trans a3).rx r1 with
    | tup hs hd =>
      rename_i ad us
      refine ⟨_, _, rfl, SqT.up hid_le hs, fun k => ?_, fun _ p hp => ?_⟩
      · refine q _ _ ((a1.trans a2).trans a3) (.tup hs ?_)
        rw [hd.len] at k
        unfold cutD
        rw [k.1, k.2, List.drop_zero, Nat.sub_zero, List.take_length]
        exact hd
      · have a4 := Adv.new (o := .tup (cutV us lo hi)) a3.cells hp
        exact q _ _ (((a1.trans a2).trans a3).trans a4) (.tup (SqT.of (hid_of upd_same (a3.cells.free hp))) (DpAll.up a4.ex _ (dpa_cut hd)))
/-! ### in a row of ints; truth; slices by written places -/
theorem inV_ints {s : Int} : ∀ ss : List Int, inV (.int s) (ss.map V.int) = decide (s ∈ ss)
  | [] => rfl
  | r :: ss => by
    have ih := inV_ints (s := s) ss
    have e : eqV (.int r) (.int s) = decide (r = s) := by
      show (r == s) = _
      exact Bool.beq_eq_decide_eq r s
    show (eqV (.int r) (.int s) || inV (.int s) (ss.map V.int)) = _
    rw [ih, e]
    by_cases h : r = s
    · subst h
      simp
    · have h' : s ≠ r := fun e => h e.symm
      simp [h, h']
theorem flat_ints : ∀ ss : List Int, (ss.map V.int).all flatV = true
  | [] => rfl
  | _ :: ss => flat_ints ss
theorem dpa_intsV {H : Hp} : ∀ {vs : List V} {ss : List Int}, DpAll K H vs (ss.map PyData.int) → vs = ss.map V.int
  | _, [], h => by cases h; rfl
  | _, s :: ss, h => by
    cases h with
    | cons h1 h2 =>
      cases h1
      rw [dpa_intsV h2]
      rfl
theorem pu_inI {s : Int} {ss : List Int} (ha : Pu K ta Γ C (I s)) (hb : Pu K tb Γ C (T (ss.map .int))) : Pu K (tOp (rIn K false) ta tb) Γ C (B (decide (s ∈ ss))) :=
  pu_op ha hb fun v w H c r1 r2 Q q => by
    cases rx_int r1
    cases r2 with
    | tup hs hd =>
      have e := dpa_intsV hd
      subst e
      refine ⟨_, _, rfl, .inr (SqT.up hid_le hs), rfl, flat_ints ss, ?_⟩
      rw [if_neg (by decide), inV_ints]
      exact q _ H (Adv.refl c) rx_B
theorem pu_notInI {s : Int} {ss : List Int} (ha : Pu K ta Γ C (I s)) (hb : Pu K tb Γ C (T (ss.map .int))) : Pu K (tOp (rIn K true) ta tb) Γ C (B (!decide (s ∈ ss))) :=
  pu_op ha hb fun v w H c r1 r2 Q q => by
    cases rx_int r1
    cases r2 with
    | tup hs hd =>
      have e := dpa_intsV hd
      subst e
      refine ⟨_, _, rfl, .inr (SqT.up hid_le hs), rfl, flat_ints ss, ?_⟩
      rw [if_pos rfl, inV_ints]
      exact q _ H (Adv.refl c) rx_B
abbrev tTruth (K : PySem.W.Frag) (te : TE) : TT := fun σ H Q => te σ H fun x H' => ∃ k, TruV K x H' k ∧ Q k H'
theorem ut_trT {ds : List PyData} (h : Pu K te Γ C (T ds)) : PuT K (tTruth K te) Γ C (!ds.isEmpty) := fun σ H s Q q => h σ H s _ fun v H1 a r => by
  cases r with
  | tup hs hd =>
    rename_i ad us
    refine ⟨!ds.isEmpty, .inr (.inl ⟨us, SqT.up hid_le hs, ?_⟩), q H1 a⟩
    have := hd.len
    cases us <;> cases ds <;> simp_all
theorem ut_trL {ds : List PyData} (h : Pu K te Γ C (Ls ds)) : PuT K (tTruth K te) Γ C (!ds.isEmpty) := fun σ H s Q q => h σ H s _ fun v H1 a r => by
  cases r with
  | lst hs hd =>
    rename_i ad us
    refine ⟨!ds.isEmpty, .inl ⟨us, SqL.up hid_le hs, ?_⟩, q H1 a⟩
    have := hd.len
    cases us <;> cases ds <;> simp_all
def isNoD : PyData → Bool
  | .none => true
  | _ => false
theorem pu_isN {d : PyData} (h : Pu K te Γ C (.dat d)) : Pu K (tIsN te) Γ C (B (isNoD d)) := fun σ H s Q q => h σ H s _ fun v H1 a r => by
  have e : decide (v = .non) = isNoD d := by cases d <;> cases r <;> rfl
  rw [e]
  exact q _ H1 a rx_B
theorem pu_notN {d : PyData} (h : Pu K te Γ C (.dat d)) : Pu K (tNotN te) Γ C (B (!isNoD d)) := fun σ H s Q q => h σ H s _ fun v H1 a r => by
  have e : decide (v = .non) = isNoD d := by cases d <;> cases r <;> rfl
  rw [e]
  exact q _ H1 a rx_B
end Ab

/-! Ab10: lists of lists that are passed and changed. -/
namespace Ab
open PySem PySem.Spec PyProof.Rows L2
variable {K : Kw} {An : Anc} {Γ Γ' : Gm} {C : Cs} {ta tb tc te to ti : TE} {x y z : Ax} {t u rest : TS} {c : TT} {E : En} {g : TG}
structure GridA (C1 : Cs) (p : Addr) (ps : List Addr) (fs : List (List PyData)) : Prop where
  top : C1 p = some (.lst (ps.map .ref))
  len : ps.length = fs.length
  row : ∀ (i : Nat) q, ps[i]? = some q → C1 q = some (.lst ((fs.getD i []).map .dat))
  nd : ps.Nodup
  apart : p ∉ ps
theorem Grid.toA {C1 : Cs} {p : Addr} {ps : List Addr} {fs : List (List PyData)} (G : Grid C C1 p ps fs) : GridA C1 p ps fs := ⟨G.top, G.len, G.row, G.nd, G.apart⟩
theorem GridA.put {C1 : Cs} {p q : Addr} {ps : List Addr} {fs : List (List PyData)} (G : GridA C1 p ps fs) {i : Nat} (hq : ps[i]? = some q) (f : List PyData) : GridA (updC C1 q (.lst (f.map .dat))) p ps (fs.set i f) := by
  have hm := List.mem_of_getElem? hq
  have hi : i < ps.length := (List.getElem?_eq_some_iff.mp hq).1
  have hpq : p ≠ q := fun e => G.apart (e ▸ hm)
  refine ⟨by rw [updC_ne hpq]; exact G.top, by rw [List.length_set]; exact G.len, fun j r hj => ?_, G.nd, G.apart⟩
  by_cases e : j = i
  · subst e
    cases hj.symm.trans hq
    rw [updC_same, List.getD_eq_getElem?_getD, List.getElem?_set_self (by rw [← G.len]; exact hi)]
    rfl
  · have hr : r ≠ q := fun e2 => e (nd_ix G.nd hj (e2 ▸ hq))
    rw [updC_ne hr, G.row j r hj, List.getD_eq_getElem?_getD, List.getD_eq_getElem?_getD, List.getElem?_set_ne (fun e2 => e e2.symm)]
theorem GridA.at_ {C1 : Cs} {p : Addr} {ps : List Addr} {fs : List (List PyData)} (G : GridA C1 p ps fs) {i : Nat} (hi : i < fs.length) : ∃ q, ps[i]? = some q ∧ C1 q = some (.lst ((fs.getD i []).map .dat)) ∧ atI (ps.map Ax.ref) (i : Int) = some (.ref q) := by
  have h : i < ps.length := by rw [G.len]; exact hi
  refine ⟨ps[i], List.getElem?_eq_getElem h, G.row i _ (List.getElem?_eq_getElem h), atI_nat ?_⟩
  rw [List.getElem?_map, List.getElem?_eq_getElem h]
  rfl
/-- only the rows' cells change -/
def Only (ps : List Addr) (C C1 : Cs) : Prop := ∀ a, a ∉ ps → C1 a = C a
theorem Only.refl {ps : List Addr} : Only ps C C := fun _ _ => rfl
theorem Only.put {ps : List Addr} {C1 : Cs} {q : Addr} {o : MO} (h : Only ps C C1) (hq : q ∈ ps) : Only ps C (updC C1 q o) := fun a ha => by
  rw [updC_ne (show a ≠ q from fun e => ha (by rw [e]; exact hq))]
  exact h a ha
theorem Only.trans {ps : List Addr} {C1 C2 : Cs} (a : Only ps C C1) (b : Only ps C1 C2) : Only ps C C2 := fun x h => (b x h).trans (a x h)
theorem Grid.ofA {C0 C1 C2 : Cs} {p : Addr} {ps : List Addr} {fs gs : List (List PyData)} (G : Grid C0 C1 p ps fs) (o : Only ps C1 C2) (A : GridA C2 p ps gs) : Grid C0 C2 p ps gs :=
  ⟨fun a h => by
    have na : a ∉ ps := fun hm => by rw [G.news a hm] at h; cases h
    exact (o a na).trans (G.mor a h), G.new, G.news, A.top, A.len, A.row, A.nd, A.apart⟩
theorem paired_of_get {α β : Type} {F : α → β → Prop} : ∀ {xs : List α} {ys : List β}, xs.length = ys.length → (∀ (i : Nat) x y, xs[i]? = some x → ys[i]? = some y → F x y) → Paired F xs ys
  | [], [], _, _ => .nil
  | x :: xs, y :: ys, hl, h => .cons (h 0 x y rfl rfl) (paired_of_get (by simpa using hl) fun i a b e1 e2 => h (i + 1) a b (by simpa using e1) (by simpa using e2))
/-- a grid handed back, as data -/
theorem Grid.dz {C1 : Cs} {p : Addr} {ps : List Addr} {fs : List (List PyData)} (G : Grid C C1 p ps fs) : Dz C1 C (.ref p) (.list (fs.map .list)) := by
  refine .lst G.top G.new (paired_of_get (by simp [G.len]) fun i x y e1 e2 => ?_)
  rw [List.getElem?_map] at e1 e2
  cases h1 : ps[i]? with
  | none => rw [h1] at e1; cases e1
  | some q =>
    cases h2 : fs[i]? with
    | none => rw [h2] at e2; cases e2
    | some f =>
      rw [h1] at e1
      rw [h2] at e2
      cases e1
      cases e2
      have := G.row i q h1
      rw [List.getD_eq_getElem?_getD, h2] at this
      exact dz_lst this (G.news q (List.mem_of_getElem? h1))
/-- [..] * n -/
theorem pl_rep {xs : List Ax} {n : Int} (ha : PuL K ta Γ C xs) (hb : Pu K tb Γ C (I n)) (h0 : 0 ≤ n) (h1 : n ≤ 1000) (hx : xs.length ≤ 100) : PuL K (tOp rRep ta tb) Γ C (List.replicate n.toNat xs).flatten := fun σ H s Q k =>
  ha σ H s _ fun p vs H1 a1 hp r1 => by
    have a2 := Adv.new (o := .lst vs) a1.cells hp
    refine hb σ _ ((a1.trans a2).sta s) _ fun w H2 a3 r3 => ?_
    cases rx_int r3
    have e1 : H2 p = some (.lst vs) := by
      have := a3.ex p _ (hid_of upd_same (a1.cells.free hp))
      exact hid_le _ _ this
    have hv : vs.length ≤ 100 := by rw [r1.length]; exact hx
    have hz : vs.length * n.toNat ≤ 100000 := Nat.le_trans (Nat.mul_le_mul hv (by omega : n.toNat ≤ 1000)) (by decide)
    refine ⟨p, n, vs, rfl, rfl, e1, by omega, by omega, sz hz, fun q hq => ?_⟩
    refine k q _ H2 ((a1.trans a2).trans a3) hq ?_
    have r4 : RxA K C H2 vs xs := Paired.map2 r1 fun _ _ h => (a2.trans a3).rx h
    generalize n.toNat = m
    induction m with
    | zero => exact .nil
    | succ m ih =>
      rw [List.replicate_succ, List.replicate_succ, List.flatten_cons, List.flatten_cons]
      exact rxa_app r4 ih
end Ab

/-! Ab11: the same at a block's end. -/
namespace Ab
open PySem PySem.Spec PyProof.Rows L2
variable {K : Kw} {An : Anc} {Γ Γ' : Gm} {C : Cs} {ta tb tc te to ti : TE} {x y z : Ax} {t u rest : TS} {c : TT} {E : En} {g : TG}
theorem ixk {n : Nat} {k : Int} (h0 : 0 ≤ k) (h : k < n) : ixN n k = some k.toNat := by
  have := Evl.ixN_nat (n := n) (j := k.toNat) (by omega)
  rwa [show ((k.toNat : Nat) : Int) = k by omega] at this
theorem ds_setix1 {a : Addr} {xs : List Ax} {k : Int} {j : Nat} (h : Pu K te Γ C y) (ho : Pu K to Γ C (.ref a)) (hi : Pu K ti Γ C (I k)) (hc : C a = some (.lst xs)) (hj : ixN xs.length k = some j) (kk : E.nx Γ (updC C a (.lst (xs.set j y)))) :
    Ds K An (tAsg te (gSub to ti rSetL)) E Γ C :=
  show Ds K An (tSeq (tAsg te (gSub to ti rSetL)) tNext) E Γ C from ds_setix h ho hi hc hj (ds_next kk)
theorem ds_setE1 {i : Nat} {P : Ax → Cs → Prop} (h : Ev K te Γ C P) (k : ∀ x C', P x C' → E.nx (Γ.set i (some x)) C') : Ds K An (tAsg te (gName i)) E Γ C :=
  show Ds K An (tSeq (tAsg te (gName i)) tNext) E Γ C from ds_setE h fun x C' p => ds_next (k x C' p)
theorem ds_tgt1 {vs : List Nat} (h : Pu K te Γ C x) (ht : Tg K g x Γ Γ' vs) (k : E.nx Γ' C) : Ds K An (tAsg te g) E Γ C :=
  show Ds K An (tSeq (tAsg te g) tNext) E Γ C from ds_tgt h ht (ds_next k)
theorem flatten_one {α : Type} (x : α) : ∀ n : Nat, (List.replicate n [x]).flatten = List.replicate n x
  | 0 => rfl
  | n + 1 => by rw [List.replicate_succ, List.flatten_cons, flatten_one x n, List.replicate_succ]; rfl
/-- a mutable list is changed by a def that a caller's data do not reach: nothing of it is forgotten -/
theorem atI_app {α : Type} (l : List α) (x : α) : atI (l ++ [x]) (-1) = some x := atI_last l x
end Ab

/-! Ab12: dicts keyed by tuples, over the abstract store. -/
namespace Ab
open PySem PySem.Spec PyProof.Rows L2
section
variable {X : Cx}
theorem kx_inTab (K : Kw) (h : X.K = K.K) (hp : X.prog = K.P) (hw : X.w = K.w) (hu : X.A.units + 1 < cLine) : OpR X (compareOp .In) (Tb.rInTab K.P K.w K.K) := by
  rw [← h, ← hp, ← hw]
  exact Tb.op_inTab hu
theorem kx_niTab (K : Kw) (h : X.K = K.K) (hp : X.prog = K.P) (hw : X.w = K.w) (hu : X.A.units + 1 < cLine) : OpR X (compareOp .NotIn) (Tb.rNiTab K.P K.w K.K) := by
  rw [← h, ← hp, ← hw]
  exact Tb.op_niTab hu
theorem kx_tc (K : Kw) (h : X.K = K.K) (hp : X.prog = K.P) (hw : X.w = K.w) {kx vx tg iter : Expr} {ifs : List Expr} {scope : Scope} {own : List (Str × Nat)} {pos : Pos} {wi : TI} {g : TG} {tt : TT} {tk tv : TE} (hc : X.calm = true) (hN : X.N.Nodup) (hu : X.A.units + 1 < cLine) (hi : PI X tg iter wi)
    (ok : BlkOk X.N X.env.scope scope own) (hg : Tb.Blk X scope fun B => PG B tg g) (ht : Tb.Blk X scope fun B => PTs B ifs tt) (hk : Tb.Blk X scope fun B => PE B kx tk) (hv : Tb.Blk X scope fun B => PE B vx tv) (hs : ∀ x, foldedSetIterable iter X.env x = pure x := by intro _; rfl) :
    PE X (.DictComp kx vx [⟨tg, iter, ifs, 0⟩] scope pos) (Tb.tTc K.P K.w K.K wi g tt tk tv (own.map (·.2))) := by
  rw [← h, ← hp, ← hw]
  exact Tb.pe_tc hc hN hu hi ok hg ht hk hv hs
theorem kx_setTc (K : Kw) (h : X.K = K.K) (hp : X.prog = K.P) (hw : X.w = K.w) {kx vx tg iter : Expr} {ifs : List Expr} {scope : Scope} {own : List (Str × Nat)} {pos : Pos} {wi : TI} {g : TG} {tt : TT} {tk tv : TE} {i : Nat} {y : Str} {py spos : Pos} (hc : X.calm = true) (hN : X.N.Nodup) (hy : X.N[i]? = some y) (hyl : X.env.scope.names.lookup y = some .local)
    (hsw : swapsWith (.DictComp kx vx [⟨tg, iter, ifs, 0⟩] scope pos) (some (.Name y py)) spos.line X.env = pure true) (hu : X.A.units + 1 < cLine) (hi : PI X tg iter wi)
    (ok : BlkOk X.N X.env.scope scope own) (hg : Tb.Blk X scope fun B => PG B tg g) (ht : Tb.Blk X scope fun B => PTs B ifs tt) (hk : Tb.Blk X scope fun B => PE B kx tk) (hv : Tb.Blk X scope fun B => PE B vx tv) (hs : ∀ x, foldedSetIterable iter X.env x = pure x := by intro _; rfl) :
    PS X (.Assign [.Name y py] (.DictComp kx vx [⟨tg, iter, ifs, 0⟩] scope pos) spos) (tAsg (Tb.tTc K.P K.w K.K wi g tt tk tv (own.map (·.2))) (gName i)) := by
  rw [← h, ← hp, ← hw]
  exact Tb.ps_setTc hc hN hy hyl hsw hu hi ok hg ht hk hv hs
end
variable {K : Kw} {An : Anc} {Γ Γ' : Gm} {C : Cs} {ta tb tc te to ti tk tv : TE} {x y z : Ax} {t u rest : TS} {c : TT} {E : En} {g : TG}
def leafD : PyData → Option Leaf
  | .none => some .none
  | .bool b => some (.num (if b = true then 1 else 0))
  | .int i => some (.num i)
  | .str x => some (.text x)
  | _ => none
/-- a key: a tuple of such -/
def KeyD (d : PyData) (ks : List Leaf) : Prop := ∃ ds, d = .tuple ds ∧ Paired (fun e k => leafD e = some k) ds ks
theorem leaf_dv {H : Hp} {v : V} {d : PyData} {k : Leaf} (h : Dp K H v d) (e : leafD d = some k) : Tb.leafV v = some k := by
  cases d <;> cases h <;> first | exact e | cases e
theorem leaf_all {H : Hp} : ∀ {vs : List V} {ds : List PyData} {ks : List Leaf}, DpAll K H vs ds → Paired (fun e k => leafD e = some k) ds ks → Paired (fun v k => Tb.leafV v = some k) vs ks
  | _, _, _, .nil, .nil => .nil
  | _, _, _, .cons h hs, .cons e es => .cons (leaf_dv h e) (leaf_all hs es)
theorem key_at {H : Hp} {v : V} {d : PyData} {ks : List Leaf} (h : Dp K H v d) (e : KeyD d ks) : ∃ b, v = .ref b ∧ Tb.KeyAt K H b ks := by
  obtain ⟨ds, rfl, e⟩ := e
  cases h with
  | tup hs ha => exact ⟨_, rfl, _, hs, leaf_all ha e⟩
abbrev TRow := List Leaf × PyData × PyData
def hasL (kvs : List TRow) (ks : List Leaf) : Bool := kvs.any fun x => decide (x.1 = ks)
def putL (kvs : List TRow) (q : TRow) : List TRow := if hasL kvs q.1 = true then kvs.map (fun x => if x.1 = q.1 then (x.1, x.2.1, q.2.2) else x) else kvs ++ [q]
def tabL (l : List TRow) : List TRow := l.foldl putL []
theorem tr_has {H : Hp} : ∀ {xs : Tb.Rows V} {kvs : List TRow} (ks : List Leaf), Paired (TR K H) xs kvs → Tb.hasX xs ks = hasL kvs ks
  | _, _, _, .nil => rfl
  | _, _, ks, .cons h t => by
    have ih := tr_has ks t
    unfold Tb.hasX hasL at ih ⊢
    rw [List.any_cons, List.any_cons, ih, h.1]
theorem tr_put {H : Hp} {xs : Tb.Rows V} {kvs : List TRow} (r : Paired (TR K H) xs kvs) {q : TRow} {b : Addr} {v : V} (h : TR K H (q.1, b, v) q) : Paired (TR K H) (Tb.putX xs q.1 b v) (putL kvs q) := by
  unfold Tb.putX putL
  rw [tr_has q.1 r]
  by_cases e : hasL kvs q.1 = true
  · rw [if_pos e, if_pos e]
    clear e
    induction r with
    | nil => exact .nil
    | @cons a c l m h1 _ ih =>
      refine .cons ?_ ih
      dsimp only
      by_cases k : a.1 = q.1
      · rw [if_pos k, if_pos (h1.1.symm.trans k)]
        exact ⟨h1.1, h1.2.1, h1.2.2.1, h.2.2.2⟩
      · rw [if_neg k, if_neg fun z => k (h1.1.trans z)]
        exact h1
  · rw [if_neg e, if_neg e]
    exact Paired.snoc r h
theorem hasL_put (kvs : List TRow) (q : TRow) (ks : List Leaf) : hasL (putL kvs q) ks = (hasL kvs ks || decide (q.1 = ks)) := by
  unfold putL
  split
  · rename_i h
    have e : hasL (kvs.map fun x => if x.1 = q.1 then (x.1, x.2.1, q.2.2) else x) ks = hasL kvs ks := by
      unfold hasL
      rw [List.any_map]
      congr 1
      funext x
      simp only [Function.comp]
      split <;> rfl
    rw [e]
    by_cases k : q.1 = ks
    · rw [k] at h
      rw [h]
      rfl
    · rw [decide_eq_false k, Bool.or_false]
  · unfold hasL
    rw [List.any_append]
    simp
theorem hasL_fold (ks : List Leaf) : ∀ (l : List TRow) (kvs : List TRow), hasL (l.foldl putL kvs) ks = (hasL kvs ks || l.any fun x => decide (x.1 = ks))
  | [], kvs => by simp
  | q :: l, kvs => by rw [List.foldl_cons, hasL_fold ks l, hasL_put, List.any_cons, Bool.or_assoc]
theorem hasL_tab (l : List TRow) (ks : List Leaf) : hasL (tabL l) ks = l.any fun x => decide (x.1 = ks) := by
  unfold tabL
  rw [hasL_fold]
  rfl
/-- key in a dict that is not changed any more -/
theorem pu_inTab {d : PyData} {ks : List Leaf} {kvs : List TRow} (ha : Pu K ta Γ C (.dat d)) (hb : Pu K tb Γ C (.imm (.tab kvs))) (hd : KeyD d ks) : Pu K (tOp (Tb.rInTab K.P K.w K.K) ta tb) Γ C (B (hasL kvs ks)) :=
  pu_op ha hb fun v w H c r1 r2 Q q => by
    obtain ⟨a, xs, rfl, h2, h3, h4, h5⟩ := r2
    obtain ⟨b, rfl, hk⟩ := key_at r1 hd
    refine ⟨a, b, xs, ks, rfl, rfl, ⟨hid_le _ _ h2, h3, h4, ?_⟩, KeyAt.up hid_le hk, ?_⟩
    · have go : ∀ {l : Tb.Rows V} {m : List TRow}, Paired (TR K (hid C H)) l m → ∀ x ∈ l, Tb.KeyAt K H x.2.1 x.1 := by
        intro l m q
        induction q with
        | nil => intro x hx; cases hx
        | cons h _ ih =>
          intro x hx
          rcases List.mem_cons.mp hx with rfl | hx
          · exact KeyAt.up hid_le h.2.1
          · exact ih x hx
      exact go h5
    · rw [tr_has ks h5]
      exact q _ H (Adv.refl c) rx_B
theorem pu_niTab {d : PyData} {ks : List Leaf} {kvs : List TRow} (ha : Pu K ta Γ C (.dat d)) (hb : Pu K tb Γ C (.imm (.tab kvs))) (hd : KeyD d ks) : Pu K (tOp (Tb.rNiTab K.P K.w K.K) ta tb) Γ C (B (!hasL kvs ks)) :=
  pu_op ha hb fun v w H c r1 r2 Q q => by
    obtain ⟨a, xs, rfl, h2, h3, h4, h5⟩ := r2
    obtain ⟨b, rfl, hk⟩ := key_at r1 hd
    refine ⟨a, b, xs, ks, rfl, rfl, ⟨hid_le _ _ h2, h3, h4, ?_⟩, KeyAt.up hid_le hk, ?_⟩
    · have go : ∀ {l : Tb.Rows V} {m : List TRow}, Paired (TR K (hid C H)) l m → ∀ x ∈ l, Tb.KeyAt K H x.2.1 x.1 := by
        intro l m q
        induction q with
        | nil => intro x hx; cases hx
        | cons h _ ih =>
          intro x hx
          rcases List.mem_cons.mp hx with rfl | hx
          · exact KeyAt.up hid_le h.2.1
          · exact ih x hx
      exact go h5
    · rw [tr_has ks h5]
      exact q _ H (Adv.refl c) rx_B
/-- {key: value for ..}, by place -/
theorem pu_tc {F : Cs → Prop} {wi : TI} {xs : List Ax} {tt : TT} {own : List Nat} (p : Nat → Bool) (f : Nat → TRow) (hi : PuI K F wi Γ C xs) (hn : xs.length < 100000) (hF : ∀ C', Mor C C' → F C')
    (hs : ∀ i x C', Mor C C' → xs[i]? = some x → ∃ Γ2 vs, (∀ j, j ∈ vs → j ∈ own) ∧ Tg K g x (wipeG Γ own) Γ2 vs ∧ PuT K tt Γ2 C' (p i) ∧ (p i = true → KeyD (f i).2.1 (f i).1 ∧ Pu K tk Γ2 C' (.dat (f i).2.1) ∧ Pu K tv Γ2 C' (.dat (f i).2.2))) :
    Pu K (Tb.tTc K.P K.w K.K wi g tt tk tv own) Γ C (.imm (.tab (tabL (((List.range xs.length).filter p).map f)))) := fun σ H s Q q =>
  hi σ H s _ fun J H1 a W D hD hsys => by
    have cD := a.cells.free hD
    have aN : Adv K C H1 (updC C D (.tab [])) (upd H1 D (Tb.TabO K.P K.w D [])) := Adv.tab a.cells (.inl hD) (Nat.zero_le _) hsys .nil
    refine ⟨fun i m H' => m = xs.length - i ∧ i ≤ xs.length ∧ Adv K C H1 (updC C D (.tab (tabL (((List.range i).filter p).map f)))) H' ∧ ∃ ys, H' D = some (Tb.TabO K.P K.w D ys) ∧ ys.length ≤ i ∧ Paired (TR K (hid (updC C D (.tab (tabL (((List.range i).filter p).map f)))) H')) ys (tabL (((List.range i).filter p).map f)), ⟨xs.length, by simp, Nat.zero_le _, aN, [], upd_same, Nat.le_refl _, .nil⟩, ?_⟩
    rintro i m H' ⟨rfl, hil, a1, ys, hy, yl, yr⟩
    have mor : Mor C (updC C D (.tab (tabL (((List.range i).filter p).map f)))) := Mor.upd cD
    by_cases hlt : i < xs.length
    · refine .inr ⟨W.go i _ H' a1 (hF _ mor) hlt, fun H2 => Adv K C H1 (updC C D (.tab (tabL (((List.range (i + 1)).filter p).map f)))) H2 ∧ ∃ ys, H2 D = some (Tb.TabO K.P K.w D ys) ∧ ys.length ≤ i + 1 ∧ Paired (TR K (hid (updC C D (.tab (tabL (((List.range (i + 1)).filter p).map f)))) H2)) ys (tabL (((List.range (i + 1)).filter p).map f)), fun H2 h => ⟨xs.length - (i + 1), by omega, rfl, hlt, h⟩, fun v H2 hyl => ?_⟩
      obtain ⟨a2, r2⟩ := W.yld i _ _ H' v H2 (List.getElem?_eq_getElem hlt) a1 (hF _ mor) hyl
      obtain ⟨Γ2, vs, hv, ht, hb, hf⟩ := hs i _ _ mor (List.getElem?_eq_getElem hlt)
      have sw := (((a.trans a1).trans a2).sta s).wipe own
      have rs : List.range (i + 1) = List.range i ++ [i] := List.range_succ
      refine ht _ _ H2 v sw r2 _ fun σ2 s2 ch => ⟨wipe_chg (ch.mono hv), hb σ2 H2 s2 _ fun H3 a3 => ?_⟩
      cases hpi : p i with
      | false =>
        have e : ((List.range (i + 1)).filter p).map f = ((List.range i).filter p).map f := by rw [rs, List.filter_append]; simp [List.filter, hpi]
        have a4 := (a1.trans a2).trans a3
        obtain ⟨ys3, e3, l3, _, r3⟩ := a3.cells D _ updC_same
        have yl3 : ys3.length ≤ i := by
          have := r3.length
          have h2 := yr.length
          omega
        show Adv K C H1 _ H3 ∧ _
        rw [e]
        exact ⟨a4, ys3, e3, by omega, r3⟩
      | true =>
        obtain ⟨kd, pk, pv⟩ := hf hpi
        refine pk σ2 H3 (a3.sta s2) _ fun w H4 a4 r4 => pv σ2 H4 ((a3.trans a4).sta s2) _ fun z H5 a5 r5 => ?_
        obtain ⟨ys5, e5, l5, _, r6⟩ := a5.cells D _ updC_same
        have yl5 : ys5.length ≤ i := by
          have := r6.length
          have h2 := yr.length
          omega
        have r4' := a5.rx r4
        obtain ⟨b, rfl, hk⟩ := key_at r4' kd
        have tr : TR K (hid (updC C D (.tab (tabL (((List.range i).filter p).map f)))) H5) ((f i).1, b, z) (f i) := ⟨rfl, hk, r4', r5⟩
        have keys : ∀ x ∈ ys5, Tb.KeyAt K H5 x.2.1 x.1 := by
          have go : ∀ {l : Tb.Rows V} {m : List TRow}, Paired (TR K (hid (updC C D (.tab (tabL (((List.range i).filter p).map f)))) H5)) l m → ∀ x ∈ l, Tb.KeyAt K H5 x.2.1 x.1 := by
            intro l m q
            induction q with
            | nil => intro x hx; cases hx
            | cons h _ ih =>
              intro x hx
              rcases List.mem_cons.mp hx with rfl | hx
              · exact KeyAt.up hid_le h.2.1
              · exact ih x hx
          exact go r6
        refine ⟨ys5, (f i).1, b, rfl, ⟨e5, l5, hsys, keys⟩, KeyAt.up hid_le hk, ?_⟩
        have e : tabL (((List.range (i + 1)).filter p).map f) = putL (tabL (((List.range i).filter p).map f)) (f i) := by
          rw [rs, List.filter_append]
          unfold tabL
          simp [List.filter, hpi]
        have pl := Tb.putX_len ys5 (f i).1 b z
        have sl : (Tb.putX ys5 (f i).1 b z).length ≤ sizeLine := sz (by omega)
        have a6 := Adv.tab (p := D) (kvs := putL (tabL (((List.range i).filter p).map f)) (f i)) a5.cells (.inr (by rw [updC_same]; rfl)) sl hsys (tr_put r6 tr)
        rw [updC_updC, ← e] at a6
        have a7 := (((a1.trans a2).trans a3).trans (a4.trans a5)).trans a6
        obtain ⟨ys7, e7, _, _, r7⟩ := a7.cells D _ updC_same
        rw [upd_same] at e7
        refine ⟨a7, _, upd_same, by omega, ?_⟩
        have := tr_put r6 tr
        rw [← e] at this
        exact Paired.mp this fun _ _ q => q.up a6.ex
    · have e : i = xs.length := by omega
      subst e
      have sb : Sbs C (updC C D (.tab (tabL (((List.range xs.length).filter p).map f)))) := mor_sbs mor
      have cc : Cells K C H' := cells_sbs sb a.cells.clo a1.cells
      refine .inl ⟨W.stop _ H' a1 (hF _ mor), q _ H' (a.trans ⟨fun b o h => hid_sbs sb b o (a1.ex b o h), fun _ h => h, cc⟩) ?_⟩
      exact ⟨D, ys, rfl, hid_of hy cD, sz (by omega), hsys, Paired.mp yr fun _ _ q => q.up (hid_sbs sb)⟩
end Ab

/-! En: for i, x in enumerate(a tuple). -/
namespace En
open PySem PySem.Spec PyProof.Rows L2
open AutoSeq1 (wpAny_loadPart')
/-- enumerate(t) of a tuple -/
theorem new_tup (t : Addr) (ys : Array Value) (k : Nat) (dd : Option Addr) (ss : Array (Option Value)) :
    Meets (Builtin.«enumerate.__new__» ⟨[.type "enumerate", .ref t], []⟩) (fun _ R z => z.heap.get? t = some { cls := .type "tuple", dict := dd, data := .seq ys k, slots := ss } ∧
      R (.ok (.ret (.ref (z.heap.push { cls := .type "tuple_iterator", data := .fields #[.ref t, .int 0 0] }).objs.size)))
        { z with heap := (z.heap.push { cls := .type "tuple_iterator", data := .fields #[.ref t, .int 0 0] }).push { cls := .type "enumerate", data := .fields #[.none, .bool false, .ref z.heap.objs.size, rawInt 0, .none, .none] } }) := by
  refine .of_wp fun prog w A R z hz => ?_
  obtain ⟨hp, gs, dr, tk, os⟩ := z
  obtain ⟨ht, hr⟩ := hz
  have hsub := sub_enumerate
  have hT : Heap.IsTuple (Shared.heap ⟨hp, gs, dr, tk, os⟩) t ys := ⟨_, ht, rfl, k, rfl⟩
  wp_walk using wpAny_loadPart' ht
  refine wpAny_stack_any fun st => wpAny_pure ?_
  split
  · rename_i c _ _ _ _ _
    cases (c == Value.type "enumerate")
    all_goals
      wp_walk using wpAny_loadPart' ht, wpAny_pyIter_tuple hT
      exact ⟨_, rfl, hr⟩
  · wp_walk using wpAny_loadPart' ht, wpAny_pyIter_tuple hT
    exact ⟨_, rfl, hr⟩
end En
namespace En
open PySem PySem.Spec PyProof.Rows L2
section
variable {prog : Program} {w : World} {A : Around} {E : Value → Shared → Prop} {s : Shared}
theorem call_tup {t : Addr} {items : Array Value} {Q : Value → Shared → Prop} (hL : s.heap.IsTuple t items)
    (h : ∀ h', IsEnum h' (s.heap.objs.size + 1) s.heap.objs.size 0 .none → h'.IsTupleIter s.heap.objs.size t 0 →
      (∀ b o, s.heap.get? b = some o → h'.get? b = some o) → Q (.ref (s.heap.objs.size + 1)) { s with heap := h' }) :
    wpAny (model prog w) A (call (.type "enumerate") [.ref t]) Q E s := by
  obtain ⟨⟨c, dct, dt, sl⟩, hl, hc, n, hd⟩ := hL
  obtain rfl : c = .type "tuple" := hc
  obtain rfl : dt = .seq items n := hd
  refine callType_new F.called_enumerate (by decide) (F.typeCall_enumerate_1 _) (F.newCall_enumerate_1 _) (fun ob => F.args_object_init_2 ob _) F.entry_enumerate_new (new_tup t items n dct sl) ⟨hl, ?_⟩
  have z1 : (s.heap.push { cls := .type "tuple_iterator", data := .fields #[.ref t, .int 0 0] }).objs.size = s.heap.objs.size + 1 := Heap.size_push ..
  show _ ∧ _
  rw [z1]
  have z2 : IsEnum ((s.heap.push { cls := .type "tuple_iterator", data := .fields #[.ref t, .int 0 0] }).push { cls := .type "enumerate", data := .fields #[.none, .bool false, .ref s.heap.objs.size, rawInt 0, .none, .none] }) (s.heap.objs.size + 1) s.heap.objs.size 0 .none := by
    have z3 := Heap.get?_push_size (s.heap.push { cls := .type "tuple_iterator", data := .fields #[.ref t, .int 0 0] }) (o := { cls := .type "enumerate", data := .fields #[.none, .bool false, .ref s.heap.objs.size, rawInt 0, .none, .none] }) rfl
    rw [z1] at z3
    exact z3
  exact ⟨⟨_, z2, rfl⟩, h _ z2 ⟨_, Heap.get?_push_of_some _ (Heap.get?_push_size _ rfl), rfl, rfl⟩ fun b o x => Heap.get?_push_of_some _ (Heap.get?_push_of_some _ x)⟩
end
/-- a tuple's items, each with its place, in new pairs -/
def ItE (K : PySem.W.Frag) (a : Addr) : It :=
  ⟨fun i H => ∃ (xs : List V) (x : V), SqT K H a xs ∧ xs[i]? = some x, fun i H v H' => ∃ N x, v = .ref N ∧ H N = none ∧ H' = upd H N (.tup [.int (i : Nat), x]) ∧ ∀ xs, SqT K H a xs → xs[i]? = some x, fun i H => ∃ xs : List V, SqT K H a xs ∧ xs.length ≤ i⟩
theorem turn_tup {P : Program} {w : World} {K : PySem.W.Frag} {elts : List Expr} {kk : Nat} {tpos : Pos} (a e it : Addr) :
    Turn P w K (.Tuple elts kk tpos) (ItE K a) [e, it] e (fun i h => (∃ old, IsEnum h e it ((i : Nat) : Int) old) ∧ h.IsTupleIter it a i ∧ e ≠ it ∧ a ≠ it ∧ a ≠ e) where
  mem := by simp
  obj := fun i h st b hb => by
    obtain ⟨⟨old, he⟩, ⟨o, ho, hc, hd⟩, _⟩ := st
    rcases (show b = e ∨ b = it by simpa using hb) with z | z <;> rw [z]
    · exact ⟨_, he, fun v q => nomatch q⟩
    · exact ⟨o, ho, fun v q => by rw [hd] at q; cases q⟩
  keep := fun i h h' st k => let ⟨⟨old, he⟩, hi, ne⟩ := st; ⟨⟨old, k e (by simp) _ he⟩, hi.at fun o q => k it (by simp) o q, ne⟩
  item := by
    intro X hP hw hK hc i pins s σ H E I hf st hg
    subst hP hw hK
    obtain ⟨⟨old, he⟩, hit, ne, nt, na⟩ := st
    obtain ⟨xs, x, hq, hx⟩ := hg
    obtain ⟨its, rv, p, _⟩ := I.tuple hq
    obtain ⟨u, hu, ru⟩ := rv.get hx
    have le1 : e < s.heap.objs.size := Heap.lt_size he
    have le2 : it < s.heap.objs.size := by obtain ⟨_, q, _⟩ := hit; exact Heap.lt_size q
    have hi : i < its.length := (List.getElem?_eq_some_iff.mp hu).1
    have D := Draws.tuple (prog := X.prog) (w := X.w) (A := X.A.in1) (I.ok.hd hc) it a nt its.toArray
    refine wpAny_pyNext_enum_itemD D he ⟨hit, p⟩ (by simpa using hi) ne (by simp [ne, Ne.symm na]) fun y h' tk hy ho st' hT hsz hk => ?_
    have ey : y = u := by
      have hy' : its[i]? = some y := by simpa using hy
      rw [hu] at hy'
      cases hy'
      rfl
    subst ey
    refine ⟨_, rfl, wpAny_letOwnedTupleGo_enum (s := { s with heap := h', toks := tk + 1 }) ho fun h2 he2 sb => ?_⟩
    have hT2 := (sb.2 _ (Nat.ne_of_gt le1)).trans hT
    have new : ObjOk X.prog X.w (upd H s.heap.objs.size (.tup [.int (i : Nat), x])) h2 s.heap.objs.size (.tup [.int (i : Nat), x]) :=
      ⟨by show 2 ≤ sizeLine; decide, [.int i tk, y], .cons ⟨_, rfl⟩ (.cons ru .nil), ⟨_, hT2, rfl, _, rfl⟩⟩
    have I1 : Inv X pins σ (upd H s.heap.objs.size (.tup [.int (i : Nat), x])) { s with heap := h2, toks := tk + 1 } :=
      I.turnedNew (ch := [e, it]) (fun b ob hb q => (sb.2 b (fun z => hb (by simp [z]))).trans (hk b ob (fun z => hb (by simp [z])) (fun z => hb (by simp [z])) q)) hf (Nat.le_refl _) new
    refine ⟨.ref s.heap.objs.size, _, I1, rfl, ⟨_, x, rfl, I.hok.fresh (Nat.le_refl _), rfl, fun ys hy => by rw [I.tuple_inj hy hq]; exact hx⟩, ⟨⟨y, ?_⟩, st'.1.at fun o q => (sb.2 it (Ne.symm ne)).trans q, ne, nt, na⟩, fun b hb => ?_⟩
    · rw [show ((i + 1 : Nat) : Int) = (i : Int) + 1 by omega]
      exact he2
    · have hb' : b < s.heap.objs.size := by
        rcases (show b = e ∨ b = it by simpa using hb) with z | z <;> rw [z]
        · exact le1
        · exact le2
      rw [upd_ne (Nat.ne_of_lt hb')]
      exact (hf b hb).1
  done := by
    intro X hP hw hK hc i pins s σ H E I hf st hg
    subst hP hw hK
    obtain ⟨⟨old, he⟩, hit, ne, nt, na⟩ := st
    obtain ⟨xs, hq, hx⟩ := hg
    obtain ⟨its, rv, p, _⟩ := I.tuple hq
    obtain ⟨f0, f1, f2, f3, f4, f5⟩ := hf it (by simp)
    have hl := rv.length
    have hT : s.TypeIs (.ref e) "enumerate" := ⟨_, he, rfl⟩
    unfold pyNext
    refine wpAny_bind (wpAny_attempt (wpAny_callSpecial?_slot (name := Str.ofString "__next__") hT F.slot_enumerate_next (wpAny_call_entry F.slot_enumerate_next hT F.entry_enumerate_next ?_ (F.args_enumerate_next_1 _))))
    show wpAny _ _ (field (.ref e) 2 >>= _) _ _ _
    refine wpAny_bind (wpAny_field he rfl (x := .ref it) rfl ?_)
    refine wpAny_bind (wpAny_nextOf_tuple_end (A := X.A.in1) (I.ok.hd hc) hit p (by simp; omega) fun h' x eb hx' => ?_)
    obtain ⟨o, ho, hc'⟩ := hx'
    refine wpAny_bind (wpAny_isInstance (T := "StopIteration") (b := true) ⟨o, ho, hc'⟩ isSubtype_stop ?_)
    exact wpAny_pure ⟨rfl, I.turned (t' := s.toks) (fun b o hb q => eb b o hb q) f0 f1 f3 f4 f5⟩
  self := fun A i s Q E st h => let ⟨⟨_, he⟩, _⟩ := st; wpAny_pyIter_enum he h
/-- enumerate of a list or a tuple -/
def iEnA (K : PySem.W.Frag) (ta : TA) : TI := fun σ H R => ta σ H fun vs H1 => ∃ a xs, vs = [.ref a] ∧ ((SqL K H1 a xs ∧ R (Ite K a) H1) ∨ (SqT K H1 a xs ∧ R (ItE K a) H1))
theorem pi_enA {X : Cx} {e : Expr} {ta : TA} {p pos tpos : Pos} {elts : List Expr} {kk : Nat} (hg : Gl X "enumerate") (hm : X.mg "enumerate" = none) (ha : PA X [e] ta) (hs : starEach [e] X.env = [(false, eval e X.env)] := by rfl) :
    PI X (.Tuple elts kk tpos) (.Call (.Name "enumerate" p) [e] [] pos) (iEnA X.K ta) := by
  refine ⟨fun pins s σ H R I h => ?_⟩
  refine Call_ (ld_blt I hg hm boot_enumerate (PyProof.Rows.callWith_type1 (thn (ha.run pos pins s σ H _ I h) fun us s1 ⟨vs, H1, I1, r1, q1⟩ => ?_) hs rfl))
  obtain ⟨a, xs, ex, q1⟩ := q1
  subst ex
  cases r1 with
  | cons r rr =>
    cases rr
    cases r
    have fresh2 : ∀ b ∈ [s1.heap.objs.size + 1, s1.heap.objs.size], FpOk X pins H1 b := fun b hb => by
      have hle : s1.heap.objs.size ≤ b := by
        rcases (show b = s1.heap.objs.size + 1 ∨ b = s1.heap.objs.size by simpa using hb) with z | z <;> rw [z]
        · exact Nat.le_succ _
        · exact Nat.le_refl _
      exact I1.fpOk hle (I1.hok.fresh hle)
    rcases q1 with ⟨hq, q⟩ | ⟨hq, q⟩
    · obtain ⟨its, rv, p', _⟩ := I1.list hq
      refine call_enumerate_list p'.isList fun h' he hit _ hk => wpAny_pyIter_enum he ?_
      exact ⟨s1.heap.objs.size + 1, [s1.heap.objs.size + 1, s1.heap.objs.size], _, _, H1, rfl, I1.kept (t' := s1.toks) hk, turn_enum a (s1.heap.objs.size + 1) s1.heap.objs.size, ⟨⟨.none, he⟩, hit, Nat.succ_ne_self _⟩, fresh2, q⟩
    · obtain ⟨its, rv, p', _⟩ := I1.tuple hq
      have hlt : a < s1.heap.objs.size := by obtain ⟨_, ho, _⟩ := id p'; exact Heap.lt_size ho
      refine call_tup p' fun h' he hit hk => wpAny_pyIter_enum he ?_
      exact ⟨s1.heap.objs.size + 1, [s1.heap.objs.size + 1, s1.heap.objs.size], _, _, H1, rfl, I1.kept (t' := s1.toks) hk, turn_tup a (s1.heap.objs.size + 1) s1.heap.objs.size, ⟨⟨.none, he⟩, hit, Nat.succ_ne_self _, Nat.ne_of_lt hlt, Nat.ne_of_lt (Nat.lt_succ_of_lt hlt)⟩, fresh2, q⟩
end En

/-! Ab13: dicts with written keys as cells; arguments that change the store; sums; in by data; enumerate. -/
namespace Ab
open PySem PySem.Spec PyProof.Rows L2
theorem _root_.L2.Room.unit1 {k : Nat} {A : Around} (r : Room k A) : A.units + 1 < cLine := by have := r.un; omega
theorem _root_.L2.Room.unit65 {k : Nat} {A : Around} (r : Room k A) : A.units + 65 < cLine := by have := r.un; omega
section
variable {X : Cx}
/-- y in a tuple or list of data, by == -/
def rInA (K : PySem.W.Frag) (neg : Bool) : R2 := fun x y H Q => ∃ d e ds, Dp K H x d ∧ Dp K H y e ∧ (e = .tuple ds ∨ e = .list ds) ∧ SeqAt.shaped d = true ∧ SeqAt.shaped e = true ∧ Q (.bl (if neg = true then !ds.any fun z => PyData.eqv z d else ds.any fun z => PyData.eqv z d)) H
theorem room_tup {ds : List PyData} {d : PyData} {u : Nat} (h : SeqAt.shaped (.tuple ds) = true) (hu : u + 65 < cLine) : u + 1 + min (PyData.depthAll ds) d.depth < cLine := by
  have h1 : PyData.depthAll ds ≤ 64 := by
    have h : ((PyData.tuple ds).canLay0 && decide ((PyData.tuple ds).depth ≤ 64)) = true := h
    rw [Bool.and_eq_true] at h
    have := of_decide_eq_true h.2
    simp only [PyData.depth] at this
    omega
  have := Nat.min_le_left (PyData.depthAll ds) d.depth
  omega
theorem room_lst {ds : List PyData} {d : PyData} {u : Nat} (h : SeqAt.shaped (.list ds) = true) (hu : u + 65 < cLine) : u + 1 + min (PyData.depthAll ds) d.depth < cLine := by
  have h1 : PyData.depthAll ds ≤ 64 := by
    have h : ((PyData.list ds).canLay0 && decide ((PyData.list ds).depth ≤ 64)) = true := h
    rw [Bool.and_eq_true] at h
    have := of_decide_eq_true h.2
    simp only [PyData.depth] at this
    omega
  have := Nat.min_le_left (PyData.depthAll ds) d.depth
  omega
theorem op_inA (hu : X.A.units + 65 < cLine) : OpR X (compareOp .In) (rInA X.K false) := by
  intro pins s σ H x y v u Q I rx ry h
  obtain ⟨d, e, ds, hd, he, k, sd, se, q⟩ := h
  rw [if_neg (by decide)] at q
  obtain ⟨as, r1⟩ := Dp.reads I d x v hd rx
  rcases k with rfl | rfl
  · obtain ⟨bs, r2⟩ := Dp.reads I (.tuple ds) y u he ry
    exact SeqAt.in_tuple_reads r2 r1 (SeqAt.canLay_of_shaped se) (SeqAt.canLay_of_shaped sd) (room_tup se hu) ⟨.bl _, H, I, rfl, q⟩
  · obtain ⟨bs, r2⟩ := Dp.reads I (.list ds) y u he ry
    exact SeqAt.in_list_reads r2 r1 (SeqAt.canLay_of_shaped se) (SeqAt.canLay_of_shaped sd) (room_lst se hu) ⟨.bl _, H, I, rfl, q⟩
theorem op_niA (hu : X.A.units + 65 < cLine) : OpR X (compareOp .NotIn) (rInA X.K true) := by
  intro pins s σ H x y v u Q I rx ry h
  obtain ⟨d, e, ds, hd, he, k, sd, se, q⟩ := h
  rw [if_pos rfl] at q
  obtain ⟨as, r1⟩ := Dp.reads I d x v hd rx
  rcases k with rfl | rfl
  · obtain ⟨bs, r2⟩ := Dp.reads I (.tuple ds) y u he ry
    exact SeqAt.notIn_tuple_reads r2 r1 (SeqAt.canLay_of_shaped se) (SeqAt.canLay_of_shaped sd) (room_tup se hu) ⟨.bl _, H, I, rfl, q⟩
  · obtain ⟨bs, r2⟩ := Dp.reads I (.list ds) y u he ry
    exact SeqAt.notIn_list_reads r2 r1 (SeqAt.canLay_of_shaped se) (SeqAt.canLay_of_shaped sd) (room_lst se hu) ⟨.bl _, H, I, rfl, q⟩
theorem kx_inA (K : PySem.W.Frag) (h : X.K = K) (hu : X.A.units + 65 < cLine) : OpR X (compareOp .In) (rInA K false) := h ▸ op_inA hu
theorem kx_niA (K : PySem.W.Frag) (h : X.K = K) (hu : X.A.units + 65 < cLine) : OpR X (compareOp .NotIn) (rInA K true) := h ▸ op_niA hu
theorem kx_pEn (K : PySem.W.Frag) (h : X.K = K) {e : Expr} {ta : TA} {p pos tpos : Pos} {elts : List Expr} {kk : Nat} (hg : Gl X "enumerate") (hm : X.mg "enumerate" = none) (ha : PA X [e] ta) (hs : starEach [e] X.env = [(false, eval e X.env)] := by rfl) :
    PI X (.Tuple elts kk tpos) (.Call (.Name "enumerate" p) [e] [] pos) (En.iEnA K ta) := h ▸ En.pi_enA hg hm ha hs
end
variable {K : Kw} {An : Anc} {Γ Γ' : Gm} {C : Cs} {ta tb tc te to ti td tv : TE} {x y z : Ax} {t u rest : TS} {c : TT} {E : En} {g : TG}
theorem pu_inA {d e : PyData} {ds : List PyData} (ha : Pu K ta Γ C (.dat d)) (hb : Pu K tb Γ C (.dat e)) (k : e = .tuple ds ∨ e = .list ds) (hd : SeqAt.shaped d = true) (he : SeqAt.shaped e = true) : Pu K (tOp (rInA K false) ta tb) Γ C (B (ds.any fun z => PyData.eqv z d)) :=
  pu_op ha hb fun v w H c r1 r2 Q q => ⟨d, e, ds, rx_dp r1, rx_dp r2, k, hd, he, by rw [if_neg (by decide)]; exact q _ H (Adv.refl c) rx_B⟩
theorem pu_niA {d e : PyData} {ds : List PyData} (ha : Pu K ta Γ C (.dat d)) (hb : Pu K tb Γ C (.dat e)) (k : e = .tuple ds ∨ e = .list ds) (hd : SeqAt.shaped d = true) (he : SeqAt.shaped e = true) : Pu K (tOp (rInA K true) ta tb) Γ C (B (!ds.any fun z => PyData.eqv z d)) :=
  pu_op ha hb fun v w H c r1 r2 Q q => ⟨d, e, ds, rx_dp r1, rx_dp r2, k, hd, he, by rw [if_pos rfl]; exact q _ H (Adv.refl c) rx_B⟩
theorem dec_b {i j : Bool} : decide (V.bl i = V.bl j) = decide (i = j) := by cases i <;> cases j <;> rfl
theorem pu_isB {i j : Bool} (ha : Pu K ta Γ C (B i)) (hb : Pu K tb Γ C (B j)) : Pu K (tOp rIsB ta tb) Γ C (B (decide (i = j))) :=
  pu_op ha hb fun v w H c r1 r2 Q q => by
    cases rx_bl r1; cases rx_bl r2
    exact ⟨i, j, rfl, rfl, q _ H (Adv.refl c) rx_B⟩
theorem pu_isntB {i j : Bool} (ha : Pu K ta Γ C (B i)) (hb : Pu K tb Γ C (B j)) : Pu K (tOp rNotB ta tb) Γ C (B (!decide (i = j))) :=
  pu_op ha hb fun v w H c r1 r2 Q q => by
    cases rx_bl r1; cases rx_bl r2
    exact ⟨i, j, rfl, rfl, q _ H (Adv.refl c) rx_B⟩
theorem pu_eqBl {i j : Bool} (ha : Pu K ta Γ C (B i)) (hb : Pu K tb Γ C (B j)) : Pu K (tOp rEq ta tb) Γ C (B (decide (i = j))) := by
  have := pu_eqS ha hb rfl rfl rfl
  rw [dec_b] at this
  exact this
theorem pu_neBl {i j : Bool} (ha : Pu K ta Γ C (B i)) (hb : Pu K tb Γ C (B j)) : Pu K (tOp rNe ta tb) Γ C (B (!decide (i = j))) := by
  have := pu_neS ha hb rfl rfl rfl
  rw [dec_b] at this
  exact this
/-! ### sum, any, all of data -/
theorem dpa_bls {H : Hp} : ∀ {vs : List V} {bs : List Bool}, DpAll K H vs (bs.map PyData.bool) → vs = bs.map V.bl
  | _, [], h => by cases h; rfl
  | _, s :: ss, h => by
    cases h with
    | cons h1 h2 =>
      cases h1
      rw [dpa_bls h2]
      rfl
theorem rc_sum {ns : List Int} : RCu K (rSum K) C [Ls (ns.map .int)] (I ns.sum) := fun vs H c r Q q => by
  cases r with
  | cons r1 rt =>
    cases rt
    cases r1 with
    | lst hs hd =>
      have e := dpa_intsV hd
      subst e
      exact ⟨_, ns, rfl, SqL.up hid_le hs, q _ H (Adv.refl c) rx_I⟩
theorem rc_any {bs : List Bool} : RCu K (rAny K) C [Ls (bs.map .bool)] (B (bs.any id)) := fun vs H c r Q q => by
  cases r with
  | cons r1 rt =>
    cases rt
    cases r1 with
    | lst hs hd =>
      have e := dpa_bls hd
      subst e
      exact ⟨_, bs, rfl, SqL.up hid_le hs, q _ H (Adv.refl c) rx_B⟩
theorem rc_all {bs : List Bool} : RCu K (rAll K) C [Ls (bs.map .bool)] (B (bs.all id)) := fun vs H c r Q q => by
  cases r with
  | cons r1 rt =>
    cases rt
    cases r1 with
    | lst hs hd =>
      have e := dpa_bls hd
      subst e
      exact ⟨_, bs, rfl, SqL.up hid_le hs, q _ H (Adv.refl c) rx_B⟩
/-! ### in a mutable list of ints -/
theorem rxa_intsV {H : Hp} : ∀ {vs : List V} {ss : List Int}, RxA K C H vs (ss.map I) → vs = ss.map V.int
  | _, [], h => by cases h; rfl
  | _, s :: ss, h => by
    cases h with
    | cons h1 h2 =>
      cases rx_int h1
      rw [rxa_intsV h2]
      rfl
theorem pu_notInM {a : Addr} {s : Int} {ss : List Int} (ha : Pu K ta Γ C (I s)) (hb : Pu K tb Γ C (.ref a)) (hc : C a = some (.lst (ss.map I))) : Pu K (tOp (rIn K true) ta tb) Γ C (B (!decide (s ∈ ss))) :=
  pu_op ha hb fun v w H c r1 r2 Q q => by
    cases rx_int r1
    obtain ⟨rfl, _⟩ := r2
    obtain ⟨vs, e1, e2⟩ := c a _ hc
    have e := rxa_intsV e2
    subst e
    refine ⟨_, _, rfl, .inl (SqL.of e1), rfl, flat_ints ss, ?_⟩
    rw [if_pos rfl, inV_ints]
    exact q _ H (Adv.refl c) rx_B
theorem pu_notInL {s : Int} {ss : List Int} (ha : Pu K ta Γ C (I s)) (hb : Pu K tb Γ C (Ls (ss.map .int))) : Pu K (tOp (rIn K true) ta tb) Γ C (B (!decide (s ∈ ss))) :=
  pu_op ha hb fun v w H c r1 r2 Q q => by
    cases rx_int r1
    cases r2 with
    | lst hs hd =>
      have e := dpa_intsV hd
      subst e
      refine ⟨_, _, rfl, .inl (SqL.up hid_le hs), rfl, flat_ints ss, ?_⟩
      rw [if_pos rfl, inV_ints]
      exact q _ H (Adv.refl c) rx_B
/-! ### xs.pop(i) -/
theorem rxa_erase {H : Hp} : ∀ {vs : List V} {xs : List Ax} (k : Nat), RxA K C H vs xs → RxA K C H (vs.eraseIdx k) (xs.eraseIdx k)
  | _, _, _, .nil => .nil
  | _, _, 0, .cons _ t => t
  | _, _, k + 1, .cons h t => .cons h (rxa_erase k t)
theorem ev_popAt {a : Addr} {xs : List Ax} {i : Int} {k : Nat} (ho : Pu K to Γ C (.ref a)) (h : Pu K te Γ C (I i)) (hc : C a = some (.lst xs)) (hi : i = (k : Int)) (hk : k < xs.length) (hz : xs.length ≤ 100000) :
    Ev K (tBM K "list" rPopAt to (tCons te tNil)) Γ C (fun x C' => xs[k]? = some x ∧ C' = updC C a (.lst (xs.eraseIdx k))) := fun σ H s Q q =>
  ho σ H s _ fun v H1 a1 r1 => by
    obtain ⟨rfl, ia⟩ := r1
    obtain ⟨ws, e1, e2⟩ := a1.cells a _ hc
    refine ⟨.inl ⟨rfl, ws, SqL.of e1⟩, h σ H1 (a1.sta s) _ fun w H2 a2 r2 => ?_⟩
    cases rx_int r2
    obtain ⟨ws2, e3, e4⟩ := a2.cells a _ hc
    obtain ⟨y, e5, e6⟩ := rxa_get e4 (List.getElem?_eq_getElem hk)
    have hl := e4.length
    refine ⟨a, ws2, i, k, y, rfl, rfl, e3, by omega, by omega, ?_, e5, ?_⟩
    · rw [hi]
      rw [seqIndex_of (by omega) (by omega)]
      simp
    have b := Adv.setL (p := a) a2.cells ia (rxa_erase k e4)
    exact q _ _ _ _ ((a1.trans a2).trans b) (b.rx e6) ⟨List.getElem?_eq_getElem hk, rfl⟩
/-! ### arguments that change the store -/
def EvA (K : Kw) (ta : TA) (Γ : Gm) (C : Cs) (P : List Ax → Cs → Prop) : Prop := ∀ σ H, Sta K Γ C σ H → ∀ Q : List V → Hp → Prop, (∀ vs xs C2 H2, Adv K C H C2 H2 → RxA K C2 H2 vs xs → P xs C2 → Q vs H2) → ta σ H Q
theorem ea_of {ta : TA} {xs : List Ax} (h : PuA K ta Γ C xs) : EvA K ta Γ C (fun ys C2 => ys = xs ∧ C2 = C) := fun σ H s Q q => h σ H s Q fun vs H2 a r => q vs xs C H2 a r ⟨rfl, rfl⟩
theorem ea_cons {tr : TA} {P : Ax → Cs → Prop} {P2 : List Ax → Cs → Prop} (h : Ev K te Γ C P) (hr : ∀ x C1, P x C1 → EvA K tr Γ C1 (fun xs C2 => P2 (x :: xs) C2)) : EvA K (tCons te tr) Γ C P2 := fun σ H s Q q =>
  h σ H s _ fun v x C1 H1 a1 r1 p => hr x C1 p σ H1 (a1.sta s) _ fun vs xs C2 H2 a2 r2 p2 => q _ _ _ H2 (a1.trans a2) (.cons (a2.rx r1) r2) p2
theorem EvA.imp {ta : TA} {P P' : List Ax → Cs → Prop} (h : EvA K ta Γ C P) (k : ∀ xs C', P xs C' → P' xs C') : EvA K ta Γ C P' := fun σ H s Q q => h σ H s Q fun vs xs C2 H2 a r p => q vs xs C2 H2 a r (k _ _ p)
theorem ev_callE {rel : Cs → List Ax → (Ax → Cs → Prop) → Prop} {X : XK} {tr : TA} {PA : List Ax → Cs → Prop} {P : Ax → Cs → Prop} (h : EvA K tr Γ C PA) (hr : ∀ xs C1, PA xs C1 → rel C1 xs P) : Ev K (tCall (SpG K rel) [] X tr) Γ C P := fun σ H s Q q =>
  h σ H s _ fun vs xs C1 H1 a1 r1 p1 => by
    rw [List.append_nil]
    exact ⟨C1, xs, P, a1.cells, r1, hr _ _ p1, fun v y C2 H2 a2 r2 e => q v y C2 H2 (a1.trans a2) r2 e⟩
/-! ### dicts with written keys -/
def getK (kvs : List (Key × Ax)) (k : Key) : Option Ax := (kvs.find? fun kv => decide (kv.1 = k)).map (·.2)
def setK (kvs : List (Key × Ax)) (k : Key) (x : Ax) : List (Key × Ax) := if (kvs.any fun kv => decide (kv.1 = k)) = true then kvs.map (fun kv => if kv.1 = k then (kv.1, x) else kv) else kvs ++ [(k, x)]
theorem rxk_get {H : Hp} {k : Key} {x : Ax} : ∀ {vs : List (Key × V)} {kvs : List (Key × Ax)}, RxK K C H vs kvs → getK kvs k = some x → ∃ v, valV vs k = some v ∧ Rx K C H v x
  | _, _, .nil, e => by cases e
  | _, _, .cons (a := p) (b := q) h t, e => by
    by_cases hk : q.1 = k
    · have e0 : ∀ l, getK (q :: l) k = some q.2 := fun l => by simp [getK, List.find?_cons, hk]
      rw [e0] at e
      cases e
      exact ⟨p.2, valV_pos (h.1.trans hk), h.2⟩
    · have e2 : ∀ l, getK (q :: l) k = getK l k := fun l => by simp [getK, List.find?_cons, hk]
      rw [e2] at e
      obtain ⟨v, e3, r⟩ := rxk_get t e
      exact ⟨v, by rw [valV_neg (fun z => hk (h.1.symm.trans z))]; exact e3, r⟩
theorem rxk_any {H : Hp} {k : Key} : ∀ {vs : List (Key × V)} {kvs : List (Key × Ax)}, RxK K C H vs kvs → (vs.any fun kv => decide (kv.1 = k)) = kvs.any fun kv => decide (kv.1 = k)
  | _, _, .nil => rfl
  | _, _, .cons (a := p) (b := q) h t => by
    rw [List.any_cons, List.any_cons, rxk_any t, h.1]
theorem rxk_put {H : Hp} {k : Key} {x : Ax} {v : V} {vs : List (Key × V)} {kvs : List (Key × Ax)} (r : RxK K C H vs kvs) (rx : Rx K C H v x) : RxK K C H (putK vs k v) (setK kvs k x) := by
  unfold putK setK
  rw [rxk_any r]
  by_cases e : (kvs.any fun kv => decide (kv.1 = k)) = true
  · rw [if_pos e, if_pos e]
    clear e
    induction r with
    | nil => exact .nil
    | @cons a b l m h _ ih =>
      refine .cons ?_ ih
      dsimp only
      by_cases hk : a.1 = k
      · rw [if_pos hk, if_pos (h.1.symm.trans hk)]
        exact ⟨h.1, rx⟩
      · rw [if_neg hk, if_neg fun z => hk (h.1.trans z)]
        exact h
  · rw [if_neg e, if_neg e]
    exact Paired.snoc r ⟨rfl, rx⟩
/-- a dict changes, or is new -/
theorem Adv.setD {H : Hp} {p : Addr} {vs : List (Key × V)} {kvs : List (Key × Ax)} (c : Cells K C H) (hp : (C p).isSome = true ∨ H p = none) (r : RxK K C H vs kvs) : Adv K C H (updC C p (.dic kvs)) (upd H p (.dK vs)) := by
  have ex : ∀ a u, hid C H a = some u → hid (updC C p (.dic kvs)) (upd H p (.dK vs)) a = some u := fun a u h => by
    have ne : a ≠ p := fun z => by
      subst z
      rcases hp with hp | hp
      · unfold hid at h
        rw [if_pos hp] at h
        cases h
      · rw [hid_le a u h] at hp
        cases hp
    unfold hid at h ⊢
    rw [upd_ne ne, updC_ne ne]
    exact h
  refine ⟨ex, updC_sub, fun a u e => ?_⟩
  · by_cases ha : a = p
    · subst ha
      rw [updC_same] at e
      cases e
      exact ⟨vs, upd_same, Paired.map2 r fun _ _ q => ⟨q.1, Rx.up ex updC_sub q.2⟩⟩
    · rw [updC_ne ha] at e
      exact Cell.up ex updC_sub (upd_ne ha) (c a u e)
/-- a key as data -/
def kD : Key → PyData
  | .inl i => .int i
  | .inr s => .str s
theorem kD_v {H : Hp} {k : Key} {v : V} (h : Rx K C H v (.dat (kD k))) : v = kV k := by
  cases k with
  | inl i => exact rx_int h
  | inr s => exact rx_str h
abbrev kS (s : Str) : Key := .inr s
theorem pu_dget {a : Addr} {kvs : List (Key × Ax)} {k : Key} (ha : Pu K ta Γ C (.ref a)) (hb : Pu K tb Γ C (.dat (kD k))) (hc : C a = some (.dic kvs)) (h : getK kvs k = some x) : Pu K (tDGet ta tb) Γ C x := fun σ H s Q q =>
  ha σ H s _ fun v H1 a1 r1 => hb σ H1 (a1.sta s) _ fun w H2 a2 r2 => by
    obtain ⟨rfl, _⟩ := r1
    have e := kD_v r2
    subst e
    obtain ⟨vs, e1, e2⟩ := a2.cells a _ hc
    obtain ⟨z, e3, e4⟩ := rxk_get e2 h
    exact ⟨a, z, rfl, by rw [← e3]; exact DGet.k e1, q z H2 (a1.trans a2) e4⟩
theorem ds_dput {a : Addr} {kvs : List (Key × Ax)} {k : Key} (hv : Pu K tv Γ C y) (ho : Pu K to Γ C (.ref a)) (hi : Pu K ti Γ C (.dat (kD k))) (hc : C a = some (.dic kvs)) (hz : kvs.length < 100000) (kk : Ds K An rest E Γ (updC C a (.dic (setK kvs k y)))) :
    Ds K An (tSeq (sDPut to ti tv) rest) E Γ C := fun H0 σ H b0 s D f =>
  hv σ H s _ fun v H1 a1 r1 => ho σ H1 (a1.sta s) _ fun w H2 a2 r2 => hi σ H2 ((a1.trans a2).sta s) _ fun i' H3 a3 r3 => by
    obtain ⟨rfl, ia⟩ := r2
    have e := kD_v r3
    subst e
    obtain ⟨ws, e1, e2⟩ := a3.cells a _ hc
    refine ⟨a, _, rfl, DPut.k e1 (szl (by rw [e2.length]; exact hz)), ?_⟩
    have b := Adv.setD (p := a) a3.cells (.inl ia) (rxk_put (k := k) e2 ((a2.trans a3).rx r1))
    exact kk H0 σ _ (b0.trans (((a1.trans a2).trans a3).trans b)) ((((a1.trans a2).trans a3).trans b).sta s) D f
/-- the value is a new list -/
theorem ds_dputE {a : Addr} {kvs : List (Key × Ax)} {k : Key} {P : Ax → Cs → Prop} (hv : Ev K tv Γ C P) (ho : ∀ x C', P x C' → Pu K to Γ C' (.ref a)) (hi : ∀ x C', P x C' → Pu K ti Γ C' (.dat (kD k))) (hc : ∀ x C', P x C' → C' a = some (.dic kvs)) (hz : kvs.length < 100000)
    (kk : ∀ x C', P x C' → Ds K An rest E Γ (updC C' a (.dic (setK kvs k x)))) : Ds K An (tSeq (sDPut to ti tv) rest) E Γ C := fun H0 σ H b0 s D f =>
  hv σ H s _ fun v x C1 H1 a1 r1 p => ho x C1 p σ H1 (a1.sta s) _ fun w H2 a2 r2 => hi x C1 p σ H2 (a2.sta (a1.sta s)) _ fun i' H3 a3 r3 => by
    obtain ⟨rfl, ia⟩ := r2
    have e := kD_v r3
    subst e
    obtain ⟨ws, e1, e2⟩ := a3.cells a _ (hc x C1 p)
    refine ⟨a, _, rfl, DPut.k e1 (szl (by rw [e2.length]; exact hz)), ?_⟩
    have b := Adv.setD (p := a) a3.cells (.inl ia) (rxk_put (k := k) e2 ((a2.trans a3).rx r1))
    exact kk x C1 p H0 σ _ (b0.trans ((a1.trans (a2.trans a3)).trans b)) (((a1.trans (a2.trans a3)).trans b).sta s) D f
/-- {'k': .., ..}: its pairs -/
def EvP (K : Kw) (trs : List (TE × TE)) (Γ : Gm) (C : Cs) (P : List (Key × Ax) → Cs → Prop) : Prop := ∀ σ H, Sta K Γ C σ H → ∀ Q : List (V × V) → Hp → Prop, (∀ us kvs C2 H2, Adv K C H C2 H2 → RxK K C2 H2 us kvs → P kvs C2 → Q (us.map fun kv => (kV kv.1, kv.2)) H2) → tPairs trs σ H Q
theorem ep_nil {P : List (Key × Ax) → Cs → Prop} (h : P [] C) : EvP K [] Γ C P := fun σ H s Q q => q [] [] C H s.adv .nil h
theorem ep_cons {tk : TE} {trs : List (TE × TE)} {k : Key} {P : List (Key × Ax) → Cs → Prop} (hk : Pu K tk Γ C (.dat (kD k))) (hv : Pu K tv Γ C x) (hr : EvP K trs Γ C fun kvs C2 => P ((k, x) :: kvs) C2) : EvP K ((tk, tv) :: trs) Γ C P := fun σ H s Q q =>
  hk σ H s _ fun w H1 a1 r1 => hv σ H1 (a1.sta s) _ fun v H2 a2 r2 => hr σ H2 ((a1.trans a2).sta s) _ fun us kvs C3 H3 a3 r3 p => by
    have e := kD_v r1
    subst e
    exact q ((k, v) :: us) _ C3 H3 ((a1.trans a2).trans a3) (.cons ⟨rfl, a3.rx r2⟩ r3) p
theorem ep_consE {tk : TE} {trs : List (TE × TE)} {k : Key} {P : List (Key × Ax) → Cs → Prop} {PV : Ax → Cs → Prop} (hk : Pu K tk Γ C (.dat (kD k))) (hv : Ev K tv Γ C PV) (hr : ∀ x C1, PV x C1 → EvP K trs Γ C1 fun kvs C2 => P ((k, x) :: kvs) C2) : EvP K ((tk, tv) :: trs) Γ C P := fun σ H s Q q =>
  hk σ H s _ fun w H1 a1 r1 => hv σ H1 (a1.sta s) _ fun v x C2 H2 a2 r2 pv => hr x C2 pv σ H2 ((a1.trans a2).sta s) _ fun us kvs C3 H3 a3 r3 p => by
    have e := kD_v r1
    subst e
    exact q ((k, v) :: us) _ C3 H3 ((a1.trans a2).trans a3) (.cons ⟨rfl, a3.rx r2⟩ r3) p
theorem merge_nd {us : List (Key × V)} (h : (us.map (·.1)).Nodup) : mergeK [] us = us := by
  have go : ∀ (us : List (Key × V)) (acc : List (Key × V)), (acc.map (·.1) ++ us.map (·.1)).Nodup → mergeK acc us = acc ++ us := by
    intro us
    induction us with
    | nil => intro acc _; simp [mergeK]
    | cons a us ih =>
      intro acc hn
      have e : putK acc a.1 a.2 = acc ++ [a] := by
        refine putK_new _ ?_
        cases e : valV acc a.1 with
        | none => rfl
        | some v =>
          have := valV_any a.1 acc
          rw [e] at this
          obtain ⟨b, hb, hb2⟩ := List.any_eq_true.mp this
          rw [List.nodup_append] at hn
          exact absurd (of_decide_eq_true hb2) (hn.2.2 _ (List.mem_map_of_mem hb) _ (by simp))
      show mergeK (putK acc a.1 a.2) us = _
      rw [e, ih _ (by simpa using hn)]
      simp
  have := go us [] (by simpa using h)
  simpa using this
theorem rxk_keys {H : Hp} : ∀ {us : List (Key × V)} {kvs : List (Key × Ax)}, RxK K C H us kvs → us.map (·.1) = kvs.map (·.1)
  | _, _, .nil => rfl
  | _, _, .cons h t => by rw [List.map_cons, List.map_cons, h.1, rxk_keys t]
theorem ev_disp {trs : List (TE × TE)} {P : Addr → List (Key × Ax) → Cs → Prop} (h : ∀ p, C p = none → EvP K trs Γ (updC C p (.dic [])) (P p)) (hl : ∀ p kvs C', P p kvs C' → kvs.length ≤ 15 ∧ (kvs.map (·.1)).Nodup ∧ C' p = some (.dic [])) :
    Ev K (tDisp trs) Γ C fun x C' => ∃ p kvs C1, P p kvs C1 ∧ C p = none ∧ x = .ref p ∧ C' = updC C1 p (.dic kvs) := fun σ H s Q q => fun p hp => by
  have cp := s.cells.free hp
  have a0 : Adv K C H (updC C p (.dic [])) (upd H p (.dK [])) := Adv.setD s.cells (.inr hp) .nil
  refine h p cp σ _ (a0.sta s) _ fun us kvs C2 H2 a2 r2 pk => ?_
  obtain ⟨k15, knd, c2⟩ := hl p kvs C2 pk
  obtain ⟨ws, e1, e2⟩ := a2.cells p _ c2
  cases e2
  refine ⟨e1, us, rfl, by rw [r2.length]; exact k15, ?_⟩
  rw [merge_nd (by rw [rxk_keys r2]; exact knd)]
  have b := Adv.setD (p := p) a2.cells (.inl (by rw [c2]; rfl)) r2
  exact q _ _ _ _ ((a0.trans a2).trans b) (rx_ref (by rw [updC_same]; rfl)) ⟨p, kvs, C2, pk, cp, rfl, rfl⟩
/-! ### enumerate -/
def enD (i : Nat) : PyData → PyData := fun d => .tuple [.int (i : Int), d]
theorem getE {ds : List PyData} {i : Nat} {x : Ax} (h : (ds.mapIdx fun i d => Ax.dat (enD i d))[i]? = some x) : ∃ d, ds[i]? = some d ∧ x = .dat (enD i d) := by
  rw [List.getElem?_mapIdx] at h
  cases e : ds[i]? with
  | none => rw [e] at h; cases h
  | some d => rw [e] at h; cases h; exact ⟨d, rfl, rfl⟩
theorem ui_enT {ta : TA} {ds : List PyData} (h : PuA K ta Γ C [T ds]) : PuI K F0 (En.iEnA K ta) Γ C (ds.mapIdx fun i d => .dat (enD i d)) := fun σ H s R q => h σ H s _ fun vs H1 a r => by
  cases r with
  | cons r1 rt =>
    cases rt
    cases r1 with
    | tup hs hd =>
      have up : ∀ {C' : Cs} {H' : Hp}, Adv K C H1 C' H' → ∀ a o, hid C H1 a = some o → H' a = some o := fun b a o h => hid_le a o (b.ex a o h)
      refine ⟨_, _, rfl, .inr ⟨SqT.up hid_le hs, q _ _ a ⟨fun i C' H' b _ hi => ?_, fun C' H' b _ => ?_, fun i x C' H' v H2 e b _ hy => ?_⟩⟩⟩
      · have hi' : i < ds.length := by simpa using hi
        obtain ⟨w, e1, _⟩ := hd.get (List.getElem?_eq_getElem hi')
        exact ⟨_, w, SqT.up (up b) hs, e1⟩
      · exact ⟨_, SqT.up (up b) hs, by rw [hd.len, List.length_mapIdx]; exact Nat.le_refl _⟩
      · obtain ⟨N, z, rfl, hN, rfl, hy⟩ := hy
        obtain ⟨d, e1, rfl⟩ := getE e
        obtain ⟨w, e2, e3⟩ := hd.get e1
        have e4 := hy _ (SqT.up (up b) hs)
        cases e4.symm.trans e2
        have a4 := Adv.new (o := .tup [.int (i : Nat), z]) b.cells hN
        exact ⟨a4, .tup (SqT.of (hid_of upd_same (b.cells.free hN))) (.cons (.int _) (.cons (Dp.up (fun c o h => a4.ex c o (b.ex c o h)) d e3) .nil))⟩
theorem ui_enL {ta : TA} {ds : List PyData} (h : PuA K ta Γ C [Ls ds]) : PuI K F0 (En.iEnA K ta) Γ C (ds.mapIdx fun i d => .dat (enD i d)) := fun σ H s R q => h σ H s _ fun vs H1 a r => by
  cases r with
  | cons r1 rt =>
    cases rt
    cases r1 with
    | lst hs hd =>
      have up : ∀ {C' : Cs} {H' : Hp}, Adv K C H1 C' H' → ∀ a o, hid C H1 a = some o → H' a = some o := fun b a o h => hid_le a o (b.ex a o h)
      refine ⟨_, _, rfl, .inl ⟨SqL.up hid_le hs, q _ _ a ⟨fun i C' H' b _ hi => ?_, fun C' H' b _ => ?_, fun i x C' H' v H2 e b _ hy => ?_⟩⟩⟩
      · have hi' : i < ds.length := by simpa using hi
        obtain ⟨w, e1, _⟩ := hd.get (List.getElem?_eq_getElem hi')
        exact ⟨_, w, SqL.up (up b) hs, e1⟩
      · exact ⟨_, SqL.up (up b) hs, by rw [hd.len, List.length_mapIdx]; exact Nat.le_refl _⟩
      · obtain ⟨N, z, rfl, hN, rfl, hy⟩ := hy
        obtain ⟨d, e1, rfl⟩ := getE e
        obtain ⟨w, e2, e3⟩ := hd.get e1
        have e4 := hy _ (SqL.up (up b) hs)
        cases e4.symm.trans e2
        have a4 := Adv.new (o := .tup [.int (i : Nat), z]) b.cells hN
        exact ⟨a4, .tup (SqT.of (hid_of upd_same (b.cells.free hN))) (.cons (.int _) (.cons (Dp.up (fun c o h => a4.ex c o (b.ex c o h)) d e3) .nil))⟩
theorem ds_dput1 {a : Addr} {kvs : List (Key × Ax)} {k : Key} (hv : Pu K tv Γ C y) (ho : Pu K to Γ C (.ref a)) (hi : Pu K ti Γ C (.dat (kD k))) (hc : C a = some (.dic kvs)) (hz : kvs.length < 100000) (kk : E.nx Γ (updC C a (.dic (setK kvs k y)))) :
    Ds K An (sDPut to ti tv) E Γ C := show Ds K An (tSeq (sDPut to ti tv) tNext) E Γ C from ds_dput hv ho hi hc hz (ds_next kk)
end Ab

/-! Ab14: comprehensions as new cells, grids made of them. -/
namespace Ab
open PySem PySem.Spec PyProof.Rows L2
variable {K : Kw} {An : Anc} {Γ Γ' : Gm} {C : Cs} {ta tb tc te to ti td tv : TE} {x y z : Ax} {t u rest : TS} {c : TT} {E : En} {g : TG}
theorem ev_lcN {wi : TI} {xs : List Ax} {tt : TT} {own : List Nat} {F : Cs → Prop} (p : Nat → Bool) (f : Nat → PyData) (hi : PuI K F wi Γ C xs) (hn : xs.length < 100000) (hF : ∀ C', Mor C C' → F C')
    (hs : ∀ i x C', Mor C C' → xs[i]? = some x → ∃ Γ2 vs, (∀ j, j ∈ vs → j ∈ own) ∧ Tg K g x (wipeG Γ own) Γ2 vs ∧ PuT K tt Γ2 C' (p i) ∧ (p i = true → Pu K te Γ2 C' (.dat (f i)))) :
    Ev K (tLc wi g tt te own) Γ C (fun x C' => ∃ D, C D = none ∧ x = .ref D ∧ C' = updC C D (.lst ((((List.range xs.length).filter p).map f).map .dat))) := by
  refine ev_lc (fun D i acc C' => acc = (((List.range i).filter p).map f).map .dat ∧ C' = updC C D (.lst acc) ∧ C D = none) hi hn (fun D h => ⟨rfl, rfl, h⟩) (fun D i acc C' e => by rw [e.2.1]; exact hF _ (Mor.upd e.2.2)) ?_ ?_
  · intro D i x acc C' hD hx ⟨e1, e2, _⟩ e3
    obtain ⟨Γ2, vs, hv, ht, hp, hf⟩ := hs i x C' (by rw [e2]; exact Mor.upd hD) hx
    have rs : List.range (i + 1) = List.range i ++ [i] := List.range_succ
    refine ⟨Γ2, vs, p i, hv, ht, hp, fun e => ⟨?_, e2, hD⟩, fun e => (hf e).ev.imp fun y C2 ⟨ey, ec⟩ => ?_⟩
    · rw [e1, rs, List.filter_append]
      simp [List.filter, e]
    · subst ey; subst ec
      refine ⟨e3, ?_, ?_, hD⟩
      · rw [e1, rs, List.filter_append]
        simp [List.filter, e]
      · rw [e2, updC_updC]
  · intro D acc C' hD ⟨e1, e2, _⟩ _
    exact ⟨D, hD, rfl, by rw [e2, e1]⟩
theorem ev_gridE {F : Cs → Prop} {wi : TI} {xs : List Ax} {own : List Nat} {r : List PyData} (hi : PuI K F wi Γ C xs) (hn : xs.length < 100000) (hF : ∀ C', Mor C C' → F C')
    (hs : ∀ (i : Nat) (x : Ax) C', Mor C C' → xs[i]? = some x → ∃ Γ2 vs, (∀ j, j ∈ vs → j ∈ own) ∧ Tg K g x (wipeG Γ own) Γ2 vs ∧ Ev K te Γ2 C' (fun y C2 => ∃ q, C' q = none ∧ y = .ref q ∧ C2 = updC C' q (.lst (r.map .dat)))) :
    Ev K (tLc wi g tYes te own) Γ C (fun x C' => ∃ p ps, x = .ref p ∧ Grid C C' p ps (List.replicate xs.length r)) := by
  refine ev_lc (fun D i acc C' => ∃ ps, acc = ps.map .ref ∧ Grid C C' D ps (List.replicate i r)) hi hn (fun D h => ⟨[], rfl, Mor.upd h, h, (fun q hq => by cases hq), updC_same, rfl, (fun i q hq => by simp at hq), .nil, (fun h => by cases h)⟩) (fun D i acc C' ⟨ps, _, G⟩ => hF C' G.mor) ?_ ?_
  · intro D i x acc C' hD hx ⟨ps, e1, G⟩ e2
    obtain ⟨Γ2, vs, hv, ht, hl⟩ := hs i x C' G.mor hx
    refine ⟨Γ2, vs, true, hv, ht, ut_yes, (fun e => by cases e), fun _ => hl.imp fun y C2 ⟨q, hq, ey, ec⟩ => ?_⟩
    subst ey; subst ec; subst e1
    have hqD : D ≠ q := fun e => by rw [← e, e2] at hq; cases hq
    have hqs : ∀ r ∈ ps, r ≠ q := fun r hr e => by
      obtain ⟨j, hj⟩ := List.getElem?_of_mem hr
      have := G.row j r hj
      rw [e, hq] at this
      cases this
    refine ⟨by rw [updC_ne hqD]; exact e2, ps ++ [q], by simp, (G.mor.put (G.mor.free hq)).put hD, hD, fun a ha => ?_, by rw [updC_same]; simp, by simp [G.len], fun j a ha => ?_, ?_, ?_⟩
    · rw [List.mem_append, List.mem_singleton] at ha
      rcases ha with ha | ha
      · exact G.news a ha
      · subst ha
        exact G.mor.free hq
    · by_cases hj : j < ps.length
      · rw [List.getElem?_append_left hj] at ha
        have hm := List.mem_of_getElem? ha
        rw [updC_ne (show a ≠ D from fun e => G.apart (by rw [← e]; exact hm)), updC_ne (hqs a hm), G.row j a ha]
        have h1 : j < i := by have := G.len; simp at this; omega
        rw [List.getD_eq_getElem?_getD, List.getD_eq_getElem?_getD, List.getElem?_replicate, List.getElem?_replicate, if_pos h1, if_pos (by omega)]
      · have h2 : j = ps.length := by
          have := (List.getElem?_eq_some_iff.mp ha).1
          simp at this
          omega
        subst h2
        rw [List.getElem?_append_right (Nat.le_refl _), Nat.sub_self] at ha
        have ea : q = a := by simpa using ha
        subst ea
        rw [updC_ne (Ne.symm hqD), updC_same, List.getD_eq_getElem?_getD, List.getElem?_replicate, if_pos (by have := G.len; simp at this; omega)]
        rfl
    · rw [List.nodup_append]
      refine ⟨G.nd, by simp, fun a ha b hb => ?_⟩
      rw [List.mem_singleton] at hb
      subst hb
      exact hqs a ha
    · rw [List.mem_append, List.mem_singleton, not_or]
      exact ⟨G.apart, hqD⟩
  · intro D acc C' hD ⟨ps, e1, G⟩ _
    exact ⟨D, ps, rfl, G⟩
/-- [tuple(f) for f in grid], whatever grid -/
theorem pu_rowsA {p : Addr} {ps : List Addr} {fs : List (List PyData)} {C1 : Cs} {i : Nat} (G : GridA C1 p ps fs) (h : Pu K te Γ C1 (.ref p)) (hn : fs.length < 100000) (hi : i < Γ.length) :
    Pu K (tLc (iList K te) (gName i) tYes (tCB (fun xs H Q => ∃ p ys, xs = [V.ref p] ∧ ((SqL K H p ys ∧ ∀ l, H l = none → Q (.ref l) (upd H l (.tup ys))) ∨ (SqT K H p ys ∧ Q (.ref p) H))) (tCons (tVar i) tNil)) [i]) Γ C1 (Ls (fs.map .tuple)) := by
  have e : fs.map PyData.tuple = ((List.range (ps.map Ax.ref).length).filter (fun _ => true)).map (fun j => PyData.tuple (fs.getD j [])) := by
    rw [List.filter_eq_self.mpr (fun _ _ => rfl), List.length_map, G.len]
    refine List.ext_getElem? fun j => ?_
    by_cases hj : j < fs.length
    · rw [List.getElem?_map, List.getElem?_map, List.getElem?_range hj, List.getElem?_eq_getElem hj]
      simp [hj]
    · rw [List.getElem?_eq_none (by simpa using hj), List.getElem?_eq_none (by simpa using hj)]
  rw [e]
  refine pu_lc (F := fun C' => C' p = some (.lst (ps.map .ref))) (fun _ => true) (fun j => .tuple (fs.getD j [])) (ui_listM h G.top) (by rw [List.length_map, G.len]; exact hn) (fun C' m => m.at_ G.top) fun j x C' m hx => ?_
  rw [List.getElem?_map] at hx
  cases hj : ps[j]? with
  | none => rw [hj] at hx; cases hx
  | some q =>
    rw [hj] at hx
    cases hx
    refine ⟨_, [i], fun _ h => h, tg_name, ut_yes, fun _ => ?_⟩
    refine pu_cb (au_cons (pu_var ?_) au_nil) (rc_tupM (m.at_ (G.row j q hj)))
    exact List.getElem?_set_self (by rw [wipeG_len]; exact hi)
theorem le_len {n : Nat} (h : n ≤ 5) : n < 100000 := Nat.lt_of_le_of_lt h (by decide)
/-- what is known here is not what is new there -/
theorem ne_new {a b : Addr} (h : C a = none) (k : (C b).isSome = true) : a ≠ b := fun e => by rw [← e, h] at k; cases k
theorem filt_range {α β : Type} (l : List α) (p : α → Bool) (f : α → β) (d : β) : ((List.range l.length).filter fun i => (l[i]?.map p).getD false).map (fun i => (l[i]?.map f).getD d) = (l.filter p).map f := by
  induction l with
  | nil => rfl
  | cons a l ih =>
    rw [List.length_cons, List.range_succ_eq_map, List.filter_cons, List.filter_map]
    have e : ((fun i => ((a :: l)[i]?.map p).getD false) ∘ Nat.succ) = fun i => (l[i]?.map p).getD false := rfl
    rw [e]
    have h0 : ((((a :: l)[0]?).map p).getD false) = p a := rfl
    rw [h0, List.filter_cons]
    have hm : ((((List.range l.length).filter fun i => (l[i]?.map p).getD false).map Nat.succ).map fun i => (((a :: l)[i]?).map f).getD d) = (l.filter p).map f := by
      rw [List.map_map, ← ih]
      rfl
    split
    · rw [List.map_cons, hm, List.map_cons]
      rfl
    · exact hm
/-- [e(a) for a in l if p(a)] -/
theorem pu_lcF {α : Type} {D : α → PyData} {l : List α} {wi : TI} {tt : TT} {own : List Nat} (p : α → Bool) (f : α → PyData) (hi : PuI K F0 wi Γ C ((l.map D).map .dat)) (hn : l.length < 100000)
    (hs : ∀ (i : Nat) (a : α) (C' : Cs), Mor C C' → l[i]? = some a → ∃ Γ2 vs, (∀ j, j ∈ vs → j ∈ own) ∧ Tg K g (.dat (D a)) (wipeG Γ own) Γ2 vs ∧ PuT K tt Γ2 C' (p a) ∧ (p a = true → Pu K te Γ2 C' (.dat (f a)))) :
    Pu K (tLc wi g tt te own) Γ C (Ls ((l.filter p).map f)) := by
  have e := filt_range l p f PyData.none
  rw [← e]
  have hl : ((l.map D).map Ax.dat).length = l.length := by rw [List.length_map, List.length_map]
  rw [← hl]
  refine pu_lc (fun i => (l[i]?.map p).getD false) (fun i => (l[i]?.map f).getD .none) hi (by rw [hl]; exact hn) (fun _ _ => trivial) fun i x C' m hx => ?_
  rw [List.map_map, List.getElem?_map] at hx
  cases ha : l[i]? with
  | none => rw [ha] at hx; cases hx
  | some a =>
    rw [ha] at hx
    cases hx
    exact hs i a C' m ha
theorem ev_lcF {α : Type} {D : α → PyData} {l : List α} {wi : TI} {tt : TT} {own : List Nat} (p : α → Bool) (f : α → PyData) (hi : PuI K F0 wi Γ C ((l.map D).map .dat)) (hn : l.length < 100000)
    (hs : ∀ (i : Nat) (a : α) (C' : Cs), Mor C C' → l[i]? = some a → ∃ Γ2 vs, (∀ j, j ∈ vs → j ∈ own) ∧ Tg K g (.dat (D a)) (wipeG Γ own) Γ2 vs ∧ PuT K tt Γ2 C' (p a) ∧ (p a = true → Pu K te Γ2 C' (.dat (f a)))) :
    Ev K (tLc wi g tt te own) Γ C (fun x C' => ∃ P, C P = none ∧ x = .ref P ∧ C' = updC C P (.lst (((l.filter p).map f).map .dat))) := by
  have e := filt_range l p f PyData.none
  rw [← e]
  have hl : ((l.map D).map Ax.dat).length = l.length := by rw [List.length_map, List.length_map]
  rw [← hl]
  refine ev_lcN (fun i => (l[i]?.map p).getD false) (fun i => (l[i]?.map f).getD .none) hi (by rw [hl]; exact hn) (fun _ _ => trivial) fun i x C' m hx => ?_
  rw [List.map_map, List.getElem?_map] at hx
  cases ha : l[i]? with
  | none => rw [ha] at hx; cases hx
  | some a =>
    rw [ha] at hx
    cases hx
    exact hs i a C' m ha
/-- {k(a): v(a) for a in l if p(a)} -/
theorem pu_tcF {α : Type} {D : α → PyData} {l : List α} {wi : TI} {tt : TT} {tk tv : TE} {own : List Nat} (p : α → Bool) (f : α → TRow) (hi : PuI K F0 wi Γ C ((l.map D).map .dat)) (hn : l.length < 100000)
    (hs : ∀ (i : Nat) (a : α) (C' : Cs), Mor C C' → l[i]? = some a → ∃ Γ2 vs, (∀ j, j ∈ vs → j ∈ own) ∧ Tg K g (.dat (D a)) (wipeG Γ own) Γ2 vs ∧ PuT K tt Γ2 C' (p a) ∧ (p a = true → KeyD (f a).2.1 (f a).1 ∧ Pu K tk Γ2 C' (.dat (f a).2.1) ∧ Pu K tv Γ2 C' (.dat (f a).2.2))) :
    Pu K (Tb.tTc K.P K.w K.K wi g tt tk tv own) Γ C (.imm (.tab (tabL ((l.filter p).map f)))) := by
  have e := filt_range l p f ([], PyData.none, PyData.none)
  rw [← e]
  have hl : ((l.map D).map Ax.dat).length = l.length := by rw [List.length_map, List.length_map]
  rw [← hl]
  refine pu_tc (fun i => (l[i]?.map p).getD false) (fun i => (l[i]?.map f).getD ([], PyData.none, PyData.none)) hi (by rw [hl]; exact hn) (fun _ _ => trivial) fun i x C' m hx => ?_
  rw [List.map_map, List.getElem?_map] at hx
  cases ha : l[i]? with
  | none => rw [ha] at hx; cases hx
  | some a =>
    rw [ha] at hx
    cases hx
    exact hs i a C' m ha
theorem ds_clo (h : Clo C → Ds K An t E Γ C) : Ds K An t E Γ C := fun H0 σ H b s D f => h s.cells.clo H0 σ H b s D f
end Ab

/-! Srt: sorted of tuples that begin with ints, no two the same. -/
namespace Sk
open PySem PySem.Spec PyProof.Rows L2 SrtO
def IsKT (h : Heap) (v : Value) (k : Int) : Prop := ∃ a o t rest n, v = .ref a ∧ h.get? a = some o ∧ o.cls = .type "tuple" ∧ o.data = .seq (Value.int k t :: rest).toArray n
theorem IsKT.keeps {h h' : Heap} {v : Value} {k : Int} (p : IsKT h v k) (e : ∀ b o, h.get? b = some o → o.cls = .type "tuple" → h'.get? b = some o) : IsKT h' v k := by
  obtain ⟨a, o, t, r, n, e1, ho, hc, hd⟩ := p
  exact ⟨a, o, t, r, n, e1, e _ _ ho hc, hc, hd⟩
theorem IsKT.inj {h : Heap} {v : Value} {k j : Int} (p : IsKT h v k) (q : IsKT h v j) : k = j := by
  obtain ⟨a, o, t, r, n, e1, ho, hc, hd⟩ := p
  obtain ⟨a', o', t', r', n', e1', ho', hc', hd'⟩ := q
  rw [e1] at e1'
  cases e1'
  rw [ho] at ho'
  cases ho'
  rw [hd] at hd'
  injection hd' with h1 _
  have h2 := congrArg Array.toList h1
  simp at h2
  exact h2.1.1
section
variable {prog : Program} {w : World} {A : Around} {E : Value → Shared → Prop} {s : Shared}
theorem kat_self {b : Bool} {Q : Bool → Shared → Prop} (q : Q false s) : ∀ (l : List Value) (i : Nat), PySem.W.KatLex prog w A b false Q (l.zip l) i s
  | [], i => PySem.W.kat_nil q
  | v :: l, i => PySem.W.kat_cons (SeqAt.EqAt.same v prog w _ _ (PySem.W.kat_yes (kat_self q l (i + 1))))
theorem key_cmp {vs : List Value} {k : Value → Int} (hp : ∀ v ∈ vs, IsKT s.heap v (k v)) (hi : ∀ v ∈ vs, ∀ u ∈ vs, k v = k u → v = u) : Cmp prog w A s (tuples' true) (fun p => p.1 ∈ vs) (lt2 fun v u => decide (k v < k u)) := by
  intro p q hm hm'
  show wpAny (model prog w) A (keyLt' (tuples' true) p.1 q.1) (fun r s' => s' = s ∧ r = decide (k p.1 < k q.1)) (fun _ _ => False) s
  obtain ⟨a, o, t, r, n, e1, ho, hc, hd⟩ := hp _ hm
  obtain ⟨a', o', t', r', n', e1', ho', hc', hd'⟩ := hp _ hm'
  by_cases e : k p.1 = k q.1
  · have pq := hi _ hm _ hm' e
    rw [e1, e1'] at pq
    cases pq
    rw [ho] at ho'
    cases ho'
    rw [show decide (k p.1 < k q.1) = false from decide_eq_false (by omega)]
    generalize hx : k p.1 = x at *
    rw [e1, e1']
    refine PySem.W.kat_lt ho hd ho hd ?_
    rw [decide_eq_false (Nat.lt_irrefl _)]
    exact kat_self ⟨rfl, rfl⟩ _ 0
  · generalize hx : k p.1 = x at *
    generalize hy : k q.1 = y at *
    rw [e1, e1']
    refine PySem.W.kat_lt ho hd ho' hd' ?_
    refine PySem.W.kat_cons (SeqAt.EqAt.int_int x t y t' prog w _ _ ?_)
    rw [show (x == y) = false from beq_eq_false_iff_ne.mpr e]
    exact PySem.W.kat_no (TS.oneLt_ints _ ⟨rfl, rfl⟩)
theorem key_firsts {h : Heap} {k : Value → Int} : ∀ {vs : List Value}, (∀ v ∈ vs, IsKT h v (k v)) → ∃ fs : List Value, PySem.W.KatTups h vs fs ∧ fs.length = vs.length ∧ ∀ f ∈ fs, ∃ x t, f = Value.int x t
  | [], _ => ⟨[], PySem.W.KatTups.nil, rfl, fun _ hm => by simp at hm⟩
  | v :: vs, hp => by
    obtain ⟨fs, h1, h2, h3⟩ := key_firsts (vs := vs) fun u hm => hp u (List.mem_cons_of_mem _ hm)
    obtain ⟨a, o, t, r, n, rfl, ho, hc, hd⟩ := hp v (List.mem_cons_self ..)
    refine ⟨.int (k (.ref a)) t :: fs, PySem.W.KatTups.cons ho hc hd (by simp) h1, by simp [h2], fun f hf => ?_⟩
    rcases List.mem_cons.mp hf with rfl | hf
    · exact ⟨_, _, rfl⟩
    · exact h3 f hf
theorem key_sortable {a : Addr} {vs : List Value} {k : Value → Int} (h0 : 0 < vs.length) (hp : ∀ v ∈ vs, IsKT s.heap v (k v)) (hi : ∀ v ∈ vs, ∀ u ∈ vs, k v = k u → v = u) (ha : ∀ o, s.heap.get? a = some o → o.cls ≠ .type "tuple") : SortableO prog w A s a vs fun v u => decide (k v < k u) := by
  intro h' keep
  have hp' : ∀ v ∈ vs, IsKT h' v (k v) := fun v hm => (hp v hm).keeps fun b o e c => keep b o (fun z => by subst z; exact ha o e c) e
  obtain ⟨fs, h1, h2, h3⟩ := key_firsts hp'
  refine ⟨tuples' true, fun Q E hq => ?_, key_cmp (s := { s with heap := h' }) hp' hi⟩
  refine PySem.W.kat_kind (T := .type "int") h1 (by omega) (fun f hm => ?_) (by rfl) ?_
  · obtain ⟨x, t, rfl⟩ := h3 f hm
    exact PySem.W.Looks.now
  · have e : (Value.type "int" != Value.type "tuple") = true := by first | decide +kernel | rfl | decide
    rw [e]
    exact hq
theorem swo_key {α : Type} (k : α → Int) : Swo fun v u => decide (k v < k u) := by
  refine ⟨fun x y h => ?_, fun x y z h1 h2 => ?_⟩
  · have := of_decide_eq_true h
    exact decide_eq_false (by omega)
  · have a := of_decide_eq_false h1
    have b := of_decide_eq_false h2
    exact decide_eq_false (by omega)
end
/-- sorted(xs): tuples that begin with ints, no two the same -/
def rSortK (K : PySem.W.Frag) : List V → Hp → VK → Prop := fun vs H Q => ∃ (a : Addr) (xs : List V) (ks : List Int), vs = [V.ref a] ∧ SqL K H a xs ∧ Paired (fun x k => ∃ t us, x = V.ref t ∧ SqT K H t (.int k :: us)) xs ks ∧ ks.Nodup ∧
  ∀ (zs : List (V × Int)) p, zs.Perm (xs.zip ks) → (zs.map (·.2)).Pairwise (· < ·) → H p = none → Q (.ref p) (upd H p (.lst (zs.map (·.1))))
section
variable {X : Cx} {pins : List (Addr × Obj)} {σ : L2.St} {H : Hp} {s : Shared}
theorem kts_of (I : Inv X pins σ H s) : ∀ {xs : List V} {ks : List Int} {us : List Value}, Paired (fun x k => ∃ t us, x = V.ref t ∧ SqT X.K H t (.int k :: us)) xs ks → Vals xs us → Paired (fun u k => IsKT s.heap u k) us ks ∧ (∀ u ∈ us, ∃ t, u = Value.ref t) ∧ xs = us.map backV
  | [], [], _, .nil, r => by cases r; exact ⟨.nil, (fun _ h => by cases h), rfl⟩
  | x :: xs, k :: ks, _, .cons h t, r => by
    cases r with
    | cons r1 r2 =>
      obtain ⟨q1, q2, q3⟩ := kts_of I t r2
      obtain ⟨p, us, rfl, hq⟩ := h
      cases r1
      obtain ⟨its, rv, ⟨o, ho, hc, n, hd⟩, _⟩ := I.tuple hq
      cases rv with
      | cons ra rb =>
        obtain ⟨tk, rfl⟩ := ra
        refine ⟨.cons ⟨p, o, tk, _, n, rfl, ho, hc, hd⟩ q1, fun u hu => ?_, by rw [q3]; rfl⟩
        rcases List.mem_cons.mp hu with rfl | hu
        · exact ⟨p, rfl⟩
        · exact q2 u hu
theorem zip_two {α β γ : Type} (f : α → β) (g : α → γ) : ∀ us : List α, us.map (fun u => (f u, g u)) = (us.map f).zip (us.map g)
  | [] => rfl
  | u :: us => by rw [List.map_cons, List.map_cons, List.map_cons, List.zip_cons_cons, zip_two f g us]
theorem nodup_inj {α : Type} {k : α → Int} : ∀ {us : List α}, (us.map k).Nodup → ∀ v ∈ us, ∀ u ∈ us, k v = k u → v = u
  | [], _, _, h, _, _, _ => by cases h
  | x :: us, nd, v, hv, u, hu, e => by
    rw [List.map_cons, List.nodup_cons] at nd
    rcases List.mem_cons.mp hv with ev | hv
    · rcases List.mem_cons.mp hu with eu | hu
      · rw [ev, eu]
      · rw [ev] at e
        exact absurd (List.mem_map.mpr ⟨u, hu, e.symm⟩) nd.1
    · rcases List.mem_cons.mp hu with eu | hu
      · rw [eu] at e
        exact absurd (List.mem_map.mpr ⟨v, hv, e⟩) nd.1
      · exact nodup_inj nd.2 v hv u hu e
theorem cr_sortK : CallR X (.builtin "sorted") (rSortK X.K) := by
  intro pins s σ H vs us Q I r h
  obtain ⟨a, xs, ks, rfl, hs, hx, nd, q⟩ := h
  obtain ⟨its, rv, hl, hz⟩ := I.list hs
  obtain ⟨u, rfl, ru⟩ := vals1 r
  obtain rfl : u = Value.ref a := ru
  obtain ⟨h1, h2, h3⟩ := kts_of I hx rv
  have _dec : ∀ v, Decidable (∃ j, IsKT s.heap v j) := fun v => Classical.propDecidable _
  let k : Value → Int := fun v => if h : ∃ j, IsKT s.heap v j then Classical.choose h else 0
  have hk : ∀ v j, IsKT s.heap v j → k v = j := fun v j p => by
    have h : ∃ j, IsKT s.heap v j := ⟨j, p⟩
    show (if h : ∃ j, IsKT s.heap v j then Classical.choose h else 0) = j
    rw [dif_pos h]
    exact (Classical.choose_spec h).inj p
  have hm : its.map k = ks := by
    clear q hx rv hs hl hz h2 h3 nd
    induction h1 with
    | nil => rfl
    | cons p _ ih => rw [List.map_cons, ih, hk _ _ p]
  have hv : ∀ v ∈ its, IsKT s.heap v (k v) := by
    clear q hx rv hs hl hz h2 h3 nd hm
    induction h1 with
    | nil => intro v h; cases h
    | cons p _ ih =>
      intro v h
      rcases List.mem_cons.mp h with rfl | h
      · rw [hk _ _ p]; exact p
      · exact ih v h
  have inj := nodup_inj (k := k) (us := its) (by rw [hm]; exact nd)
  refine SrtO.sorted_ord (swo_key k) hl.isList (by rw [← rv.length]; exact hz) (fun h2 h₁ a ha kk => ?_) fun out s1 s2 => ?_
  · refine key_sortable (s := { s with heap := h₁ }) (by omega) (fun v hm => (hv v hm).keeps fun b o e _ => (kk b o e).2) inj fun o e => ?_
    have e' : some o = some (seqObj "list" its.toArray 0) := e.symm.trans ha
    cases e'
    intro c
    exact absurd (Value.type.inj c) (by decide)
  · have ho : ∀ u ∈ out, ∃ a, u = Value.ref a := fun u hu => h2 u (s2.perm.mem_iff.mp hu)
    obtain ⟨n, hn⟩ := sortedAll_at s.heap its out.toArray
    have hlen : (out.map backV).length ≤ sizeLine := by
      rw [List.length_map, s2.perm.length_eq, ← rv.length]
      exact hz
    have e1 : (out.map fun u => (backV u, k u)).map (·.1) = out.map backV := by rw [List.map_map]; rfl
    refine ⟨.ref (s.heap.objs.size + 1), upd H (s.heap.objs.size + 1) (.lst (out.map backV)), I.laid (t' := s.toks) (fun b o e => sortedAll_old e) (Nat.le_succ _) ⟨hlen, out, n, vals_back ho, hn⟩, rfl, ?_⟩
    rw [← e1]
    refine q (out.map fun u => (backV u, k u)) _ ?_ ?_ (I.hok.fresh (Nat.le_succ _))
    · have p := s2.perm.map fun u => (backV u, k u)
      have e2 : (its.map fun u => (backV u, k u)) = xs.zip ks := by
        rw [h3, ← hm, zip_two]
      rw [e2] at p
      exact p
    · rw [List.map_map]
      have ndo : (out.map k).Nodup := by
        have := s2.perm.map k
        rw [hm] at this
        exact this.nodup_iff.mpr nd
      show (out.map k).Pairwise (· < ·)
      have s1' : (out.map k).Pairwise (fun x y => x ≤ y) := by
        rw [List.pairwise_map]
        refine List.Pairwise.imp ?_ s1
        intro x y h
        have := of_decide_eq_false h
        omega
      have : (out.map k).Pairwise (fun x y => x ≤ y ∧ x ≠ y) := List.Pairwise.and s1' ndo
      exact this.imp fun h => by omega
end
end Sk

/-! Ext: xs.extend(ys), ys any list that is read. -/
namespace Ext
open PySem PySem.Spec PyProof.Rows L2
open AutoSeq1 (wpAny_loadPart' idx_int)
theorem meets_ext (p q : Addr) (us ws : Array Value) (n m : Nat) (sl : Array (Option Value)) (long : ¬(!us.isEmpty && Builtin.List.listTooLong (us.size + ws.size)) = true) (z1 : us.size ≤ sizeLine) (z2 : us.size + ws.size ≤ sizeLine + 1) :
    Meets (Builtin.«list.extend» ⟨[.ref p, .ref q], []⟩) (fun _ R z => z.heap.get? p = some { cls := .type "list", dict := none, data := .seq us n, slots := #[] } ∧ z.heap.get? q = some { cls := .type "list", dict := none, data := .seq ws m, slots := sl } ∧
      R (.ok (.ret Value.none)) { z with heap := z.heap.update p (Obj.mapSeq fun x => x ++ ws), toks := z.toks }) := by
  refine .of_wp fun prog w A R z hz => ?_
  obtain ⟨hp, gs, dr, tk, os⟩ := z
  obtain ⟨h1, h2, hr⟩ := hz
  have f1 := idx_int
  have f2 := AutoSeq1.sub_tuple_tuple
  have f3 := AutoSeq1.sub_list_list
  have f4 := AutoSeq1.sub_tuple_list
  have f5 := AutoSeq1.sub_list_tuple
  have z3 : (us ++ ws).size ≤ sizeLine + 1 := by
    rw [Array.size_append]
    exact z2
  wp_walk using (wpAny_updateSeq h1 rfl (hz := z1) (_hz' := z3)), wpAny_loadPart' h1, wpAny_loadPart' h2
  exact ⟨_, rfl, hr⟩
def rExtA (K : PySem.W.Frag) : V → List V → Hp → VK → Prop := fun x vs H Q => ∃ p q xs zs, x = .ref p ∧ vs = [.ref q] ∧ H p = some (.lst xs) ∧ SqL K H q zs ∧ xs.length + zs.length ≤ sizeLine ∧ Q .non (upd H p (.lst (xs ++ zs)))
theorem mt_extA {X : Cx} : MtR X "list.extend" (rExtA X.K) := by
  intro pins s σ H x vs v us Q I rx rv h
  obtain ⟨p, q, xs, zs, rfl, rfl, hp, hq, hz, k⟩ := h
  cases rx
  obtain ⟨u, rfl, ru⟩ := rv.one
  cases ru
  obtain ⟨z, its, n, r, hl, e⟩ := I.lstM hp
  obtain ⟨ws, r2, ⟨⟨oc, od, dt, sl⟩, m, e2, c2, d2, t2⟩, hl2⟩ := I.list hq
  simp only at c2 d2 t2
  subst c2 d2 t2
  have l2 := r2.length
  have hsz : its.toArray.size + ws.toArray.size ≤ sizeLine := by rw [List.size_toArray, List.size_toArray]; omega
  refine call_meets F.slot_list_extend ⟨_, e, rfl⟩ F.entry_list_extend (F.args_list_extend_2 _ _) (meets_ext p q its.toArray ws.toArray n m sl (by rw [notLongL hsz, Bool.and_false]; exact Bool.false_ne_true) (by rw [List.size_toArray]; omega) (by omega)) ⟨e, e2, ?_⟩
  refine ⟨.non, _, I.lset (its' := its ++ ws) hp e (by simp) (r.append r2) ?_, rfl, k⟩
  rw [List.length_append]
  omega
theorem meets_cat (p q : Addr) (us ws : Array Value) (n m : Nat) (sl sr : Array (Option Value)) (z1 : us.size + ws.size ≤ sizeLine) :
    Meets (Builtin.«list.__add__» ⟨[.ref p, .ref q], []⟩) (fun _ R z => z.heap.get? p = some { cls := .type "list", dict := none, data := .seq us n, slots := sl } ∧ z.heap.get? q = some { cls := .type "list", dict := none, data := .seq ws m, slots := sr } ∧
      R (.ok (.ret (Value.ref z.heap.objs.size))) { z with heap := z.heap.push { cls := Value.type "list", data := Data.seq (us ++ ws) }, toks := z.toks }) := by
  refine .of_wp fun prog w A R z hz => ?_
  obtain ⟨hp, gs, dr, tk, os⟩ := z
  obtain ⟨h1, h2, hr⟩ := hz
  have f1 := idx_int
  have f2 := AutoSeq1.sub_tuple_tuple
  have f3 := AutoSeq1.sub_list_list
  have f4 := AutoSeq1.sub_tuple_list
  have f5 := AutoSeq1.sub_list_tuple
  wp_walk using wpAny_loadPart' h1, wpAny_loadPart' h2
  exact ⟨_, rfl, hr⟩
/-- xs + ys, any lists that are read: a new list -/
def rCatL (K : PySem.W.Frag) : R2 := fun x y H Q => ∃ p q xs ys, x = .ref p ∧ y = .ref q ∧ SqL K H p xs ∧ SqL K H q ys ∧ xs.length + ys.length ≤ sizeLine ∧ ∀ l, H l = none → Q (.ref l) (upd H l (.lst (xs ++ ys)))
theorem op_catL {X : Cx} : OpR X (binaryOp .Add) (rCatL X.K) := by
  intro pins s σ H x y v u Q I rx ry h
  obtain ⟨p, q, xs, ys, rfl, rfl, hp, hq, hz, k⟩ := h
  cases rx
  cases ry
  obtain ⟨us, r1, ⟨⟨oc, od, dt, sl⟩, n, e1, c1, d1, t1⟩, l1⟩ := I.list hp
  obtain ⟨ws, r2, ⟨⟨oc2, od2, dt2, sr⟩, m, e2, c2, d2, t2⟩, l2⟩ := I.list hq
  simp only at c1 d1 t1 c2 d2 t2
  subst c1 d1 t1 c2 d2 t2
  have n1 := r1.length
  have n2 := r2.length
  refine concat_meets ⟨_, e1, rfl⟩ ⟨_, e2, rfl⟩ noFill_list_add seq_list_add F.slot_list_add F.entry_list_add (F.args_list_add_2 _ _) (meets_cat p q us.toArray ws.toArray n m sl sr (by rw [List.size_toArray, List.size_toArray]; omega)) ⟨e1, e2, ?_⟩
  have ea : us.toArray ++ ws.toArray = (us ++ ws).toArray := by simp
  rw [ea]
  exact ⟨.ref _, _, I.lnew (t' := s.toks) (r1.append r2) (by rw [List.length_append]; omega), rfl, k _ I.fresh⟩
end Ext

/-! Ab15: sorted by a first int; isinstance; dicts keyed by ints; extend. -/
namespace Ab
open PySem PySem.Spec PyProof.Rows L2
section
variable {X : Cx}
theorem kx_pgt (K : PySem.W.Frag) (h : X.K = K) (n : Nat) {es : List Expr} {k : Nat} {t : TGs} {pos : Pos} (hc : X.calm = true) (ht : PGs X es t) (hn : (assignEach es X.env).length = n := by rfl) (hst : (assignEach es X.env).findIdx? (·.1) = none := by rfl) : PG X (.Tuple es k pos) (gTup K n t) := h ▸ pg_tup hc ht hn hst
theorem kx_sortK (K : PySem.W.Frag) (h : X.K = K) : CallR X (.builtin "sorted") (Sk.rSortK K) := h ▸ Sk.cr_sortK
theorem kx_ext (K : PySem.W.Frag) (h : X.K = K) : MtR X "list.extend" (Ext.rExtA K) := h ▸ Ext.mt_extA
theorem kx_catL (K : PySem.W.Frag) (h : X.K = K) : OpR X (binaryOp .Add) (Ext.rCatL K) := h ▸ Ext.op_catL
theorem kx_isi (K : PySem.W.Frag) (h : X.K = K) : CallR X (.builtin "isinstance") (rIsi K) := h ▸ call_isi
end
section
variable {X : Cx}
/-- name = {..}, its keys ints or texts -/
theorem ps_setDc {kx vx tg iter : Expr} {ifs : List Expr} {scope : Scope} {own : List (Str × Nat)} {pos : Pos} {wi : TI} {g : TG} {tt : TT} {tk tv : TE} {i : Nat} {y : Str} {py spos : Pos} (hc : X.calm = true) (hN : X.N.Nodup) (hy : X.N[i]? = some y) (hyl : X.env.scope.names.lookup y = some .local)
    (hsw : swapsWith (.DictComp kx vx [⟨tg, iter, ifs, 0⟩] scope pos) (some (.Name y py)) spos.line X.env = pure true) (hi : PI X tg iter wi) (ok : BlkOk X.N X.env.scope scope own) (hg : Tb.Blk X scope fun B => PG B tg g) (ht : Tb.Blk X scope fun B => PTs B ifs tt)
    (hk : Tb.Blk X scope fun B => PE B kx tk) (hv : Tb.Blk X scope fun B => PE B vx tv) (hs : ∀ x, foldedSetIterable iter X.env x = pure x := by intro _; rfl) :
    PS X (.Assign [.Name y py] (.DictComp kx vx [⟨tg, iter, ifs, 0⟩] scope pos) spos) (tAsg (tDc wi g tt tk tv (own.map (·.2))) (gName i)) := by
  refine ⟨fun pins s σ H D J h => ?_⟩
  rw [exec_Assign_Name_used _ _ _ _ hsw]
  refine wpAny_bind (wpAny_standAt (wpAny_bind ?_))
  show wpAny _ X.A (do let _ ← comprehension (.DictComp kx vx [⟨tg, iter, ifs, 0⟩] scope pos) scope X.env (firstIterPos [⟨tg, iter, ifs, 0⟩] pos) newDict false (eval iter X.env) (some (assign (.Name y py) X.env))) _ _ s
  have h : tDc wi g tt tk tv (own.map (·.2)) σ H (fun x H1 => gName i x σ H1 D.nx) := h
  refine wpAny_bind (thn (dc_core (Qf := fun _ s' => SP X pins D .next s') hc hN J hi ok hg ht hk hv hs h fun L N s' m H' J' q hn f => ?_) fun _ s' z => wpAny_pure (wpAny_pure z))
  show wpAny _ _ (assign (.Name y py) X.env (.ref L)) _ _ _
  refine wpAny_assign_Name (store_ok2 (v := V.ref L) J' hN hy (.inl hyl) rfl (fun s2 J2 ⟨a, sb, ha⟩ => ?_) (.inr hyl))
  obtain ⟨z0, z1, z2, z3, z4, z5⟩ := f
  have na : N ≠ a := by
    rcases ha with z | z
    · rw [z]; exact z1
    · exact fun e => z4 y a z e.symm
  exact ⟨m, hn.sameBut sb na, fun h3 sb3 => ⟨_, H', J2.turned (t' := s2.toks) (fun b o hb e => (sb3.2 b hb).trans e) z0 z1 z3 z4 z5, q⟩⟩
end
variable {K : Kw} {An : Anc} {Γ Γ' : Gm} {C : Cs} {ta tb tc te to ti td tv tk : TE} {x y z : Ax} {t u rest : TS} {c : TT} {E : En} {g : TG}
theorem perm_pair {α β : Type} {R : β → α → Prop} {l' l : List α} (p : l'.Perm l) : ∀ {us : List β}, Paired R us l → ∃ us', Paired R us' l' ∧ (us'.zip l').Perm (us.zip l) := by
  induction p with
  | nil => intro us h; exact ⟨us, h, List.Perm.refl _⟩
  | cons a _ ih =>
    intro us h
    cases h with
    | cons h t =>
      obtain ⟨us', q1, q2⟩ := ih t
      exact ⟨_ :: us', .cons h q1, q2.cons _⟩
  | swap a b l =>
    intro us h
    cases h with
    | cons h1 t =>
      cases t with
      | cons h2 t => exact ⟨_ :: _ :: _, .cons h2 (.cons h1 t), List.Perm.swap _ _ _⟩
  | trans _ _ ih1 ih2 =>
    intro us h
    obtain ⟨u1, q1, q2⟩ := ih2 h
    obtain ⟨u2, q3, q4⟩ := ih1 q1
    exact ⟨u2, q3, q4.trans q2⟩
theorem asc_uniq {α : Type} {k : α → Int} : ∀ {zs ws : List α}, zs.Perm ws → (zs.map k).Pairwise (· < ·) → (ws.map k).Pairwise (· < ·) → zs = ws
  | [], ws, p, _, _ => (List.Perm.eq_nil p.symm).symm
  | z :: zs, [], p, _, _ => absurd p.length_eq (by simp)
  | z :: zs, w :: ws, p, h1, h2 => by
    rw [List.map_cons, List.pairwise_cons] at h1 h2
    have e : z = w := by
      rcases List.mem_cons.mp (p.mem_iff.mp (List.mem_cons_self (a := z) (l := zs))) with e | m1
      · exact e
      · rcases List.mem_cons.mp (p.mem_iff.mpr (List.mem_cons_self (a := w) (l := ws))) with e | m2
        · exact e.symm
        · have a := h1.1 _ (List.mem_map_of_mem m2)
          have b := h2.1 _ (List.mem_map_of_mem m1)
          omega
    subst e
    rw [asc_uniq (List.Perm.cons_inv p) h1.2 h2.2]
theorem dpa_pair {α : Type} {D : α → PyData} {H : Hp} : ∀ {us : List V} {l : List α}, DpAll K H us (l.map D) → Paired (fun v a => Dp K H v (D a)) us l
  | _, [], h => by cases h; exact .nil
  | _, a :: l, h => by
    cases h with
    | cons h t => exact .cons h (dpa_pair t)
theorem pair_dpa {α : Type} {D : α → PyData} {H : Hp} : ∀ {us : List V} {l : List α}, Paired (fun v a => Dp K H v (D a)) us l → DpAll K H us (l.map D)
  | _, [], .nil => .nil
  | _, a :: l, .cons h t => .cons h (pair_dpa t)
theorem pair_mem {α β : Type} {R S : β → α → Prop} : ∀ {us : List β} {l : List α}, Paired R us l → (∀ b a, a ∈ l → R b a → S b a) → Paired S us l
  | _, _, .nil, _ => .nil
  | _, _, .cons h t, f => .cons (f _ _ (by simp) h) (pair_mem t fun b a m => f b a (by simp [m]))
theorem zip_pair {α β : Type} (k : α → Int) : ∀ {us : List β} {l : List α}, (us.zip l).map (fun p => (p.1, k p.2)) = us.zip (l.map k)
  | [], _ => by simp
  | _ :: _, [] => rfl
  | u :: us, a :: l => by rw [List.zip_cons_cons, List.map_cons, zip_pair k, List.map_cons, List.zip_cons_cons]
theorem zip_fst {α β : Type} {R : β → α → Prop} : ∀ {us : List β} {l : List α}, Paired R us l → (us.zip l).map (·.1) = us
  | _, _, .nil => rfl
  | _, _, .cons _ t => by rw [List.zip_cons_cons, List.map_cons, zip_fst t]
theorem zip_snd {α β : Type} {R : β → α → Prop} : ∀ {us : List β} {l : List α}, Paired R us l → (us.zip l).map (·.2) = l
  | _, _, .nil => rfl
  | _, _, .cons _ t => by rw [List.zip_cons_cons, List.map_cons, zip_snd t]
theorem pl_sortF {α : Type} {D : α → PyData} {l : List α} {tr : TA} (key : α → Int) (l' : List α) (h : PuA K tr Γ C [Ls (l.map D)]) (hD : ∀ a ∈ l, ∃ ds, D a = .tuple (.int (key a) :: ds)) (nd : (l.map key).Nodup) (hp : l'.Perm l) (hs : (l'.map key).Pairwise (· < ·)) :
    PuL K (tCB (Sk.rSortK K) tr) Γ C ((l'.map D).map .dat) := fun σ H s Q q =>
  h σ H s _ fun vs H1 a1 r1 => by
    cases r1 with
    | cons r1 rt =>
      cases rt
      cases r1 with
      | lst hq hd =>
        rename_i ad us
        have pr := dpa_pair hd
        refine ⟨ad, us, l.map key, rfl, SqL.up hid_le hq, ?_, nd, fun zs p hz hzs hpn => ?_⟩
        · have : ∀ {us : List V} {m : List α}, (∀ a ∈ m, a ∈ l) → Paired (fun v a => Dp K (hid C H1) v (D a)) us m → Paired (fun x k => ∃ t vs, x = V.ref t ∧ SqT K H1 t (.int k :: vs)) us (m.map key) := by
            intro us m hm pr
            induction pr with
            | nil => exact .nil
            | @cons v a us m h t ih =>
              refine .cons ?_ (ih fun b hb => hm b (by simp [hb]))
              obtain ⟨ds, e⟩ := hD a (hm a (by simp))
              rw [e] at h
              cases h with
              | tup hq hd =>
                cases hd with
                | cons h1 h2 =>
                  cases h1
                  exact ⟨_, _, rfl, SqT.up hid_le hq⟩
          exact this (fun a h => h) pr
        · obtain ⟨us', q1, q2⟩ := perm_pair hp pr
          have e1 : zs = (us'.zip l').map fun p => (p.1, key p.2) := by
            refine asc_uniq (k := fun p : V × Int => p.2) ?_ hzs ?_
            · refine hz.trans ?_
              rw [← zip_pair key]
              exact (q2.map _).symm
            · rw [List.map_map]
              show ((us'.zip l').map (key ∘ fun p => p.2)).Pairwise (· < ·)
              rw [← List.map_map, zip_snd q1]
              exact hs
          have e2 : zs.map (·.1) = us' := by
            rw [e1, List.map_map]
            exact zip_fst q1
          rw [e2]
          exact q p us' H1 a1 hpn (rxa_dat (pair_dpa q1))
/-! ### isinstance -/
def tyD : PyData → String
  | .none => "NoneType"
  | .bool _ => "bool"
  | .int _ => "int"
  | .str _ => "str"
  | .list _ => "list"
  | .tuple _ => "tuple"
  | .dict _ => "dict"
theorem dp_ty {H : Hp} {v : V} {d : PyData} (h : Dp K H v d) : TyX K H v (.type (tyD d)) := by
  cases d with
  | none => cases h; exact .base .non
  | bool b => cases h; exact .base (.bl b)
  | int i => cases h; exact .base (.int i)
  | str s => cases h; exact .base (.str s)
  | list ds =>
    cases h with
    | lst hs _ =>
      rcases hs with (h | ⟨o, h⟩) | ⟨o, _, _, h, c, _⟩
      · exact .base (.lst h)
      · exact .base (.frz h)
      · exact .kList h c
  | tuple ds =>
    cases h with
    | tup hs _ =>
      rcases hs with (h | ⟨o, h⟩) | ⟨o, _, _, h, c, _⟩
      · exact .base (.tup h)
      · exact .fTuple h
      · exact .kTuple h c
  | dict ds => cases h
theorem pu_isi {d : PyData} {n : String} {b : Bool} (h : Pu K te Γ C (.dat d)) (hb : kitB (tyD d) n = some b) : Pu K (tCB (rIsi K) (tCons te (tCons (tC (.ty n)) tNil))) Γ C (B b) := fun σ H s Q q =>
  h σ H s _ fun v H1 a r => ⟨v, .ty n, _, _, b, rfl, .ty n, dp_ty (rx_dp r), kit_ty hb, q _ H1 a rx_B⟩
/-! ### dicts keyed by ints or texts -/
abbrev DRow := Key × PyData
def getKD (kvs : List DRow) (k : Key) : Option PyData := (kvs.find? fun kv => decide (kv.1 = k)).map (·.2)
def DR (K : Kw) (H : Hp) (x : Key × V) (q : DRow) : Prop := x.1 = q.1 ∧ Dp K H x.2 q.2
theorem dr_get {H : Hp} {k : Key} : ∀ {ws : List (Key × V)} {kvs : List DRow}, Paired (DR K H) ws kvs → (valV ws k = none ∧ getKD kvs k = none) ∨ ∃ v d, valV ws k = some v ∧ getKD kvs k = some d ∧ Dp K H v d
  | _, _, .nil => .inl ⟨rfl, rfl⟩
  | _, _, .cons (a := p) (b := q) h t => by
    by_cases hk : q.1 = k
    · have e0 : ∀ l, getKD (q :: l) k = some q.2 := fun l => by simp [getKD, List.find?_cons, hk]
      exact .inr ⟨p.2, q.2, valV_pos (h.1.trans hk), e0 _, h.2⟩
    · have e2 : ∀ l, getKD (q :: l) k = getKD l k := fun l => by simp [getKD, List.find?_cons, hk]
      rw [e2, valV_neg (fun z => hk (h.1.symm.trans z))]
      exact dr_get t
theorem dr_none {H : Hp} {k : Key} : ∀ {ws : List (Key × V)} {kvs : List DRow}, Paired (DR K H) ws kvs → k ∉ kvs.map (·.1) → valV ws k = none
  | _, _, .nil, _ => rfl
  | _, _, .cons h t, n => by
    rw [List.map_cons, List.mem_cons, not_or] at n
    rw [valV_neg (fun z => n.1 (z.symm.trans h.1))]
    exact dr_none t n.2
theorem dr_rxk {H : Hp} : ∀ {ws : List (Key × V)} {kvs : List DRow}, RxK K C H ws (kvs.map fun q => (q.1, .dat q.2)) → Paired (DR K (hid C H)) ws kvs
  | _, [], h => by cases h; exact .nil
  | _, q :: kvs, h => by
    cases h with
    | cons h t => exact .cons h (dr_rxk t)
theorem rxk_dr {H : Hp} : ∀ {ws : List (Key × V)} {kvs : List DRow}, Paired (DR K (hid C H)) ws kvs → RxK K C H ws (kvs.map fun q => (q.1, .dat q.2))
  | _, _, .nil => .nil
  | _, _, .cons h t => .cons h (rxk_dr t)
/-- {k(a): v(a) for a in l}, no key twice -/
theorem pu_dcF {α : Type} {D : α → PyData} {l : List α} {wi : TI} {own : List Nat} (f : α → DRow) (nd : ((l.map f).map (·.1)).Nodup) (hi : PuI K F0 wi Γ C ((l.map D).map .dat)) (hn : l.length < 100000)
    (hs : ∀ (i : Nat) (a : α) (C' : Cs), Mor C C' → l[i]? = some a → ∃ Γ2 vs, (∀ j, j ∈ vs → j ∈ own) ∧ Tg K g (.dat (D a)) (wipeG Γ own) Γ2 vs ∧ Pu K tk Γ2 C' (.dat (kD (f a).1)) ∧ Pu K tv Γ2 C' (.dat (f a).2)) :
    Pu K (tDc wi g tYes tk tv own) Γ C (.imm (.dct (l.map f))) := fun σ H s Q q =>
  hi σ H s _ fun J H1 a W D' hD => by
    have cD := a.cells.free hD
    have hl : ((l.map D).map Ax.dat).length = l.length := by rw [List.length_map, List.length_map]
    have aN : Adv K C H1 (updC C D' (.dic [])) (upd H1 D' (.dK [])) := Adv.setD a.cells (.inr hD) .nil
    refine ⟨fun i m H' => m = l.length - i ∧ i ≤ l.length ∧ Adv K C H1 (updC C D' (.dic (((l.map f).take i).map fun q => (q.1, .dat q.2)))) H', ⟨l.length, by simp, Nat.zero_le _, aN⟩, ?_⟩
    rintro i m H' ⟨rfl, hil, a1⟩
    have mor : Mor C (updC C D' (.dic (((l.map f).take i).map fun q => (q.1, .dat q.2)))) := Mor.upd cD
    by_cases hlt : i < l.length
    · refine .inr ⟨W.go i _ H' a1 trivial (by rw [hl]; exact hlt), fun H2 => Adv K C H1 (updC C D' (.dic (((l.map f).take (i + 1)).map fun q => (q.1, .dat q.2)))) H2, fun H2 h => ⟨l.length - (i + 1), by omega, rfl, hlt, h⟩, fun v H2 hyl => ?_⟩
      have hx : ((l.map D).map Ax.dat)[i]? = some (.dat (D l[i])) := by
        rw [List.getElem?_map, List.getElem?_map, List.getElem?_eq_getElem hlt]
        rfl
      obtain ⟨a2, r2⟩ := W.yld i _ _ H' v H2 hx a1 trivial hyl
      obtain ⟨Γ2, vs, hv, ht, hk, hval⟩ := hs i _ _ mor (List.getElem?_eq_getElem hlt)
      have sw := (((a.trans a1).trans a2).sta s).wipe own
      refine ht _ _ H2 v sw r2 _ fun σ2 s2 ch => ⟨wipe_chg (ch.mono hv), ?_⟩
      show tYes σ2 H2 _
      refine ut_yes (K := K) σ2 H2 s2 _ fun H3 a3 => ?_
      show tk σ2 H3 _
      refine hk σ2 H3 (a3.sta s2) _ fun w H4 a4 r4 => hval σ2 H4 ((a3.trans a4).sta s2) _ fun z H5 a5 r5 => ?_
      have ek := kD_v r4
      subst ek
      obtain ⟨ws, e5, r6⟩ := a5.cells D' _ updC_same
      have r7 := dr_rxk r6
      have len := r7.length
      have tk1 : (l.map f).take (i + 1) = (l.map f).take i ++ [f l[i]] := by
        rw [List.take_add_one, List.getElem?_map, List.getElem?_eq_getElem hlt]
        rfl
      have fresh : (f l[i]).1 ∉ ((l.map f).take i).map (·.1) := fun hm => by
        have h1 : ((l.map f).map (·.1)).take (i + 1) = ((l.map f).take i).map (·.1) ++ [(f l[i]).1] := by
          rw [← List.map_take, tk1, List.map_append]
          rfl
        have h2 : (((l.map f).take i).map (·.1) ++ [(f l[i]).1]).Nodup := by
          rw [← h1]
          exact nd.sublist (List.take_sublist _ _)
        rw [List.nodup_append] at h2
        exact h2.2.2 _ hm _ (by simp) rfl
      have lt : ws.length < 100000 := by
        rw [len, List.length_take]
        omega
      refine ⟨ws, _, rfl, e5, szl lt, ?_⟩
      rw [putK_new _ (dr_none r7 fresh)]
      have r8 : RxK K (updC C D' (.dic (((l.map f).take i).map fun q => (q.1, .dat q.2)))) H5 (ws ++ [((f l[i]).1, z)]) (((l.map f).take (i + 1)).map fun q => (q.1, .dat q.2)) := by
        rw [tk1, List.map_append]
        exact Paired.snoc r6 ⟨rfl, r5⟩
      have b := Adv.setD (p := D') a5.cells (.inl (by rw [updC_same]; rfl)) r8
      rw [updC_updC] at b
      exact (((a1.trans a2).trans a3).trans (a4.trans a5)).trans b
    · have e : i = l.length := by omega
      subst e
      rw [show (l.map f).take l.length = l.map f from List.take_of_length_le (by rw [List.length_map]; exact Nat.le_refl _)] at a1 mor
      have sb : Sbs C (updC C D' (.dic ((l.map f).map fun q => (q.1, .dat q.2)))) := mor_sbs mor
      have cc : Cells K C H' := cells_sbs sb a.cells.clo a1.cells
      have st := W.stop _ H' a1 trivial
      rw [hl] at st
      refine .inl ⟨st, q _ H' (a.trans ⟨fun b o h => hid_sbs sb b o (a1.ex b o h), fun _ h => h, cc⟩) ?_⟩
      obtain ⟨ws, e5, r6⟩ := a1.cells D' _ updC_same
      have r7 := dr_rxk r6
      exact ⟨D', ws, rfl, hid_of e5 cD, Paired.mp r7 fun _ _ h => ⟨h.1, Dp.up (hid_sbs sb) _ h.2⟩⟩
/-- d.get(k) -/
theorem pu_get1 {kvs : List DRow} {k : Key} (h : Pu K ta Γ C (.imm (.dct kvs))) (hk : Pu K tb Γ C (.dat (kD k))) : Pu K (tDGet1 ta tb) Γ C (.dat ((getKD kvs k).getD .none)) := fun σ H s Q q =>
  h σ H s _ fun v H1 a1 r1 => by
    obtain ⟨a, ws, rfl, h2, h3⟩ := id r1
    refine ⟨a, rfl, .inl ⟨ws, Rd.of (hid_le _ _ h2)⟩, hk σ H1 (a1.sta s) _ fun w H2 a2 r2 => ?_⟩
    have ek := kD_v r2
    subst ek
    have h2' := a2.ex a _ h2
    have r3 : Paired (DR K (hid C H2)) ws kvs := Paired.mp h3 fun _ _ z => ⟨z.1, Dp.up a2.ex _ z.2⟩
    refine ⟨_, DGet.k (hid_le _ _ h2'), ?_⟩
    rcases dr_get (k := k) r3 with ⟨e1, e2⟩ | ⟨v, d, e1, e2, e3⟩
    · rw [e2] at q
      rw [e1]
      exact q _ H2 (a1.trans a2) rx_N
    · rw [e2] at q
      rw [e1]
      exact q _ H2 (a1.trans a2) e3
/-! ### extend, concatenation, of lists that are data -/
theorem sql_of {H : Hp} {v : V} {ds : List PyData} (h : Rx K C H v (Ls ds)) : ∃ p us, v = .ref p ∧ SqL K.K H p us ∧ DpAll K (hid C H) us ds := by
  cases h with
  | lst hs hd => exact ⟨_, _, rfl, SqL.up hid_le hs, hd⟩
theorem ev_ext {a : Addr} {xs : List Ax} {ds : List PyData} (ho : Pu K to Γ C (.ref a)) (h : Pu K te Γ C (Ls ds)) (hc : C a = some (.lst xs)) (hz : xs.length + ds.length ≤ 100000) : Ev K (tBM K "list" (Ext.rExtA K) to (tCons te tNil)) Γ C (fun x C' => x = No ∧ C' = updC C a (.lst (xs ++ ds.map .dat))) := fun σ H s Q q =>
  ho σ H s _ fun v H1 a1 r1 => by
    obtain ⟨rfl, ia⟩ := r1
    obtain ⟨ws, e1, e2⟩ := a1.cells a _ hc
    refine ⟨.inl ⟨rfl, ws, SqL.of e1⟩, h σ H1 (a1.sta s) _ fun w H2 a2 r2 => ?_⟩
    obtain ⟨ws2, e3, e4⟩ := a2.cells a _ hc
    obtain ⟨b, us, rfl, hq, hd⟩ := sql_of r2
    refine ⟨a, b, ws2, us, rfl, rfl, e3, hq, sz (by rw [e4.length, hd.len]; exact hz), ?_⟩
    have bb := Adv.setL (p := a) a2.cells ia (rxa_app e4 (rxa_dat hd))
    exact q _ _ _ _ ((a1.trans a2).trans bb) rx_N ⟨rfl, rfl⟩
/-- the call that makes what is put behind may make cells that are forgotten -/
theorem pl_catD {ds es : List PyData} (ha : Pu K ta Γ C (Ls ds)) (hb : Pu K tb Γ C (Ls es)) (hn : ds.length + es.length ≤ 100000) : PuL K (tOp (Ext.rCatL K) ta tb) Γ C ((ds ++ es).map .dat) := fun σ H s Q k =>
  ha σ H s _ fun v H1 a1 r1 => hb σ H1 (a1.sta s) _ fun w H2 a2 r2 => by
    obtain ⟨p, us, rfl, hp, hd⟩ := sql_of (a2.rx r1)
    obtain ⟨q, ws, rfl, hq, he⟩ := sql_of r2
    refine ⟨p, q, us, ws, rfl, rfl, hp, hq, sz (by rw [hd.len, he.len]; exact hn), fun n hn => k n _ H2 (a1.trans a2) hn ?_⟩
    rw [List.map_append]
    exact rxa_app (rxa_dat hd) (rxa_dat he)
end Ab

/-! Lm: what the laws' own helpers reckon, and what they promise. -/
namespace Lm
open PySem PySem.Spec PyProof.Rows L2 Ab
abbrev Rel := Cs → List Ax → (Ax → Cs → Prop) → Prop
/-! ### the mathematics -/
def cellM (ns : List Int) (k : Int) : Int := ns.getD k.toNat 0
def mixM (c : Int) (k : Int) : Int := ((c * 48271 + k * 69621) % 2147483647 * ((c * 48271 + k * 69621) % 2147483647) + c * 31 + k) % 1000003
def drawSt (c : Int) : Nat → Int × List Int
  | 0 => (c, [])
  | i + 1 => if (10 : Int) ^ (18 : Int).toNat ≤ c then ((drawSt c i).1 / 1009, (drawSt c i).2 ++ [(drawSt c i).1 % 1009]) else ((drawSt c i).1, (drawSt c i).2 ++ [mixM (drawSt c i).1 (0 + (i : Int))])
def drawsM (c n : Int) : List Int := (drawSt c n.toNat).2
theorem drawSt_len (c : Int) : ∀ i, (drawSt c i).2.length = i
  | 0 => rfl
  | i + 1 => by
    unfold drawSt
    split <;> simp [drawSt_len c i]
theorem drawSt_nn (c : Int) : ∀ i, ∀ d ∈ (drawSt c i).2, 0 ≤ d
  | 0 => fun d h => by cases h
  | i + 1 => fun d h => by
    unfold drawSt at h
    split at h
    · rcases List.mem_append.mp h with h | h
      · exact drawSt_nn c i d h
      · rw [List.mem_singleton.mp h]
        exact Int.emod_nonneg _ (by decide)
    · rcases List.mem_append.mp h with h | h
      · exact drawSt_nn c i d h
      · rw [List.mem_singleton.mp h]
        exact Int.emod_nonneg _ (by decide)
theorem drawsM_len {c n : Int} (h : 0 ≤ n) : ((drawsM c n).length : Int) = n := by
  unfold drawsM
  rw [drawSt_len]
  omega
theorem getD_nn {ns : List Int} (h : ∀ d ∈ ns, 0 ≤ d) (i : Nat) : 0 ≤ ns.getD i 0 := by
  rw [List.getD_eq_getElem?_getD]
  cases e : ns[i]? with
  | none => exact Int.le_refl _
  | some d => exact h d (List.mem_of_getElem? e)
/-- (makes, treats) -/
def pfD (f : Bool × Bool) : PyData := .tuple [.bool f.1, .bool f.2]
def flagsB (ns : List Int) (k : Nat) : Bool × Bool := (decide (ns.getD (1 + (0 + (k : Int))).toNat 0 % 2 = 0), decide (ns.getD (7 + (0 + (k : Int))).toNat 0 % 3 = 0))
def partiesB (ns : List Int) : List (Bool × Bool) := (List.range (2 + ns.getD 0 0 % 4).toNat).map (flagsB ns)
theorem partiesB_len (ns : List Int) : ((partiesB ns).length : Int) = 2 + ns.getD 0 0 % 4 := by
  unfold partiesB
  rw [List.length_map, List.length_range]
  omega
inductive Evt where
  | own (w : Str) (n p k a : Int)
  | hand (n g t k a : Int) (s : Bool)
  | pass (g t k a : Int)
  | sec (w : Str) (p k a : Int)
def evD : Evt → PyData
  | .own w n p k a => .tuple [.str w, .int n, .int p, .int k, .int a]
  | .hand n g t k a s => .tuple [.str "handed", .int n, .int g, .int t, .int k, .int a, .bool s]
  | .pass g t k a => .tuple [.str "passed", .int g, .int t, .int k, .int a]
  | .sec w p k a => .tuple [.str w, .int p, .int k, .int a]
/-- its parties are below m, its kind below kd, its word is one of those -/
def EvK (m kd : Nat) : Evt → Prop
  | .own w n p k a => w ∈ (["made", "treated", "found"] : List Str) ∧ 0 ≤ p ∧ p < m ∧ 0 ≤ k ∧ k < kd
  | .hand n g t k a s => 0 ≤ g ∧ g < m ∧ 0 ≤ t ∧ t < m ∧ 0 ≤ k ∧ k < kd
  | .pass g t k a => 0 ≤ g ∧ g < m ∧ 0 ≤ t ∧ t < m ∧ 0 ≤ k ∧ k < kd
  | .sec w p k a => w ∈ (["dumped", "conjured"] : List Str) ∧ 0 ≤ p ∧ p < m ∧ 0 ≤ k ∧ k < kd
theorem at2 {a b : Str} {i : Int} (h0 : 0 ≤ i) (h : i < 2) : atI [PyData.str a, .str b] i = some (.str (if i = 0 then a else b)) := by
  have e : i = 0 ∨ i = 1 := by omega
  rcases e with rfl | rfl <;> rfl
theorem at3 {a b c : Str} {i : Int} (h0 : 0 ≤ i) (h : i < 3) : atI [PyData.str a, .str b, .str c] i = some (.str (if i = 0 then a else if i = 1 then b else c)) := by
  have e : i = 0 ∨ i = 1 ∨ i = 2 := by omega
  rcases e with rfl | rfl | rfl <;> rfl
def numM (i : Int) : Int := if i < 4 then 1 else if i = 4 then 5 else 0
theorem at6 {i : Int} (h0 : 0 ≤ i) (h : i < 6) : atI [PyData.int 1, .int 1, .int 1, .int 1, .int 5, .int 0] i = some (.int (numM i)) := by
  have e : i = 0 ∨ i = 1 ∨ i = 2 ∨ i = 3 ∨ i = 4 ∨ i = 5 := by omega
  rcases e with rfl | rfl | rfl | rfl | rfl | rfl <;> rfl
def w3 (i : Int) : Str := if i = 0 then "made" else if i = 1 then "made" else "treated"
def w2 (i : Int) : Str := if i = 0 then "dumped" else "conjured"
def eventM (ns : List Int) (many kinds number : Int) : Evt :=
  if ns.getD 0 0 % 9 < 3 then .own (w3 (ns.getD 0 0 % 9)) number (ns.getD 1 0 % many) (ns.getD 3 0 % kinds) (1 + ns.getD 4 0 % 6)
  else if ns.getD 0 0 % 9 = 3 then .own "found" number (ns.getD 1 0 % many) (ns.getD 3 0 % kinds) (ns.getD 4 0 % 8)
  else if ns.getD 0 0 % 9 < 6 then .hand number (ns.getD 1 0 % many) (ns.getD 2 0 % many) (ns.getD 3 0 % kinds) (1 + ns.getD 4 0 % 6) (decide (ns.getD 5 0 % 2 = 0))
  else if ns.getD 0 0 % 9 = 6 then .pass (ns.getD 1 0 % many) (ns.getD 2 0 % many) (ns.getD 3 0 % kinds) (1 + ns.getD 4 0 % 6)
  else .sec (w2 (ns.getD 0 0 % 9 - 7)) (ns.getD 1 0 % many) (ns.getD 3 0 % kinds) (1 + ns.getD 4 0 % 6)
theorem eventM_k {ns : List Int} {many kinds : Nat} {number : Int} (h : 0 < many) (hk : 0 < kinds) : EvK many kinds (eventM ns many kinds number) := by
  have hp : ∀ x : Int, 0 ≤ x % (many : Int) ∧ x % (many : Int) < many := fun x => ⟨Int.emod_nonneg _ (by omega), Int.emod_lt_of_pos _ (by omega)⟩
  have hq : ∀ x : Int, 0 ≤ x % (kinds : Int) ∧ x % (kinds : Int) < kinds := fun x => ⟨Int.emod_nonneg _ (by omega), Int.emod_lt_of_pos _ (by omega)⟩
  unfold eventM
  split
  · refine ⟨?_, (hp _).1, (hp _).2, hq _⟩
    unfold w3
    split
    · simp
    · split <;> simp
  · split
    · exact ⟨by simp, (hp _).1, (hp _).2, hq _⟩
    · split
      · exact ⟨(hp _).1, (hp _).2, (hp _).1, (hp _).2, hq _⟩
      · split
        · exact ⟨(hp _).1, (hp _).2, (hp _).1, (hp _).2, hq _⟩
        · refine ⟨?_, (hp _).1, (hp _).2, hq _⟩
          unfold w2
          split <;> simp
def evSt (ns : List Int) (at_ many kinds : Int) : Nat → Int × List Evt
  | 0 => (0, [])
  | i + 1 =>
    let d := drawsM (cellM ns (at_ + 1 + (0 + (i : Int)))) 7
    let n := (evSt ns at_ many kinds i).1 + numM (d.getD 6 0 % 6)
    (n, (evSt ns at_ many kinds i).2 ++ [eventM d many kinds (if n > 1 then n else 1)])
def eventsM (ns : List Int) (at_ most many kinds : Int) : List Evt := (evSt ns at_ many kinds (cellM ns at_ % (most + 1)).toNat).2
theorem evSt_len (ns : List Int) (at_ many kinds : Int) : ∀ i, (evSt ns at_ many kinds i).2.length = i
  | 0 => rfl
  | i + 1 => by simp [evSt, evSt_len ns at_ many kinds i]
theorem evSt_k (ns : List Int) (at_ : Int) {many kinds : Nat} (h : 0 < many) (hk : 0 < kinds) : ∀ i, ∀ e ∈ (evSt ns at_ many kinds i).2, EvK many kinds e
  | 0 => fun e he => by cases he
  | i + 1 => fun e he => by
    simp only [evSt, List.mem_append, List.mem_singleton] at he
    rcases he with he | rfl
    · exact evSt_k ns at_ h hk i e he
    · exact eventM_k h hk
theorem eventsM_len {ns : List Int} {at_ most many kinds : Int} (h : 0 ≤ most) : ((eventsM ns at_ most many kinds).length : Int) ≤ most := by
  unfold eventsM
  rw [evSt_len]
  have c0 : 0 ≤ cellM ns at_ % (most + 1) := Int.emod_nonneg _ (by omega)
  have c1 : cellM ns at_ % (most + 1) < most + 1 := Int.emod_lt_of_pos _ (by omega)
  omega
theorem str_ok {w : Str} {l : List Str} (h : w ∈ l) (k : l.all PyData.strOk = true) : PyData.strOk w = true := List.all_eq_true.mp k w h
theorem evk_sh {m kd : Nat} {e : Evt} (h : EvK m kd e) : Sh 1 (evD e) := by
  cases e with
  | own w n p k a => exact sh_tup (sh_cons (sh_str (str_ok h.1 (by decide +kernel))) (sh_cons sh_int (sh_cons sh_int (sh_cons sh_int (sh_cons sh_int sh_nil)))))
  | hand n g t k a s => exact sh_tup (sh_cons (sh_str (by decide +kernel)) (sh_cons sh_int (sh_cons sh_int (sh_cons sh_int (sh_cons sh_int (sh_cons sh_int (sh_cons sh_bool sh_nil)))))))
  | pass g t k a => exact sh_tup (sh_cons (sh_str (by decide +kernel)) (sh_cons sh_int (sh_cons sh_int (sh_cons sh_int (sh_cons sh_int sh_nil)))))
  | sec w p k a => exact sh_tup (sh_cons (sh_str (str_ok h.1 (by decide +kernel))) (sh_cons sh_int (sh_cons sh_int (sh_cons sh_int sh_nil))))
theorem mapget {α β : Type} {f : α → β} {l : List α} {i : Nat} {y : β} (h : (l.map f)[i]? = some y) : ∃ a, l[i]? = some a ∧ y = f a := by
  rw [List.getElem?_map] at h
  cases e : l[i]? with
  | none => rw [e] at h; cases h
  | some a => rw [e] at h; cases h; exact ⟨a, rfl, rfl⟩
def rel__law_cell : Rel := fun C xs R => ∃ (ns : List Int) (k : Int), xs = [Ls (ns.map .int), I k] ∧ 0 ≤ k ∧ R (I (cellM ns k)) C
def rel__law_draws : Rel := fun C xs R => ∃ (c n : Int), xs = [I c, I n] ∧ 0 ≤ n ∧ n ≤ 1000 ∧ R (Ls ((drawsM c n).map .int)) C
def rel__law_parties : Rel := fun C xs R => ∃ (ns : List Int), xs = [Ls (ns.map .int)] ∧ 12 ≤ ns.length ∧ R (T ((partiesB ns).map pfD)) C
def rel__law_event : Rel := fun C xs R => ∃ (ns : List Int) (many kinds number : Int), xs = [Ls (ns.map .int), I many, I kinds, I number] ∧ 7 ≤ ns.length ∧ (∀ d ∈ ns, 0 ≤ d) ∧ 0 < many ∧ 0 < kinds ∧ R (.dat (evD (eventM ns many kinds number))) C
def rel__law_events : Rel := fun C xs R => ∃ (ns : List Int) (at_ most many kinds : Int), xs = [Ls (ns.map .int), I at_, I most, I many, I kinds] ∧ 0 ≤ at_ ∧ 0 ≤ most ∧ most ≤ 1000 ∧ 0 < many ∧ 0 < kinds ∧ R (Ls ((eventsM ns at_ most many kinds).map evD)) C
end Lm

/-! Rpr: repr of data in the outermost def: there nothing is being shown yet. -/
namespace Ab
open PySem PySem.Spec PyProof.Rows L2
def rRepr (K : PySem.W.Frag) : List V → Hp → VK → Prop := fun vs H Q => ∃ (a : Addr) (d : PyData), vs = [V.ref a] ∧ Dp K H (.ref a) d ∧ PyData.showable d = true ∧ PyData.hasDict d = false ∧ PyData.depth d ≤ 60 ∧ d.shown.length ≤ sizeLine ∧ Q (.str d.shown) H
theorem cr_repr {X : Cx} (hg : X.A.guards = some []) (hu : X.A.units + 65 < cLine) : CallR X (.builtin "repr") (rRepr X.K) := by
  intro pins s σ H vs us Q I r h
  obtain ⟨a, d, rfl, hd, h1, h2, h3, h4, q⟩ := h
  obtain rfl := Vals.ref1 r
  obtain ⟨as, rd⟩ := Dp.reads I d _ _ hd rfl
  exact PySem.repr_of_reads' rd h1 (fun z => by rw [h2] at z; cases z) hg (by omega) (fun _ _ e => e) (fun h' u tk k => ⟨.str d.shown, H, I.kept (t' := tk) k, ⟨_, rfl⟩, q⟩) h4
theorem kx_repr {X : Cx} (K : PySem.W.Frag) (h : X.K = K) (hg : X.A.guards = some []) (hu : X.A.units + 65 < cLine) : CallR X (.builtin "repr") (rRepr K) := h ▸ cr_repr hg hu
/-- a def's promise where nothing is being shown -/
structure FnOkG (P : Program) (w : World) (K : PySem.W.Frag) (mg : Str → Option Value) (base : Heap) (CX : CXT) (k : Nat) (f : Addr) (fd : FuncData) (x : Str) (sp : Sp) : Prop where
  run : ∀ (A : Around) (outer : List Env) (s : Shared) (H : Hp) (args : Args) (u : Value) (v : V) (Q : VK) (E : XK), A.guards = some [] → Room k A → Env0 P w K mg base A outer s H → BindsTo s fd args [(x, u)] → RelV v u → sp [v] H Q E →
    codeAny (model P w) A (.call (.ref f) args) (CR CX outer P w H s Q E) s
theorem guards_deeper {A : Around} {env : Env} (h : A.guards = some []) : (A.deeper env).guards = some [] := h
theorem ok_defG {K : Kw} {mg : Str → Option Value} {base : Heap} {x qual y : Str} {st : Stmt} {f : Addr} {fd : FuncData} {N : List Str} {k : Nat} {rel : Lm.Rel} (F : Fun K.K x qual st f fd) (S : FnScope N [y] (defScope st))
    (hb : ∀ (cdv : Value) (A : Around) (outer : List Env) (s : Shared) (H : Hp) (E : XK), A.guards = some [] → Room k (A.deeper (envOfC qual (defScope st) s.heap.objs.size f cdv)) →
      ∃ t, PSs (cxOf CX0 K.P K.w K.K mg base N qual (defScope st) f cdv A outer s H E).nox (defBody st) t ∧ ∀ C xs R, Clo C → rel C xs R → Ds K C t (EnR C R) (stG N xs) C) : FnOkG K.P K.w K.K mg base CX0 (k + 1) f fd y (SpG K rel) := by
  obtain ⟨oc, od, kV, doc, pm, an, cdv, ct, osl, rfl, lk, hcd⟩ := F.ex
  refine ⟨fun A outer s H args u v Q E hg hr e0 hbi rv h => ?_⟩
  obtain ⟨C, xs, R, c, r, h, q⟩ := h
  refine LamX.run_ofS (us := [u]) (vs := [v]) lk hcd S hr e0 hbi (.cons rv .nil) rfl fun hr2 => ?_
  obtain ⟨t, ht, hd⟩ := hb cdv A outer s H E hg hr2
  refine ⟨t, ht.nox, hd C xs R c.clo h H _ H (Adv.refl c).a (sta_start c r) _ ⟨fun Γ C' σ' H' a s' e => ?_, fun x v C' H' a r' e => ?_, fun _ _ _ _ _ _ e => e.elim, fun _ _ _ _ _ _ e => e.elim⟩⟩
  · obtain ⟨y, C2, a2, r2, e2⟩ := Rt.fin a.2 rx_N e
    exact q _ _ C2 H' a2 r2 e2
  · obtain ⟨y, C2, a2, r2, e2⟩ := Rt.fin a.2 r' e
    exact q _ _ C2 H' a2 r2 e2
/-- the law is called: nothing is being shown -/
theorem law_callG {P : Program} {w : World} {K : PySem.W.Frag} {mg mb : Str → Option Value} {k : Nat} {fa a : Addr} {fd : FuncData} {x : Str} {sp : Sp} {s₁ : Shared} {vs : List Value} {ns : List Int} {R : Result → Shared → Prop}
    (KX : K.In s₁.heap) (hns : s₁.heap.Ns mainGlobals mg) (hb : s₁.heap.Ns builtinsNs mb) (hbb : ∀ x : Str, x ≠ "__name__" → mb x = bootBuiltins x) (hlim : s₁.heap.NoLimit) (hg : s₁.gens = #[])
    (ha : s₁.heap.get? a = some { cls := .type "list", data := .seq vs.toArray }) (hi : IntsAre vs ns) (hl : ns.length ≤ sizeLine) (hr : Room k callerA)
    (F : ∀ base : Heap, K.In base → base.Ns mainGlobals mg → FnOkG P w K mg base CX0 k fa fd x sp) (hbind : ∀ (s : Shared) (u : Value), BindsTo s fd ⟨[u], []⟩ [(x, u)])
    (hsp : ∀ H : Hp, L2.Only H → SqL K H a (ns.map V.int) → sp [.ref a] H (fun v _ => v = .bl true) fun _ _ _ => False)
    (fin : ∀ s', OldK s₁.heap s'.heap → s'.os = s₁.os → AllBare s'.gens → R (.ok (.ret (.bool true))) s') :
    codeAny (model P w) callerA (.call (.ref fa) ⟨[.ref a], []⟩) R s₁ := by
  let ob : Obj := { cls := .type "list", data := .seq vs.toArray }
  have rv := vals_ints hi
  -- the script's list is the one thing that is tracked, unless the module has it already
  let H : Hp := fun b => if b = a ∧ K.lookup a = none then some (.frz ob (.lst (ns.map V.int))) else none
  have hH : ∀ {b u}, H b = some u → b = a ∧ K.lookup a = none ∧ u = .frz ob (.lst (ns.map V.int)) := fun {b u} h => by
    show b = a ∧ _
    by_cases c : b = a ∧ K.lookup a = none
    · exact ⟨c.1, c.2, (Option.some.inj ((if_pos c).symm.trans h)).symm⟩
    · exact nomatch (if_neg c).symm.trans h
  have nH : ∀ {b o}, s₁.heap.get? b = some o → o ≠ ob → H b = none := fun {b o} e n => by
    cases q : H b with
    | none => rfl
    | some u =>
      obtain ⟨rfl, _, _⟩ := hH q
      exact absurd (Option.some.inj (e.symm.trans ha)) n
  have dob : ∀ {o : Obj} {es : Array DictEntry} {ep : Nat}, o.data = .dict es ep → o ≠ ob := fun {o es ep} d z => by rw [z] at d; cases d
  have up : ∀ {b m}, s₁.heap.Ns b m → (hidT s₁.heap H).Ns b m := fun {b m} ⟨o, es, ep, e, d, r⟩ => ⟨o, es, ep, hidT_get e (nH e (dob d)), d, r⟩
  have KB : K.In (hidT s₁.heap H) := fun b o e => hidT_get (KX b o e) (by
    cases q : H b with
    | none => rfl
    | some u =>
      obtain ⟨rfl, n, _⟩ := hH q
      rw [n] at e
      cases e)
  have hok : HOk P w H s₁.heap := fun b u z => by
    obtain ⟨rfl, _, rfl⟩ := hH z
    exact ⟨ha, by rw [List.length_map]; exact hl, vs, _, rv, ha⟩
  have only : L2.Only H := fun b => by
    cases q : H b with
    | none => exact .inl rfl
    | some u => exact .inr ⟨_, _, by rw [(hH q).2.2]⟩
  have sq : SqL K H a (ns.map V.int) := by
    cases hk : K.lookup a with
    | none => exact .inl (.inr ⟨ob, if_pos ⟨rfl, hk⟩⟩)
    | some o =>
      have e := Option.some.inj ((KX a o hk).symm.trans ha)
      exact .inr ⟨o, vs.toArray, _, hk, by rw [e], by rw [e], by rw [e], by rw [List.size_toArray, hi.length]; exact hl, by simpa using rv⟩
  have e0 : Env0 P w K mg (hidT s₁.heap H) callerA [] s₁ H := ⟨rfl, ⟨KB, up hns, ⟨mb, up hb, hbb⟩, let ⟨mc, h1, h2⟩ := hlim; ⟨mc, up h1, h2⟩⟩, fun b o e => of_hidT e, Nat.le_of_eq (hidT_size _ _), trivial, fun b hb => absurd (show b ∈ ([] : List Addr) from hb) (by simp), hok, .of_eq hg⟩
  refine codeAny_mono ((F _ KB (up hns)).run callerA [] s₁ H _ (.ref a) (.ref a) _ _ rfl hr e0 (hbind s₁ _) rfl (hsp H only sq)) fun r s' h => ?_
  match r, h with
  | .ok (.ret u), ⟨v, H', os, bare, un, hok', r', q⟩ =>
    have q' : v = .bl true := q
    subst q'
    obtain rfl : u = Value.bool true := r'
    refine fin s' (OldK.of_keep fun b o e => ?_) os bare
    cases q : H b with
    | none => exact un.keep b o e q (fun z => absurd (show b ∈ ([] : List Addr) from z) (by simp)) (by simp)
    | some u =>
      obtain ⟨rfl, _, rfl⟩ := hH q
      have e2 := (hok' b _ (un.frzs b _ _ q)).1
      rw [e] at ha
      rw [Option.some.inj ha]
      exact e2
  | .ok .next, h => exact False.elim h
  | .ok .brk, h => exact False.elim h
  | .ok .cont, h => exact False.elim h
  | .error _, h => exact False.elim h
/-- the goal that k_head leaves -/
theorem walk_ofG {l : PySem.W.OpenLaw} {n k : Nat} {q : Program} {loose : List Str} {XP : (Str → Option Value) → Heap → Prop} {YP : World → Heap → Prop} {d : DefRec} {K : Params → PySem.W.Frag} {sp : World → Sp} {x : Str}
    (hn : l.most = some n) (hn2 : n ≤ sizeLine) (hdf : d.params.defaults = []) (hr : Room k callerA) (hY : ∀ (w : World) (h : Heap), YP w h → (K w.params).In h)
    (F : ∀ (w : World) (mg : Str → Option Value) (fa : Addr) (h : Heap), (K w.params).In h → h.Ns mainGlobals mg → mg d.name = some (.ref fa) →
      ∃ fd : FuncData, (∀ (s : Shared) (u : Value), BindsTo s fd ⟨[u], []⟩ [(x, u)]) ∧ ∀ base : Heap, (K w.params).In base → base.Ns mainGlobals mg → FnOkG l.prog w (K w.params) mg base CX0 k fa fd x (sp w))
    (hsp : ∀ (w : World) (H : Hp) (a : Addr) (ns : List Int), ns.length ≤ n → L2.Only H → SqL (K w.params) H a (ns.map V.int) → sp w [.ref a] H (fun v _ => v = .bl true) fun _ _ _ => False) :
    PySem.W.WalkO q loose XP YP l.row.toRowW d [] (fun f vs => PySem.call f vs) := by
  refine Att.attach_call hn hdf fun w s₀ s₁ mg mb fa o pm cd doc a vs ns G Y ho hd hcd hmg hobj hints hlen hg => ?_
  have KX := hY w _ Y
  obtain ⟨fd, hb, hF⟩ := F w mg fa _ KX G.T.g hmg
  exact law_callG KX G.T.g G.T.b G.T.builtins G.T.nolimit hg hobj hints (Nat.le_trans hlen hn2) hr hF hb (fun H hO hS => hsp w H a ns hlen hO hS) fun s' h1 h2 h3 => ⟨rfl, h1, h2, h3⟩
theorem pu_repr {K : Kw} {Γ : Gm} {C : Cs} {te : TE} {ds : List PyData} (h : Pu K te Γ C (T ds)) (h1 : PyData.showable (.tuple ds) = true) (h2 : PyData.hasDict (.tuple ds) = false) (h3 : PyData.depth (.tuple ds) ≤ 60) (h4 : (PyData.tuple ds).shown.length ≤ sizeLine) :
    Pu K (tCB (rRepr K) (tCons te tNil)) Γ C (S (PyData.tuple ds).shown) := fun σ H s Q q =>
  h σ H s _ fun v H1 a r => by
    have r' := rx_dp r
    cases r' with
    | tup hs hd => exact ⟨_, _, rfl, .tup hs hd, h1, h2, h3, h4, q _ H1 a (Dp.str _)⟩
end Ab

/-! Ab16: loops that gather rows in a list; repr of what is small. -/
namespace Ab
open PySem PySem.Spec PyProof.Rows L2
variable {K : Kw} {An : Anc} {Γ Γ' : Gm} {C : Cs} {ta tb tc te to ti : TE} {x y z : Ax} {t u rest : TS} {c : TT} {E : En} {g : TG}
theorem updC_self {p : Addr} {o : MO} (h : C p = some o) : updC C p o = C := by
  funext b
  by_cases e : b = p
  · subst e; rw [updC_same, h]
  · rw [updC_ne e]
theorem take_flat {α β : Type} {G : α → List β} {l : List α} {j : Nat} {a : α} (h : l[j]? = some a) : (l.take (j + 1)).flatMap G = (l.take j).flatMap G ++ G a := by
  rw [List.take_add_one, h, List.flatMap_append]
  simp
abbrev At (C : Cs) (p : Addr) (ds : List PyData) : Cs := updC C p (.lst (ds.map .dat))
/-- a loop whose turns add rows to a list; nothing else changes -/
theorem ds_gather1 {α : Type} {D : α → PyData} {l : List α} (G : α → List PyData) (g0 : List PyData) {P : Addr} {wi : TI} {Γ0 : Gm}
    (h0 : Le Γ0 Γ) (hi : PuI K F0 wi Γ (At C P g0) ((l.map D).map .dat))
    (hs : ∀ j a acc, l[j]? = some a → acc = g0 ++ (l.take j).flatMap G → ∃ Γ2 vs, Tg K g (.dat (D a)) Γ0 Γ2 vs ∧
      Ds K (At C P g0) t { nx := fun Γ3 C3 => Le Γ0 Γ3 ∧ C3 = At C P (acc ++ G a), rt := E.rt, ct := fun Γ3 C3 => Le Γ0 Γ3 ∧ C3 = At C P (acc ++ G a) } Γ2 (At C P acc))
    (hk : ∀ Γ3, Le Γ0 Γ3 → E.nx Γ3 (At C P (g0 ++ l.flatMap G))) : Ds K An (tFor wi g t) E Γ (At C P g0) := by
  refine ds_for1 (fun i Δ C' => Δ = Γ0 ∧ C' = At C P (g0 ++ (l.take i).flatMap G)) hi ⟨Γ0, h0, rfl, by rw [List.take_zero]; simp⟩ (fun _ _ _ _ => trivial) ?_ ?_
  · rintro j x Δ C' hx ⟨rfl, rfl⟩
    obtain ⟨d, hd, rfl⟩ := datget hx
    obtain ⟨a, ha, rfl⟩ : ∃ a, l[j]? = some a ∧ d = D a := by
      rw [List.getElem?_map] at hd
      cases e : l[j]? with
      | none => rw [e] at hd; cases hd
      | some a => rw [e] at hd; cases hd; exact ⟨a, rfl, rfl⟩
    obtain ⟨Γ2, vs, h1, h2⟩ := hs j a _ ha rfl
    have st : At C P (g0 ++ (l.take j).flatMap G ++ G a) = At C P (g0 ++ (l.take (j + 1)).flatMap G) := by rw [take_flat ha, List.append_assoc]
    refine ⟨Γ2, vs, h1, fun H0 σ H b s D f => h2 H0 σ H b s D ⟨fun Γ3 C3 σ3 H3 a3 s3 e => ?_, f.rt, fun Γ3 C3 σ3 H3 a3 s3 e => e.elim, fun Γ3 C3 σ3 H3 a3 s3 e => ?_⟩⟩
    · exact f.nx Γ3 C3 σ3 H3 a3 s3 ⟨_, e.1, rfl, by rw [e.2, st]⟩
    · exact f.ct Γ3 C3 σ3 H3 a3 s3 ⟨_, e.1, rfl, by rw [e.2, st]⟩
  · rintro Γ3 Δ C' le ⟨rfl, rfl⟩
    rw [List.length_map, List.length_map, List.take_length]
    exact hk Γ3 le
theorem ds_gather {α : Type} {D : α → PyData} {l : List α} (G : α → List PyData) (g0 : List PyData) {P : Addr} {wi : TI} {Γ0 : Gm}
    (h0 : Le Γ0 Γ) (hi : PuI K F0 wi Γ (At C P g0) ((l.map D).map .dat))
    (hs : ∀ j a acc, l[j]? = some a → acc = g0 ++ (l.take j).flatMap G → ∃ Γ2 vs, Tg K g (.dat (D a)) Γ0 Γ2 vs ∧
      Ds K (At C P g0) t { nx := fun Γ3 C3 => Le Γ0 Γ3 ∧ C3 = At C P (acc ++ G a), rt := E.rt, ct := fun Γ3 C3 => Le Γ0 Γ3 ∧ C3 = At C P (acc ++ G a) } Γ2 (At C P acc))
    (hk : Ds K An rest E Γ0 (At C P (g0 ++ l.flatMap G))) : Ds K An (tSeq (tFor wi g t) rest) E Γ (At C P g0) :=
  ds_seq (M := fun Γ3 C3 => Le Γ0 Γ3 ∧ C3 = At C P (g0 ++ l.flatMap G)) (ds_gather1 G g0 h0 hi hs fun Γ3 le => ⟨le, rfl⟩) (fun Γ' C' ⟨le, e⟩ => by subst e; exact ds_weak hk le)
/-- P.append(e), the last step of a turn -/
theorem ds_app1 {P : Addr} {g0 : List PyData} {d : PyData} {Γ0 : Gm} {R : Ax → Cs → Prop} {bk ct : Gm → Cs → Prop} (ho : Pu K to Γ (At C P g0) (.ref P)) (h : Pu K te Γ (At C P g0) (.dat d)) (hz : g0.length < 100000) (le : Le Γ0 Γ) :
    Ds K An (tDrop (tBM K "list" rAppend to (tCons te tNil))) { nx := fun Γ3 C3 => Le Γ0 Γ3 ∧ C3 = At C P (g0 ++ [d]), rt := R, bk := bk, ct := ct } Γ (At C P g0) :=
  ds_drop1 (ev_app ho h updC_same (by rw [List.length_map]; exact hz)) (by
    rintro _ _ ⟨_, rfl⟩
    exact ⟨le, by rw [updC_updC]; show _ = updC C P (.lst ((g0 ++ [d]).map .dat)); rw [List.map_append]; rfl⟩)
/-- a turn that adds nothing -/
theorem ds_skip1 {P : Addr} {g0 : List PyData} {Γ0 : Gm} {R : Ax → Cs → Prop} {bk ct : Gm → Cs → Prop} (le : Le Γ0 Γ) :
    Ds K An tNext { nx := fun Γ3 C3 => Le Γ0 Γ3 ∧ C3 = At C P (g0 ++ []), rt := R, bk := bk, ct := ct } Γ (At C P g0) :=
  ds_next ⟨le, by rw [List.append_nil]⟩
/-- if .. : P.append(e) -/
theorem ds_ifapp1 {P : Addr} {g0 : List PyData} {d : PyData} {b : Bool} {Γ0 : Gm} {R : Ax → Cs → Prop} {bk ct : Gm → Cs → Prop} (hc : PuT K c Γ (At C P g0) b) (ho : Pu K to Γ (At C P g0) (.ref P)) (h : b = true → Pu K te Γ (At C P g0) (.dat d)) (hz : g0.length < 100000) (le : Le Γ0 Γ) :
    Ds K An (tIfS c (tDrop (tBM K "list" rAppend to (tCons te tNil))) tNext) { nx := fun Γ3 C3 => Le Γ0 Γ3 ∧ C3 = At C P (g0 ++ if b = true then [d] else []), rt := R, bk := bk, ct := ct } Γ (At C P g0) :=
  ds_if hc (fun e => by subst e; exact ds_app1 ho (h rfl) hz le) (fun e => by subst e; exact ds_skip1 le)
theorem flat_if {α β : Type} (p : α → Bool) (f : α → β) (l : List α) : (l.flatMap fun a => if p a = true then [f a] else []) = (l.filter p).map f := by
  induction l with
  | nil => rfl
  | cons a l ih =>
    rw [List.flatMap_cons, ih, List.filter_cons]
    cases p a <;> rfl
theorem flat_len {α β : Type} {G : α → List β} {b : Nat} (h : ∀ a, (G a).length ≤ b) : ∀ l : List α, (l.flatMap G).length ≤ l.length * b
  | [] => by simp
  | a :: l => by
    rw [List.flatMap_cons, List.length_append, List.length_cons, Nat.succ_mul]
    have := flat_len h l
    have := h a
    omega
theorem flat_take_len {α β : Type} {G : α → List β} {b : Nat} (h : ∀ a, (G a).length ≤ b) (l : List α) (j : Nat) : ((l.take j).flatMap G).length ≤ l.length * b :=
  Nat.le_trans (flat_len h _) (Nat.mul_le_mul_right _ (by rw [List.length_take]; omega))
theorem rngD_map (lo : Int) (n : Nat) : rngD lo n = ((List.range n).map fun i : Nat => PyData.int (lo + (i : Int))).map .dat := by
  unfold rngD
  rw [List.map_map]
  rfl
theorem ui_rngM {tr : TA} {n : Nat} (h : PuA K tr Γ C [I (n : Int)]) (hn : n ≤ 100000) : PuI K F0 (iRng1 tr) Γ C (((List.range n).map fun i : Nat => PyData.int (0 + (i : Int))).map .dat) := by
  have := ui_rng1 h (by omega)
  rw [rngD_map, show ((n : Int)).toNat = n by omega] at this
  exact this
/-! ### what is small is shown -/
structure Rpb (n w : Nat) (d : PyData) : Prop where
  ls : d.leavesShort 13 = true
  sh : d.showable = true
  nd : d.hasDict = false
  dp : d.depth ≤ n
  wt : d.weight ≤ w
structure RpA (n w : Nat) (ds : List PyData) : Prop where
  ls : PyData.leavesShortAll 13 ds = true
  sh : PyData.showableAll ds = true
  nd : PyData.hasDictAll ds = false
  dp : PyData.depthAll ds ≤ n
  wt : PyData.weightAll ds ≤ w
theorem rpa_nil {n w : Nat} : RpA n w [] := ⟨rfl, rfl, rfl, Nat.zero_le _, Nat.zero_le _⟩
theorem rpa_cons {n w v : Nat} {d : PyData} {ds : List PyData} (h : Rpb n w d) (k : RpA n v ds) : RpA n (w + 1 + v) (d :: ds) :=
  ⟨by rw [PyData.leavesShortAll, h.ls, k.ls]; rfl, by rw [PyData.showableAll, h.sh, k.sh]; rfl, by rw [PyData.hasDictAll, h.nd, k.nd]; rfl, by rw [PyData.depthAll]; exact Nat.max_le.mpr ⟨h.dp, k.dp⟩, by rw [PyData.weightAll]; have := h.wt; have := k.wt; omega⟩
theorem Rpb.mono {n n' w w' : Nat} {d : PyData} (h : Rpb n w d) (a : n ≤ n') (b : w ≤ w') : Rpb n' w' d := ⟨h.ls, h.sh, h.nd, Nat.le_trans h.dp a, Nat.le_trans h.wt b⟩
theorem RpA.mono {n n' w w' : Nat} {d : List PyData} (h : RpA n w d) (a : n ≤ n') (b : w ≤ w') : RpA n' w' d := ⟨h.ls, h.sh, h.nd, Nat.le_trans h.dp a, Nat.le_trans h.wt b⟩
theorem rpb_tup {n w : Nat} {ds : List PyData} (h : RpA n w ds) : Rpb (n + 1) w (.tuple ds) := ⟨by rw [PyData.leavesShort]; exact h.ls, by rw [PyData.showable]; exact h.sh, by rw [PyData.hasDict]; exact h.nd, by rw [PyData.depth]; exact Nat.succ_le_succ h.dp, by rw [PyData.weight]; exact h.wt⟩
theorem rpb_list {n w : Nat} {ds : List PyData} (h : RpA n w ds) : Rpb (n + 1) w (.list ds) := ⟨by rw [PyData.leavesShort]; exact h.ls, by rw [PyData.showable]; exact h.sh, by rw [PyData.hasDict]; exact h.nd, by rw [PyData.depth]; exact Nat.succ_le_succ h.dp, by rw [PyData.weight]; exact h.wt⟩
theorem rpa_all {n w : Nat} : ∀ {ds : List PyData}, (∀ d ∈ ds, Rpb n w d) → RpA n (ds.length * (w + 1)) ds
  | [], _ => rpa_nil
  | d :: ds, h => by
    have := rpa_cons (h d List.mem_cons_self) (rpa_all fun e he => h e (List.mem_cons_of_mem _ he))
    refine this.mono (Nat.le_refl _) ?_
    rw [List.length_cons, Nat.succ_mul]
    omega
theorem rpa_map {α : Type} {D : α → PyData} {n w z : Nat} {l : List α} (h : ∀ a ∈ l, Rpb n w (D a)) (hz : l.length ≤ z) : RpA n (z * (w + 1)) (l.map D) :=
  (rpa_all fun d hd => by obtain ⟨a, ha, rfl⟩ := List.mem_map.mp hd; exact h a ha).mono (Nat.le_refl _) (by rw [List.length_map]; exact Nat.mul_le_mul_right _ hz)
theorem rpb_int {n : Nat} {i : Int} (h : i.natAbs < 10 ^ 12) : Rpb n 40 (.int i) := by
  have l : i.natAbs.log2 < 40 := by
    by_cases z : i.natAbs = 0
    · rw [z]; decide
    · exact (Nat.log2_lt z).mpr (Nat.lt_of_lt_of_le h (by decide))
  refine ⟨by rw [PyData.leavesShort]; exact decide_eq_true (PyData.shown_int_le h), by rw [PyData.showable]; exact decide_eq_true (by omega), by rw [PyData.hasDict], by rw [PyData.depth]; exact Nat.zero_le _, ?_⟩
  rw [PyData.weight]
  split <;> omega
theorem rpb_bool {n w : Nat} {b : Bool} : Rpb n w (.bool b) := ⟨by rw [PyData.leavesShort], by rw [PyData.showable], by rw [PyData.hasDict], by rw [PyData.depth]; exact Nat.zero_le _, by rw [PyData.weight]; exact Nat.zero_le _⟩
theorem rpb_none {n w : Nat} : Rpb n w .none := ⟨by rw [PyData.leavesShort], by rw [PyData.showable], by rw [PyData.hasDict], by rw [PyData.depth]; exact Nat.zero_le _, by rw [PyData.weight]; exact Nat.zero_le _⟩
def wordOk (w : Nat) (s : Str) : Bool := (s.cps.toList.all fun c => decide (c < 16 ^ 8)) && decide (s.cps.size ≤ w)
theorem rpb_str {n w : Nat} {s : Str} (h : wordOk w s = true) : Rpb n w (.str s) := by
  unfold wordOk at h
  rw [Bool.and_eq_true, decide_eq_true_iff] at h
  exact ⟨by rw [PyData.leavesShort]; exact h.1, by rw [PyData.showable], by rw [PyData.hasDict], by rw [PyData.depth]; exact Nat.zero_le _, by rw [PyData.weight]; exact h.2⟩
theorem rpb_word {n w : Nat} {s : Str} {l : List Str} (h : s ∈ l) (k : l.all (wordOk w) = true) : Rpb n w (.str s) := rpb_str (List.all_eq_true.mp k s h)
theorem pu_reprB {ds : List PyData} {n w : Nat} (h : Pu K te Γ C (T ds)) (r : Rpb n w (.tuple ds)) (hn : n ≤ 60) (hw : w ≤ 2 ^ 20) :
    Pu K (tCB (rRepr K) (tCons te tNil)) Γ C (S (PyData.tuple ds).shown) :=
  pu_repr h r.sh r.nd (Nat.le_trans r.dp hn) (PyData.shown_fits (B := 13) (by decide) (by decide) r.ls (Nat.le_trans r.wt hw))
end Ab

/-! Skl: sorted of data, with a key by a lambda or without, over the hand layer. -/
namespace Skl
open PySem PySem.Spec PyProof.Rows L2 LamX
/-! ### data without lists reads off no list -/
mutual
def noL : PyData → Bool
  | .list _ => false
  | .dict _ => false
  | .tuple xs => noLs xs
  | _ => true
def noLs : List PyData → Bool
  | [] => true
  | x :: xs => noL x && noLs xs
end
mutual
theorem reads_noL {h : Heap} : ∀ (d : PyData) {v : Value} {as : List Addr}, noL d = true → Reads h v d as → as = []
  | .none, _, _, _, r => by cases r; rfl
  | .bool _, _, _, _, r => by cases r; rfl
  | .int _, _, _, _, r => by cases r; rfl
  | .str _, _, _, _, r => by cases r; rfl
  | .list _, _, _, n, _ => by simp [noL] at n
  | .dict _, _, _, n, _ => by simp [noL] at n
  | .tuple xs, _, _, n, r => by
    cases r with
    | tuple h1 h2 h3 h4 => exact readsAll_noL xs (by simpa [noL] using n) h4
theorem readsAll_noL {h : Heap} : ∀ (ds : List PyData) {vs : List Value} {as : List Addr}, noLs ds = true → ReadsAll h vs ds as → as = []
  | [], _, _, _, r => by cases r; rfl
  | d :: ds, _, _, n, r => by
    rw [noLs, Bool.and_eq_true] at n
    cases r with
    | cons h1 h2 => rw [reads_noL d n.1 h1, readsAll_noL ds n.2 h2]; rfl
end
section
variable {X : Cx} {pins : List (Addr × Obj)} {σ : L2.St} {H : Hp} {s : Shared}
theorem dp_reads0 (I : Inv X pins σ H s) {d : PyData} {v : V} {u : Value} (n : noL d = true) (h : Dp X.K H v d) (r : RelV v u) : Reads s.heap u d [] := by
  obtain ⟨as, q⟩ := Dp.reads I d v u h r
  have := reads_noL d n q
  subst this
  exact q
end
/-! ### the lambda, its body -/
structure Lam1 (scope : Scope) (a : Str) : Prop where
  kind : scope.kind = .function
  co : scope.isCoroutine = false
  gen : scope.isGenerator = false
  nm : scope.names = [(a, .local)]
/-- the body gives the key kf d of data d -/
def Gives (body : Expr) (scope : Scope) (a : Str) (good : PyData → Prop) (kf : PyData → PyData) : Prop :=
  ∀ (P : Program) (w : World) (A : Around) (E : Value → Shared → Prop) (q : Str) (L f : Addr) (cd : Value) (s : Shared) (v : Value) (d : PyData) (Q : Value → Shared → Prop),
    s.heap.Ns L (fun y => ([(a, v)] : List (Str × Value)).reverse.lookup y) → Reads s.heap v d [] → good d →
    (∀ h' tk' u, (∀ b o, s.heap.get? b = some o → h'.get? b = some o) → Reads h' u (kf d) [] → Q u { s with heap := h', toks := tk' }) →
    wpAny (model P w) A (eval body (PySem.W.envX q scope L f cd [])) Q E s
theorem name1 {P : Program} {w : World} {A : Around} {E : Value → Shared → Prop} {q a : Str} {scope : Scope} {L f : Addr} {cd : Value} {s : Shared} {v : Value} {Q : Value → Shared → Prop} {p : Pos} (S : Lam1 scope a) (hd : (a == ("__debug__" : Str)) = false)
    (hn : s.heap.Ns L (fun y => ([(a, v)] : List (Str × Value)).reverse.lookup y)) (h : Q v s) : wpAny (model P w) A (eval (.Name a p) (PySem.W.envX q scope L f cd [])) Q E s := by
  refine wpAny_Name (wpAny_loadName_local (m := fun y => ([(a, v)] : List (Str × Value)).reverse.lookup y) (v := v) S.kind ?_ hn ?_ h) hd
  · show scope.names.lookup a = some .local
    rw [S.nm]
    simp [List.lookup]
  · simp [List.lookup]
theorem reads_item {h : Heap} {ds : List PyData} : ∀ {vs : List Value} {i : Nat} {d : PyData}, ReadsAll h vs ds [] → ds[i]? = some d → ∃ u, vs[i]? = some u ∧ Reads h u d [] := by
  induction ds with
  | nil => intro vs i d r e; simp at e
  | cons x xs ih =>
    intro vs i d r e
    generalize has : ([] : List Addr) = as at r
    cases r with
    | @cons v vs' _ _ as' bs' h1 h2 =>
      have hx : as' = [] ∧ bs' = [] := by
        have := has.symm
        exact List.append_eq_nil_iff.mp this
      obtain ⟨rfl, rfl⟩ := hx
      cases i with
      | zero => simp at e; subst e; exact ⟨_, rfl, h1⟩
      | succ i =>
        obtain ⟨u, e1, e2⟩ := ih h2 (by simpa using e)
        exact ⟨u, by simpa using e1, e2⟩
theorem readsAll_len {h : Heap} : ∀ {ds : List PyData} {vs : List Value} {as : List Addr}, ReadsAll h vs ds as → vs.length = ds.length
  | [], _, _, r => by cases r; rfl
  | _ :: ds, _, _, r => by
    cases r with
    | cons _ h2 => simp [readsAll_len h2]
/-- x[i] of a tuple, i a constant -/
theorem item1 {P : Program} {w : World} {A : Around} {E : Value → Shared → Prop} {q a : Str} {scope : Scope} {L f : Addr} {cd : Value} {s : Shared} {v : Value} {Q : Value → Shared → Prop} {p p2 p3 : Pos} {j : Nat} {i : Nat} {ds : List PyData} {d : PyData} (S : Lam1 scope a) (hd : (a == ("__debug__" : Str)) = false)
    (hn : s.heap.Ns L (fun y => ([(a, v)] : List (Str × Value)).reverse.lookup y)) (hr : Reads s.heap v (.tuple ds) []) (hi : ds[i]? = some d) (hz : ds.length ≤ 1000)
    (h : ∀ tk' u, Reads s.heap u d [] → Q u { s with toks := tk' }) : wpAny (model P w) A (eval (.Subscript (.Name a p) (.Constant (.int (i : Int)) j p2) p3) (PySem.W.envX q scope L f cd [])) Q E s := by
  refine Subscript_ (name1 S hd hn (wpAny_Constant_int ?_))
  generalize has : ([] : List Addr) = as at hr
  cases hr with
  | @tuple b o vs n _ _ h1 h2 h3 h4 =>
    subst has
    obtain ⟨u, e1, e2⟩ := reads_item h4 hi
    have hl := readsAll_len h4
    have il := (List.getElem?_eq_some_iff.mp hi).1
    have sz : vs.size = ds.length := by rw [← hl]; simp
    refine subscriptTail_builtinR (x := u) (T := "tuple") (id := "tuple.__getitem__") ⟨o, h1, h2⟩ slot_tuple_getitem.lookup (getItem_tuple (j := i) (items := vs) (Q := fun r s' => r = u ∧ Q r s') ⟨o, h1, h2, n, h3⟩ (by omega) (by omega) ?_ ?_ ⟨rfl, h _ u e2⟩) (by with_unfolding_all rfl)
    · rw [sz]
      show seqIndex? (i : Int) ds.length = some i
      unfold seqIndex?
      simp
      omega
    · rw [← Array.getElem?_toList]
      exact e1
def itemK (i : Nat) : PyData → PyData
  | .tuple ds => ds.getD i .none
  | _ => .none
def goodI (i : Nat) (d : PyData) : Prop := ∃ ds, d = .tuple ds ∧ i < ds.length ∧ ds.length ≤ 1000
theorem itemK_get {i : Nat} {ds : List PyData} (h : i < ds.length) : ds[i]? = some (itemK i (.tuple ds)) := by
  show ds[i]? = some (ds.getD i .none)
  rw [List.getD_eq_getElem?_getD, List.getElem?_eq_getElem h]
  rfl
/-- lambda x: x[i] -/
theorem gives_item {a : Str} {scope : Scope} {p p2 p3 : Pos} {j i : Nat} (S : Lam1 scope a) (hd : (a == ("__debug__" : Str)) = false := by decide) : Gives (.Subscript (.Name a p) (.Constant (.int (i : Int)) j p2) p3) scope a (goodI i) (itemK i) := by
  rintro P w A E q L f cd s v d Q hn hr ⟨ds, rfl, hi, hz⟩ h
  exact item1 S hd hn hr (itemK_get hi) hz fun tk' u hu => h s.heap tk' u (fun _ _ e => e) hu
/-- lambda x: (x[i], x) -/
theorem gives_pair {a : Str} {scope : Scope} {p p2 p3 p4 p5 : Pos} {x1 : Nat} {j i : Nat} (S : Lam1 scope a) (hd : (a == ("__debug__" : Str)) = false := by decide) :
    Gives (.Tuple [.Subscript (.Name a p) (.Constant (.int (i : Int)) j p2) p3, .Name a p4] x1 p5) scope a (goodI i) (fun d => .tuple [itemK i d, d]) := by
  rintro P w A E q L f cd s v d Q hn hr ⟨ds, rfl, hi, hz⟩ h
  refine wpAny_Tuple_spliced ?_
  show wpAny _ _ (spliced ((false, eval (.Subscript (.Name a p) (.Constant (.int (i : Int)) j p2) p3) _) :: (false, eval (.Name a p4) _) :: [])) _ _ s
  refine Calls.spliced_cons (item1 S hd hn hr (itemK_get hi) hz fun tk' u hu => ?_)
  refine Calls.spliced_cons (name1 S hd hn ?_)
  refine Calls.spliced_nil ⟨by simp [sizeLine_eq], ?_⟩
  have k : ∀ b o, s.heap.get? b = some o → (s.heap.push { cls := .type "tuple", data := .seq [u, v].toArray }).get? b = some o := fun b o e => Heap.get?_push_of_some _ e
  refine h _ tk' _ k ?_
  refine .tuple (as := []) (Heap.get?_push_size _ rfl) rfl rfl ?_
  exact .cons (as := []) (bs := []) (PyProof.Rows.Reads.keeps k hu) (.cons (as := []) (bs := []) (PyProof.Rows.Reads.keeps k hr) .nil)
/-! ### the lambda, called by sorted -/
theorem turn1 {P : Program} {w : World} {A : Around} {s : Shared} {f c' : Addr} {q a : Str} {params : Arguments} {body : Expr} {scope : Scope} {pm ctv v : Value} {d : PyData} {good : PyData → Prop} {kf : PyData → PyData} {K : PySem.W.Frag} (S : Lam1 scope a) (G : Gives body scope a good kf)
    (hf : s.heap.get? f = some (PySem.W.kla_obj "<lambda>" q params body scope [] pm c' ctv)) (hc : ∃ (oc : Obj) (vs : Array Value) (t : Tok), s.heap.get? c' = some oc ∧ oc.data = .fields vs ∧ vs[1]? = some (.str q t)) (hroom : A.depth < recursionLimit) (lim : s.heap.NoLimit)
    (hbind : bindArgs (PySem.W.kla_fn "<lambda>" q params body scope [] pm (.ref c') ctv) ⟨[v], []⟩ = pure [(a, v)]) (hr : Reads s.heap v d []) (hg : good d) :
    wpAny (model P w) A (call (.ref f) [v]) (PySem.W.KeyPure (kf d) s) (fun _ _ => False) s := by
  obtain ⟨oc, vs, t, h1, h2, h3⟩ := hc
  have rc : codeAny (model P w) A (.call (.ref f) ⟨[v], []⟩) (fun r s' => ∃ u, r = .ok (.ret u) ∧ PySem.W.KeyPure (kf d) s u s') s := by
    refine PySem.W.kla_callFunE hroom hf rfl S.co S.gen rfl ⟨c', oc, vs, t, rfl, h1, h2, h3⟩ ?_
    rw [hbind]
    refine wpAny_pure (wpAny_newFunctionEnv (fun y hy => ?_) (fun y hy => ?_) (fun h₁ hns hsb => ⟨lim.fresh _ hsb, ?_⟩) S.kind)
    · rw [S.nm] at hy
      rw [List.mem_singleton.mp hy]
      intro z
      cases z
    · rw [List.mem_singleton.mp hy]
      show scope.names.lookup a = some .local
      rw [S.nm]
      simp [List.lookup]
    · have kp : ∀ b o, s.heap.get? b = some o → h₁.get? b = some o := fun b o e => hsb.extBut b o (Nat.ne_of_lt (Heap.lt_size e)) (Heap.get?_push_of_some _ e)
      refine PySem.W.kla_codeExpr (G P w _ _ q s.heap.objs.size f (.ref c') _ v d _ hns (PyProof.Rows.Reads.keeps kp hr) hg fun h' tk' u k' r' => ?_)
      exact ⟨u, rfl, h', tk', rfl, fun b o e => k' b o (kp b o e), r'⟩
  refine wpAny_call (codeAny_mono rc fun r s' ⟨u, e, hq⟩ => ?_)
  subst e
  exact hq

/-! ### the rules -/
/-- keys that can be sorted by -/
structure KeyOk (good : PyData → Prop) (kf : PyData → PyData) (ds : List PyData) : Prop where
  ok : ∀ d ∈ ds, noL d = true ∧ good d
  al : PySem.W.AllAlike (ds.map kf)
  so : PySem.W.Sortable (ds.map kf)
  dp : ∀ d ∈ ds, (kf d).depth ≤ 60
abbrev srtD (kf : PyData → PyData) (ds : List PyData) : List PyData := ds.mergeSort (PySem.W.dataLe false kf)
/-- what the values stand for -/
def Ra (F : V → PyData → Prop) (s : Shared) (u : Value) (d : PyData) : Prop := ∃ x, RelV x u ∧ F x d ∧ Reads s.heap u d []
theorem each_ra {X : Cx} {pins : List (Addr × Obj)} {σ : L2.St} {H : Hp} {s : Shared} {F : V → PyData → Prop} (I : Inv X pins σ H s) (hF : ∀ x d, F x d → Dp X.K H x d) : ∀ {ds : List PyData} {xs : List V} {us : List Value}, (∀ d ∈ ds, noL d = true) → Paired F xs ds → Vals xs us → PySem.W.EachIs (Ra F s) us ds
  | [], _, _, _, h, r => by cases h; cases r; exact .nil
  | d :: ds, _, _, n, h, r => by
    cases h with
    | cons h1 h2 =>
      cases r with
      | cons r1 r2 => exact .cons ⟨_, r1, h1, dp_reads0 I (n d List.mem_cons_self) (hF _ _ h1) r1⟩ (each_ra I hF (fun e he => n e (List.mem_cons_of_mem _ he)) h2 r2)
theorem ra_each {F : V → PyData → Prop} {s : Shared} : ∀ {ds : List PyData} {us : List Value}, PySem.W.EachIs (Ra F s) us ds → ∃ xs, Vals xs us ∧ Paired F xs ds
  | _, _, .nil => ⟨[], .nil, .nil⟩
  | _, _, .cons ⟨x, h1, h2, _⟩ t => by
    obtain ⟨xs, q1, q2⟩ := ra_each t
    exact ⟨x :: xs, .cons h1 q1, .cons h2 q2⟩
/-- sorted(l) of data -/
def rSrt (K : PySem.W.Frag) : List V → Hp → VK → Prop := fun vs H Q => ∃ (F : V → PyData → Prop) (a : Addr) (xs : List V) (ds : List PyData), vs = [V.ref a] ∧ SqL K H a xs ∧ (∀ x d, F x d → Dp K H x d) ∧ Paired F xs ds ∧ KeyOk (fun _ => True) (fun d => d) ds ∧
  ∀ p zs, H p = none → Paired F zs (srtD (fun d => d) ds) → Q (.ref p) (upd H p (.lst zs))
theorem cr_srt {X : Cx} (hu : X.A.units + 65 < cLine) : CallR X (.builtin "sorted") (rSrt X.K) := by
  intro pins s σ H vs us Q I r h
  obtain ⟨F, a, xs, ds, rfl, hs, hF, hd, ok, q⟩ := h
  obtain rfl := Vals.ref1 r
  obtain ⟨its, rv, hl, hz⟩ := I.list hs
  have e := each_ra I hF (fun d hd => (ok.ok d hd).1) hd rv
  have dl := hd.length
  have al := ok.al
  rw [List.map_id'] at al
  have so := ok.so
  rw [List.map_id'] at so
  refine PySem.W.sorted_data (enc := fun d => d) (R := Ra F s) hl.isList e (e.mono fun _ _ ⟨_, _, _, z⟩ => ⟨[], z⟩) (by rw [List.map_id']; exact al) (by rw [List.map_id']; exact so) (by omega) (fun d hd => by have := ok.dp d hd; omega) fun out ol oe => ?_
  obtain ⟨zs, z1, z2⟩ := ra_each oe
  obtain ⟨ep, he'⟩ := PyProof.Rows.sortedAll_at s.heap its out.toArray
  exact ⟨.ref _, upd H (s.heap.objs.size + 1) (.lst zs), I.laid (t' := s.toks) (fun _ _ => PyProof.Rows.sortedAll_old) (Nat.le_succ _) ⟨by rw [z1.length, ol]; omega, out, ep, z1, he'⟩, rfl, q _ _ (I.hok.fresh (Nat.le_succ _)) z2⟩
section
variable {X : Cx} {pins : List (Addr × Obj)} {σ : L2.St} {H H1 : Hp} {s : Shared}
/-- the turn, where the lambda was made -/
theorem turn2 {A : Around} {f c' : Addr} {q a : Str} {params : Arguments} {body : Expr} {scope : Scope} {pm ctv : Value} {good : PyData → Prop} {kf : PyData → PyData} (S : Lam1 scope a) (G : Gives body scope a good kf) (I : Inv X pins σ H s)
    (hf : s.heap.get? f = some (PySem.W.kla_obj "<lambda>" q params body scope [] pm c' ctv)) (hc : H c' = some (CodeO c' q)) (hroom : A.depth < recursionLimit)
    (hbind : ∀ v : Value, bindArgs (PySem.W.kla_fn "<lambda>" q params body scope [] pm (.ref c') ctv) ⟨[v], []⟩ = pure [(a, v)]) {h : Heap} {tk : Nat} (kp : ∀ b o, s.heap.get? b = some o → h.get? b = some o) {u : Value} {d : PyData} (hr : Reads s.heap u d []) (hg : good d) :
    wpAny (model X.prog X.w) A (call (.ref f) [u]) (PySem.W.KeyPure (kf d) { s with heap := h, toks := tk }) (fun _ _ => False) { s with heap := h, toks := tk } := by
  obtain ⟨⟨oc, vs, t, h1, h2, h3⟩, _, _⟩ := I.hok c' _ hc
  exact turn1 (s := { s with heap := h, toks := tk }) (K := X.K) S G (kp _ _ hf) ⟨oc, vs, t, kp _ _ h1, h2, h3⟩ hroom (I.nolimit.keeps kp) (hbind u) (PyProof.Rows.Reads.keeps kp hr) hg
/-- sorted(e, key=lambda ..), e a list -/
def tSrtL (K : PySem.W.Frag) (T : List (Addr × Str)) (good : PyData → Prop) (kf : PyData → PyData) (tl : TE) : TE := fun σ H Q => tl σ H fun x H1 => Tabs T H1 ∧ ∀ H2, ExtN H1 H2 → Tabs T H2 →
  ∃ (F : V → PyData → Prop) (a : Addr) (xs : List V) (ds : List PyData), x = .ref a ∧ SqL K H2 a xs ∧ (∀ x d, F x d → Dp K H2 x d) ∧ Paired F xs ds ∧ KeyOk good kf ds ∧ ∀ p zs, H2 p = none → Paired F zs (srtD kf ds) → Q (.ref p) (upd H2 p (.lst zs))
/-- what making the lambda asks -/
structure MkOk (X : Cx) (T : List (Addr × Str)) (c P : Addr) (params : Arguments) (body : Expr) (scope : Scope) (a : Str) (good : PyData → Prop) (kf : PyData → PyData) : Prop where
  S : Lam1 scope a
  G : Gives body scope a good kf
  TB : TabB X.base X.mg c P
  code : X.env.code = .ref c
  mT : (P, X.env.qual ++ "<lambda>") ∈ T
  one : ∀ p ∈ T, p.1 = P → p.2 = X.env.qual ++ "<lambda>"
  df : defaultsOf params X.env = ([], [])
  bind : ∀ (q : Str) (pm cv ctv v : Value), bindArgs (PySem.W.kla_fn "<lambda>" q params body scope [] pm cv ctv) ⟨[v], []⟩ = pure [(a, v)]
  un : X.A.units + 65 < cLine
  room : X.A.depth < recursionLimit
theorem clo1 {cells : List (Str × Addr)} {scope : Scope} {a : Str} (S : Lam1 scope a) : cloFrom cells scope.names [] = [] := by
  rw [S.nm]
  rfl
theorem pe_srtL {T : List (Addr × Str)} {c P : Addr} {params : Arguments} {body e : Expr} {scope : Scope} {a : Str} {good : PyData → Prop} {kf : PyData → PyData} {tl : TE} {p kpos lpos pos : Pos} (M : MkOk X T c P params body scope a good kf) (hg : Gl X "sorted") (hm : X.mg "sorted" = none) (he : PE X e tl)
    (hs : backTo pos (starEach [e] X.env) = (false, eval e X.env) :: backTo pos (starEach [] X.env) := by rfl) (hp : (backTo pos (starEach [e] X.env)).any (·.1) = false := by rfl) :
    PE X (.Call (.Name "sorted" p) [e] [⟨some "key", .Lambda params body scope lpos, kpos⟩] pos) (tSrtL X.K T good kf tl) := by
  refine ⟨fun pins s σ H Q I h => ?_⟩
  have S := M.S
  refine wpAny_Call_Name_kw (ld_blt I hg hm (show bootBuiltins "sorted" = some (.builtin "sorted") by decide +kernel) ?_ (by decide) (by decide))
  refine PyProof.Rows.callWith_kw ?_ hs hp (by rfl) (by rfl)
  rw [hs]
  refine Calls.spliced_cons (thn (he.run pins s σ H _ I h) fun u s1 ⟨x, H1, I1, r1, hT, q1⟩ => Calls.spliced_nil ?_)
  refine PyProof.Rows.kwAll_cons (lam_make2 I1 M.TB M.code M.mT M.one hT M.df (fun y hy e => ?_) fun f c' pm ctv H2 s2 I2 eN T2 hf hfn hfr hco => PyProof.Rows.kwAll_nil ?_)
  · rw [S.nm] at hy
    rw [List.mem_singleton.mp hy] at e
    cases e
  rw [clo1 S] at hf
  obtain ⟨F, al, xs, ds, rfl, hsq, hF, hd, ok, q⟩ := q1 H2 eN T2
  cases r1
  obtain ⟨its, rv, hl, hz⟩ := I2.list hsq
  have ea := each_ra I2 hF (fun d hd => (ok.ok d hd).1) hd rv
  have dl := hd.length
  have hu := M.un
  refine PySem.W.sorted_key_data (b := false) (f := .ref f) (kw := [(Str.ofString "key", .ref f)]) (R := Ra F s2) kf hl.isList ea ok.al ok.so (by omega) (fun d hd => by have := ok.dp d hd; omega) (PyProof.Rows.ksk_s1 _ _) (fun _ => PyProof.Rows.ksk_l1 _ _) (fun x => PyProof.Rows.ksk_t1 f x)
    (fun v d ⟨_, _, _, hr⟩ hm h tk kp => turn2 (A := X.A.in1.in1) S M.G I2 hf hco M.room (M.bind _ _ _ _) kp hr (ok.ok d hm).2) fun out cc h' tk kp fr hat ol oe => ?_
  obtain ⟨zs, z1, z2⟩ := ra_each oe
  exact ⟨.ref _, upd H2 (s2.heap.objs.size + 1) (.lst zs), I2.laid (t' := tk) kp (Nat.le_succ _) ⟨by rw [z1.length, ol]; omega, out, cc, z1, hat⟩, rfl, q _ _ (I2.hok.fresh (Nat.le_succ _)) z2⟩
/-- the keys of a dict whose keys are tuples, as they stand -/
theorem src_dict {P : Program} {w : World} {d : Addr} {ys : List (List Leaf × Addr × Value)} {es : Array DictEntry} {ep : Nat} (lo : (d == sysModules) = false) (hx : ∀ i (hi : i < es.size), ∃ y, ys[i]? = some y ∧ es[i].key = .ref y.2.1 ∧ es[i].val = y.2.2) :
    PySem.W.KdlSrc P w "dict" d d es.size (fun i v => ∃ y, ys[i]? = some y ∧ v = .ref y.2.1) (fun h => h.DictRaw d es ep) where
  type := fun _ hm => hm.typeIs
  there := fun _ hm => let ⟨_, ho, _⟩ := hm; ⟨Heap.lt_size ho, Heap.lt_size ho⟩
  keep := fun _ _ hm hk => hm.at fun o e => hk d (.inl rfl) o e
  notList := by decide
  notTuple := by decide
  hint := fun _ _ _ _ hm hq => PySem.W.kdl_hint_dict hm.typeIs hq
  iter := fun _ _ hh hm => ⟨_, _, (fun _ _ hq => wpAny_pyIter_dict_raw lo hm hq), Walks.keysH hh _ d (Nat.ne_of_lt (let ⟨_, ho, _⟩ := hm; Heap.lt_size ho)) es ep hx, ⟨⟨_, Heap.get?_push_size _ rfl, rfl, rfl⟩, hm.at fun o e => Heap.get?_push_of_some _ e⟩⟩
theorem items_eq {α : Type} {ys : List α} {g : α → Value} {n : Nat} (hn : n = ys.length) : ∀ {acc : Array Value}, PySem.ItemsOf (fun i v => ∃ y, ys[i]? = some y ∧ v = g y) acc n → acc.toList = ys.map g := by
  intro acc h
  apply List.ext_getElem?
  intro i
  rw [List.getElem?_map, Array.getElem?_toList]
  by_cases hi : i < n
  · have hi2 : i < acc.size := by rw [h.1]; exact hi
    obtain ⟨y, h1, h2⟩ := h.2 i acc[i] (Array.getElem?_eq_getElem hi2)
    rw [Array.getElem?_eq_getElem hi2, h1, h2]
    rfl
  · rw [Array.getElem?_eq_none (by rw [h.1]; omega), List.getElem?_eq_none (by omega)]
    rfl
/-- sorted(e, key=lambda ..), e a dict whose keys are tuples -/
def tSrtD (P : Program) (w : World) (K : PySem.W.Frag) (T : List (Addr × Str)) (good : PyData → Prop) (kf : PyData → PyData) (tl : TE) : TE := fun σ H Q => tl σ H fun x H1 => Tabs T H1 ∧ ∀ H2, ExtN H1 H2 → Tabs T H2 →
  ∃ (F : V → PyData → Prop) (a : Addr) (xs : Tb.Rows V) (ds : List PyData), x = .ref a ∧ Tb.TabAt P w K H2 a xs ∧ (∀ x d, F x d → Dp K H2 x d) ∧ Paired F (xs.map fun x => V.ref x.2.1) ds ∧ KeyOk good kf ds ∧ ∀ p zs, H2 p = none → Paired F zs (srtD kf ds) → Q (.ref p) (upd H2 p (.lst zs))
theorem vals_keys : ∀ {xs : Tb.Rows V} {us : Tb.Rows Value}, Tb.RowsRel xs us → Vals (xs.map fun x => V.ref x.2.1) (us.map fun y => Value.ref y.2.1)
  | _, _, .nil => .nil
  | _, _, .cons h t => .cons (show RelV (V.ref _) (Value.ref _) by rw [h.2.1]; rfl) (vals_keys t)
theorem pe_srtD {T : List (Addr × Str)} {c P : Addr} {params : Arguments} {body e : Expr} {scope : Scope} {a : Str} {good : PyData → Prop} {kf : PyData → PyData} {tl : TE} {p kpos lpos pos : Pos} (M : MkOk X T c P params body scope a good kf) (hcalm : X.calm = true) (hg : Gl X "sorted") (hm : X.mg "sorted" = none) (he : PE X e tl)
    (hs : backTo pos (starEach [e] X.env) = (false, eval e X.env) :: backTo pos (starEach [] X.env) := by rfl) (hp : (backTo pos (starEach [e] X.env)).any (·.1) = false := by rfl) :
    PE X (.Call (.Name "sorted" p) [e] [⟨some "key", .Lambda params body scope lpos, kpos⟩] pos) (tSrtD X.prog X.w X.K T good kf tl) := by
  refine ⟨fun pins s σ H Q I h => ?_⟩
  have S := M.S
  refine wpAny_Call_Name_kw (ld_blt I hg hm (show bootBuiltins "sorted" = some (.builtin "sorted") by decide +kernel) ?_ (by decide) (by decide))
  refine PyProof.Rows.callWith_kw ?_ hs hp (by rfl) (by rfl)
  rw [hs]
  refine Calls.spliced_cons (thn (he.run pins s σ H _ I h) fun u s1 ⟨x, H1, I1, r1, hT, q1⟩ => Calls.spliced_nil ?_)
  refine PyProof.Rows.kwAll_cons (lam_make2 I1 M.TB M.code M.mT M.one hT M.df (fun y hy e => ?_) fun f c' pm ctv H2 s2 I2 eN T2 hf hfn hfr hco => PyProof.Rows.kwAll_nil ?_)
  · rw [S.nm] at hy
    rw [List.mem_singleton.mp hy] at e
    cases e
  rw [clo1 S] at hf
  obtain ⟨F, al, xs, ds, rfl, hta, hF, hd, ok, q⟩ := q1 H2 eN T2
  cases r1
  obtain ⟨ys, rr, hyl, dd⟩ := hta.dict I2
  obtain ⟨es, ep, hraw, hes, hx⟩ := dd.raw
  have dl := hd.length
  rw [List.length_map] at dl
  have hu := M.un
  have tl := hta.len
  refine call_function_entry_kw kind_sorted plain_sorted entry_sorted (PyProof.Rows.ksk_s1 _ _) ?_
  unfold Builtin.«sorted»
  refine wpAny_bind (m := checkCount "sorted" 1 1 _) (wpAny_pure ?_)
  refine wpAny_bind (PySem.W.kdu_collect (A := X.A.in1) (src_dict (ep := ep) hta.sys fun i hi => let ⟨y, h1, h2, h3, _⟩ := hx i hi; ⟨y, h1, h2, h3⟩) (I2.ok.hd hcalm) hraw (by omega) fun h' tk acc hk hacc => ?_)
  have ae := items_eq (g := fun y : List Leaf × Addr × Value => Value.ref y.2.1) (by omega) hacc
  have I3 : Inv X pins σ H2 { s2 with heap := h', toks := tk } := I2.kept hk
  have rv : Vals (xs.map fun x => V.ref x.2.1) acc.toList := by rw [ae]; exact vals_keys rr
  have ea := each_ra I3 hF (fun d hd => (ok.ok d hd).1) hd rv
  have eal : acc.toList.length = ds.length := ea.length
  refine wpAny_bind (wpAny_newList ?_ (by omega))
  have hoL : (h'.push (seqObj "list" acc.toList.toArray 0)).get? h'.objs.size = some (seqObj "list" acc.toList.toArray 0) := Heap.get?_push_size _ rfl
  have up : ∀ {g : Heap}, PySem.W.KeepsBut h'.objs.size (h'.push (seqObj "list" acc.toList.toArray 0)) g → ∀ b o, h'.get? b = some o → g.get? b = some o := fun {g} kp b o z => kp b o (Nat.ne_of_lt (Heap.lt_size z)) (Heap.get?_push_of_some _ z)
  show wpAny _ _ _ _ _ { s2 with heap := h'.push (seqObj "list" acc.toList.toArray 0), toks := tk }
  refine wpAny_bind (wpAny_holding (PyProof.Rows.wpAny_call_entry_kw PyProof.Rows.slot_list_sort ⟨_, hoL, rfl⟩ PyProof.Rows.entry_list_sort ?_ (PyProof.Rows.ksk_l1 _ _)))
  show wpAny _ _ (Builtin.«list.sort» ⟨[.ref h'.objs.size], [(Str.ofString "key", .ref f)]⟩) _ _ _
  rw [show Builtin.«list.sort» ⟨[.ref h'.objs.size], [(Str.ofString "key", .ref f)]⟩ = PyProof.Rows.ksk_tree h'.objs.size (.ref f) false from PyProof.Rows.ksk_t1 f _]
  refine PySem.W.keyH_tree (kz := ds.map kf) (s := { s2 with heap := h'.push (seqObj "list" acc.toList.toArray 0), toks := tk }) hoL (by rw [List.length_map]; exact eal.symm) (by omega) ok.al ok.so (fun d hd => by
      obtain ⟨d0, h0, rfl⟩ := List.mem_map.mp hd
      have := ok.dp d0 h0
      show X.A.units + 1 + 1 + _ < cLine
      omega)
    (PySem.W.keyH_turns (R := Ra F { s2 with heap := h', toks := tk }) (s := { s2 with heap := h'.push (seqObj "list" acc.toList.toArray 0), toks := tk }) ea fun v d ⟨_, _, _, hr⟩ hm h tk' kp =>
      turn2 (A := X.A.in1.in1) S M.G I3 (hk _ _ hf) hco M.room (M.bind _ _ _ _) (up kp) hr (ok.ok d hm).2) fun h2 tk2 out cc kp hat ko => ⟨_, rfl, ?_⟩
  have oe := PySem.W.keyedOut_each kf ko ea
  obtain ⟨zs, z1, z2⟩ := ra_each oe
  have ol : zs.length = ds.length := by
    have := z2.length
    rw [this, List.length_mergeSort]
  exact wpAny_pure ⟨_, rfl, .ref h'.objs.size, upd H2 h'.objs.size (.lst zs), I3.laid (t' := tk2) (up kp) (Nat.le_refl _) ⟨by omega, out, cc, z1, hat⟩, rfl, q _ _ (I3.hok.fresh (Nat.le_refl _)) z2⟩
end
end Skl

/-! Ab17: sorted with a lambda, dicts keyed by tuples that change, loops that fold, over the abstract store; the law's end with tables. -/
namespace Tb
open PySem PySem.Spec PyProof.Rows L2
section
variable {X : Cx} {o i value : Expr} {pos pos' : Pos} {td ty tv : TE}
/-- d[t] = v, d keyed by tuples -/
def sTPut (P : Program) (w : World) (K : PySem.W.Frag) (td ty tv : TE) : TS := fun D σ H => tv σ H fun v H1 => td σ H1 fun x H2 => ty σ H2 fun y H3 => ∃ a b xs ks, x = .ref a ∧ y = .ref b ∧ TabAt P w K H3 a xs ∧ KeyAt K H3 b ks ∧ D.nx σ (upd H3 a (TabO P w a (putX xs ks b v)))
theorem ps_tput (hu : X.A.units + 1 < cLine) (ho : PE X o td) (hi : PE X i ty) (hv : PE X value tv) (hs : swapsWith value (some (.Subscript o i pos')) pos.line X.env = pure false) : PS X (.Assign [.Subscript o i pos'] value pos) (sTPut X.prog X.w X.K td ty tv) := by
  refine ⟨fun pins s σ H D I h => ?_⟩
  refine wpAny_Assign_Subscript (thn (hv.run pins s σ H _ I h) fun r s1 ⟨v, H1, I1, rv, q1⟩ => thn (ho.run pins s1 σ H1 _ I1 q1) fun u s2 ⟨x, H2, I2, rx, q2⟩ => thn (hi.run pins s2 σ H2 _ I2 q2) fun iv s3 ⟨y, H3, I3, ry, z⟩ => ?_) hs
  obtain ⟨a, b, xs, ks, rfl, rfl, t, hk, q⟩ := z
  cases rx
  cases ry
  obtain ⟨us, rr, hl, d⟩ := t.dict I3
  refine wpAny_setItem_heap (hsz := by rw [hl]; exact t.len) (tupleKind_room_in1 hu) (hk.is I3) d fun h' d' sb => ?_
  obtain ⟨ob, _, _, e1, _⟩ := id d'
  exact ⟨σ, _, d_write I3 (by rw [t.obj]; exact True.intro) sb ⟨ob, e1⟩ (tab_ok (rr_put rr ks b rv) d'), q⟩
/-- {}, to be keyed by tuples -/
def tTab0 (P : Program) (w : World) : TE := fun _ H Q => ∀ D, H D = none → (D == sysModules) = false → Q (.ref D) (upd H D (TabO P w D []))
theorem pe_tab0 : PE X (.Dict [] [] pos) (tTab0 X.prog X.w) := ⟨fun pins s σ H Q I h =>
  wpAny_Dict_empty ⟨.ref s.heap.objs.size, _, I.laid (a := s.heap.objs.size) (o := TabO X.prog X.w s.heap.objs.size []) (t' := s.toks) (fun _ _ q => Heap.get?_push_of_some _ q) (Nat.le_refl _) (tab_new s.heap), rfl, h _ (I.hok.fresh (Nat.le_refl _)) (beq_eq_false_iff_ne.mpr (Ne.symm (Nat.ne_of_lt I.big)))⟩⟩
end
end Tb
namespace Ab
open PySem PySem.Spec PyProof.Rows L2
section
variable {X : Cx} {o i value : Expr} {pos pos' : Pos} {td ty tv : TE}
theorem kx_tput (K : Kw) (h : X.K = K.K) (hp : X.prog = K.P) (hw : X.w = K.w) (hu : X.A.units + 1 < cLine) (ho : PE X o td) (hi : PE X i ty) (hv : PE X value tv) (hs : swapsWith value (some (.Subscript o i pos')) pos.line X.env = pure false) : PS X (.Assign [.Subscript o i pos'] value pos) (Tb.sTPut K.P K.w K.K td ty tv) := by
  rw [← h, ← hp, ← hw]
  exact Tb.ps_tput hu ho hi hv hs
theorem kx_tab0 (K : Kw) (hp : X.prog = K.P) (hw : X.w = K.w) : PE X (.Dict [] [] pos) (Tb.tTab0 K.P K.w) := by
  rw [← hp, ← hw]
  exact Tb.pe_tab0
theorem kx_srt (K : PySem.W.Frag) (h : X.K = K) (hu : X.A.units + 65 < cLine) : CallR X (.builtin "sorted") (Skl.rSrt K) := h ▸ Skl.cr_srt hu
theorem kx_srtL (K : Kw) (h : X.K = K.K) {c P : Addr} {params : Arguments} {body e : Expr} {scope : Scope} {a : Str} {good : PyData → Prop} {kf : PyData → PyData} {tl : TE} {p kpos lpos pos : Pos} (M : Skl.MkOk X K.tb c P params body scope a good kf) (hg : Gl X "sorted") (hm : X.mg "sorted" = none) (he : PE X e tl)
    (hs : backTo pos (starEach [e] X.env) = (false, eval e X.env) :: backTo pos (starEach [] X.env) := by rfl) (hp : (backTo pos (starEach [e] X.env)).any (·.1) = false := by rfl) :
    PE X (.Call (.Name "sorted" p) [e] [⟨some "key", .Lambda params body scope lpos, kpos⟩] pos) (Skl.tSrtL K.K K.tb good kf tl) := by
  have := Skl.pe_srtL M hg hm he (kpos := kpos) (lpos := lpos) (p := p) hs hp
  rw [h] at this
  exact this
theorem kx_srtD (K : Kw) (h : X.K = K.K) (hP : X.prog = K.P) (hw : X.w = K.w) {c P : Addr} {params : Arguments} {body e : Expr} {scope : Scope} {a : Str} {good : PyData → Prop} {kf : PyData → PyData} {tl : TE} {p kpos lpos pos : Pos} (M : Skl.MkOk X K.tb c P params body scope a good kf) (hcalm : X.calm = true) (hg : Gl X "sorted") (hm : X.mg "sorted" = none) (he : PE X e tl)
    (hs : backTo pos (starEach [e] X.env) = (false, eval e X.env) :: backTo pos (starEach [] X.env) := by rfl) (hp : (backTo pos (starEach [e] X.env)).any (·.1) = false := by rfl) :
    PE X (.Call (.Name "sorted" p) [e] [⟨some "key", .Lambda params body scope lpos, kpos⟩] pos) (Skl.tSrtD K.P K.w K.K K.tb good kf tl) := by
  have := Skl.pe_srtD M hcalm hg hm he (kpos := kpos) (lpos := lpos) (p := p) hs hp
  rw [h, hP, hw] at this
  exact this
end
variable {K : Kw} {An : Anc} {Γ Γ' : Gm} {C : Cs} {ta tb tc te tl to ti tk tv : TE} {x y z : Ax} {t u rest : TS} {c : TT} {E : En} {g : TG}
/-! ### the tables are cells -/
def HasT (T : List (Addr × Str)) (C : Cs) : Prop := ∀ p ∈ T, C p.1 = some (.code p.2)
theorem HasT.mor {T : List (Addr × Str)} {C' : Cs} (h : HasT T C) (m : Mor C C') : HasT T C' := fun p hp => m.at_ (h p hp)
theorem HasT.upd {T : List (Addr × Str)} {p : Addr} {o : MO} (h : HasT T C) (hp : C p = none) : HasT T (updC C p o) := h.mor (Mor.upd hp)
theorem tabs_of {H : Hp} (c : Cells K C H) (h : HasT K.tb C) : LamX.Tabs K.tb H := fun p hp => by
  obtain ⟨_, ps, h1, h2, h3⟩ := c p.1 _ (h p hp)
  exact ⟨ps, h1, h2, fun pos cv z => let ⟨c0, e1, e2⟩ := h3 pos cv z; ⟨c0, e1, hid_le _ _ e2⟩⟩
theorem tab_ne_code {P : Program} {w : World} {a : Addr} {q : Str} {xs : Tb.Rows V} : Tb.TabO P w a xs ≠ LamX.CodeO a q := fun e => by
  unfold Tb.TabO LamX.CodeO at e
  injection e with e
  let ob : Obj := { cls := .none, data := .fields #[.none, .str q 0] }
  let h : Heap := { objs := (List.replicate (a + 1) ob).toArray }
  have hg : h.get? a = some ob := by
    show (match h.objs[a]? with | some ⟨_, _, .freed, _⟩ => none | o => o) = some ob
    have : h.objs[a]? = some ob := by
      show (List.replicate (a + 1) ob).toArray[a]? = some ob
      rw [List.getElem?_toArray, List.getElem?_replicate, if_pos (Nat.lt_succ_self a)]
    rw [this]
  have k : ∃ (oc : Obj) (vs : Array Value) (t : Tok), h.get? a = some oc ∧ oc.data = .fields vs ∧ vs[1]? = some (.str q t) := ⟨ob, _, 0, hg, rfl, rfl⟩
  have e' := congrFun e h
  rw [← e'] at k
  obtain ⟨us, _, o, es, ep, h1, _, h3, _⟩ := k
  rw [hg] at h1
  cases h1
  cases h3
theorem adv_lam {H H2 : Hp} (c : Cells K C H) (eN : LamX.ExtN H H2) (T2 : LamX.Tabs K.tb H2) : Adv K C H C H2 := by
  have nt : ∀ {o : HO}, seen (some o) = some o → ∀ ps, o ≠ .tbl ps := fun {o} h ps e => by
    subst e
    cases h
  have ex : ∀ a o, hid C H a = some o → hid C H2 a = some o := fun a o h => by
    have h1 := eN a o (hid_le a o h) (nt (hid_seen h))
    refine hid_of h1 ?_ (hid_seen h)
    unfold hid at h
    cases e : C a with
    | none => rfl
    | some u => rw [e] at h; cases h
  refine ⟨ex, fun _ h => h, fun a o e => ?_⟩
  have q := c a o e
  have same : ∀ {u : HO}, H a = some u → (∀ ps, u ≠ .tbl ps) → H2 a = H a := fun {u} h n => (eN a u h n).trans h.symm
  cases o with
  | lst xs => exact Cell.up ex (fun _ h => h) (same q.choose_spec.1 (fun ps z => by cases z)) q
  | dic xs => exact Cell.up ex (fun _ h => h) (same q.choose_spec.1 (fun ps z => by cases z)) q
  | tab xs => exact Cell.up ex (fun _ h => h) (same q.choose_spec.1 (fun ps z => by cases z)) q
  | rng lo hi => exact Cell.up ex (fun _ h => h) (same q (fun ps z => by cases z)) q
  | ins cl xs => exact Cell.up ex (fun _ h => h) (same q.choose_spec.choose_spec.1 (fun ps z => by cases z)) q
  | code q0 =>
    obtain ⟨m, ps, h1, h2, h3⟩ := q
    obtain ⟨ps', k1, k2, k3⟩ := T2 (a, q0) m
    refine ⟨m, ps', k1, k2, fun pos cv z => ?_⟩
    obtain ⟨c0, e1, e2⟩ := k3 pos cv z
    refine ⟨c0, e1, hid_of e2 ?_ (by rfl)⟩
    cases hc : C c0 with
    | none => rfl
    | some u =>
      have w := c c0 u hc
      exfalso
      cases u with
      | lst xs =>
        have := eN c0 _ w.choose_spec.1 (fun ps z => by cases z)
        rw [e2] at this
        have := Option.some.inj this
        unfold LamX.CodeO at this
        cases this
      | dic xs =>
        have := eN c0 _ w.choose_spec.1 (fun ps z => by cases z)
        rw [e2] at this
        have := Option.some.inj this
        unfold LamX.CodeO at this
        cases this
      | rng lo hi =>
        have := eN c0 _ w (fun ps z => by cases z)
        rw [e2] at this
        have := Option.some.inj this
        unfold LamX.CodeO at this
        cases this
      | ins cl xs =>
        have := eN c0 _ w.choose_spec.choose_spec.1 (fun ps z => by cases z)
        rw [e2] at this
        have := Option.some.inj this
        unfold LamX.CodeO at this
        cases this
      | tab xs =>
        have := eN c0 _ w.choose_spec.1 (fun ps z => by unfold Tb.TabO at z; cases z)
        rw [e2] at this
        exact tab_ne_code (Option.some.inj this).symm
      | code q1 =>
        obtain ⟨m1, ps1, g1, _⟩ := w
        obtain ⟨ps2, k1', _⟩ := T2 (c0, q1) m1
        have k1' : H2 c0 = some (.tbl ps2) := k1'
        rw [e2] at k1'
        have := Option.some.inj k1'
        unfold LamX.CodeO at this
        cases this
/-! ### sorted -/
theorem paired_dat {F : V → PyData → Prop} {C : Cs} {H : Hp} (h : ∀ v d, F v d → Rx K C H v (.dat d)) : ∀ {vs : List V} {ds : List PyData}, Paired F vs ds → RxA K C H vs (ds.map .dat)
  | _, _, .nil => .nil
  | _, _, .cons a b => .cons (h _ _ a) (paired_dat h b)
theorem dpa_paired {H : Hp} : ∀ {vs : List V} {ds : List PyData}, DpAll K H vs ds → Paired (fun v d => Dp K H v d) vs ds
  | _, _, .nil => .nil
  | _, _, .cons a b => .cons a (dpa_paired b)
theorem pl_srt {tr : TA} {ds : List PyData} (h : PuA K tr Γ C [Ls ds]) (ok : Skl.KeyOk (fun _ => True) (fun d => d) ds) : PuL K (tCB (Skl.rSrt K) tr) Γ C ((Skl.srtD (fun d => d) ds).map .dat) := fun σ H s Q q =>
  h σ H s _ fun vs H1 a r => by
    cases r with
    | cons r1 rt =>
      cases rt
      obtain ⟨p, us, rfl, hs, hd⟩ := sql_of r1
      exact ⟨fun v d => Dp K (hid C H1) v d, p, us, ds, rfl, hs, fun x d z => Dp.up hid_le d z, dpa_paired hd, ok, fun p' zs hp z => q p' zs H1 a hp (paired_dat (fun _ _ z => z) z)⟩
theorem pl_srtL {ds : List PyData} {good : PyData → Prop} {kf : PyData → PyData} (hT : HasT K.tb C) (h : Pu K tl Γ C (Ls ds)) (ok : Skl.KeyOk good kf ds) : PuL K (Skl.tSrtL K.K K.tb good kf tl) Γ C ((Skl.srtD kf ds).map .dat) := fun σ H s Q q =>
  h σ H s _ fun v H1 a r => ⟨tabs_of a.cells hT, fun H2 eN T2 => by
    have a2 := adv_lam a.cells eN T2
    obtain ⟨p, us, rfl, hs, hd⟩ := sql_of (a2.rx r)
    exact ⟨fun v d => Dp K (hid C H2) v d, p, us, ds, rfl, hs, fun x d z => Dp.up hid_le d z, dpa_paired hd, ok, fun p' zs hp z => q p' zs H2 (a.trans a2) hp (paired_dat (fun _ _ z => z) z)⟩⟩
theorem tr_keys {H : Hp} : ∀ {xs : Tb.Rows V} {kvs : List TRow}, Paired (TR K H) xs kvs → Paired (fun v d => Dp K H v d) (xs.map fun x => V.ref x.2.1) (kvs.map (·.2.1))
  | _, _, .nil => .nil
  | _, _, .cons a b => .cons a.2.2.1 (tr_keys b)
theorem tr_at {H : Hp} : ∀ {xs : Tb.Rows V} {kvs : List TRow}, Paired (TR K H) xs kvs → ∀ x ∈ xs, Tb.KeyAt K H x.2.1 x.1
  | _, _, .nil => fun x hx => by cases hx
  | _, _, .cons a b => fun x hx => by
    rcases List.mem_cons.mp hx with rfl | hx
    · exact a.2.1
    · exact tr_at b x hx
theorem tab_at {H : Hp} {D : Addr} {kvs : List TRow} (c : Cells K C H) (hc : C D = some (.tab kvs)) : ∃ xs, Tb.TabAt K.P K.w K H D xs ∧ Paired (TR K (hid C H)) xs kvs := by
  obtain ⟨xs, h1, h2, h3, h4⟩ := c D _ hc
  exact ⟨xs, ⟨h1, h2, h3, fun x hx => KeyAt.up hid_le (tr_at h4 x hx)⟩, h4⟩
theorem pl_srtD {D : Addr} {kvs : List TRow} {good : PyData → Prop} {kf : PyData → PyData} (hT : HasT K.tb C) (h : Pu K tl Γ C (.ref D)) (hc : C D = some (.tab kvs)) (ok : Skl.KeyOk good kf (kvs.map (·.2.1))) :
    PuL K (Skl.tSrtD K.P K.w K.K K.tb good kf tl) Γ C ((Skl.srtD kf (kvs.map (·.2.1))).map .dat) := fun σ H s Q q =>
  h σ H s _ fun v H1 a r => ⟨tabs_of a.cells hT, fun H2 eN T2 => by
    have a2 := adv_lam a.cells eN T2
    obtain ⟨rfl, _⟩ := r
    obtain ⟨xs, t, tr⟩ := tab_at a2.cells hc
    exact ⟨fun v d => Dp K (hid C H2) v d, D, xs, _, rfl, t, fun x d z => Dp.up hid_le d z, tr_keys tr, ok, fun p' zs hp z => q p' zs H2 (a.trans a2) hp (paired_dat (fun _ _ z => z) z)⟩⟩
/-! ### a dict keyed by tuples that changes -/
theorem putL_len (kvs : List TRow) (q : TRow) : (putL kvs q).length ≤ kvs.length + 1 := by
  unfold putL
  split <;> simp
theorem tput_go {D : Addr} {kvs : List TRow} {q : TRow} (hv : Pu K tv Γ C (.dat q.2.2)) (ho : Pu K to Γ C (.ref D)) (hi : Pu K ti Γ C (.dat q.2.1)) (hk : KeyD q.2.1 q.1) (hc : C D = some (.tab kvs)) (hz : kvs.length < 100000) (kk : E.nx Γ (updC C D (.tab (putL kvs q)))) :
    Ds K An (Tb.sTPut K.P K.w K.K to ti tv) E Γ C := fun H0 σ H b0 s D' f =>
  hv σ H s _ fun v H1 a1 r1 => ho σ H1 (a1.sta s) _ fun w H2 a2 r2 => hi σ H2 ((a1.trans a2).sta s) _ fun i' H3 a3 r3 => by
    obtain ⟨rfl, ia⟩ := r2
    obtain ⟨xs, t, tr⟩ := tab_at a3.cells hc
    obtain ⟨b, rfl, kb⟩ := key_at r3 hk
    refine ⟨D, b, xs, q.1, rfl, rfl, t, KeyAt.up hid_le kb, ?_⟩
    have tp := tr_put (q := q) tr (b := b) (v := v) ⟨rfl, kb, r3, (a2.trans a3).rx r1⟩
    have len : (Tb.putX xs q.1 b v).length ≤ sizeLine := by
      have h1 := tp.length
      have h2 := putL_len kvs q
      exact sz (by rw [h1]; omega)
    have ad := Adv.tab (p := D) a3.cells (.inr ia) len t.sys tp
    have al := (a1.trans a2).trans (a3.trans ad)
    exact f.nx Γ _ σ _ (b0.trans al) (al.sta s) kk
theorem ds_tput {D : Addr} {kvs : List TRow} {q : TRow} (hv : Pu K tv Γ C (.dat q.2.2)) (ho : Pu K to Γ C (.ref D)) (hi : Pu K ti Γ C (.dat q.2.1)) (hk : KeyD q.2.1 q.1) (hc : C D = some (.tab kvs)) (hz : kvs.length < 100000) (kk : Ds K An rest E Γ (updC C D (.tab (putL kvs q)))) :
    Ds K An (tSeq (Tb.sTPut K.P K.w K.K to ti tv) rest) E Γ C :=
  ds_seq (M := fun Γ' C' => Γ' = Γ ∧ C' = updC C D (.tab (putL kvs q))) (tput_go hv ho hi hk hc hz ⟨rfl, rfl⟩) (fun Γ' C' ⟨e1, e2⟩ => by subst e1; subst e2; exact kk)
theorem ds_newT {i : Nat} (k : ∀ p, C p = none → Ds K An rest E (Γ.set i (some (.ref p))) (updC C p (.tab []))) : Ds K An (tSeq (tAsg (Tb.tTab0 K.P K.w) (gName i)) rest) E Γ C :=
  ds_setE (P := fun x C' => ∃ p, C p = none ∧ x = .ref p ∧ C' = updC C p (.tab [])) (fun σ H s Q q p hp hsys => by
    have ad := Adv.tab (p := p) s.cells (.inl hp) (Nat.zero_le _) hsys .nil
    exact q _ _ _ _ ad (rx_ref (by rw [updC_same]; rfl)) ⟨p, s.cells.free hp, rfl, rfl⟩) fun x C' ⟨p, e1, e2, e3⟩ => by subst e2; subst e3; exact k p e1
/-! ### loops that fold: one cell changes -/
theorem ds_fold1 {α β : Type} {D : α → PyData} {l : List α} (mk : β → MO) (step : β → α → β) (b0 : β) {P : Addr} {wi : TI} {Γ0 : Gm}
    (h0 : Le Γ0 Γ) (hi : PuI K F0 wi Γ (updC C P (mk b0)) ((l.map D).map .dat))
    (hs : ∀ j a b, l[j]? = some a → b = (l.take j).foldl step b0 → ∃ Γ2 vs, Tg K g (.dat (D a)) Γ0 Γ2 vs ∧
      Ds K (updC C P (mk b0)) t { nx := fun Γ3 C3 => Le Γ0 Γ3 ∧ C3 = updC C P (mk (step b a)), rt := E.rt, ct := fun Γ3 C3 => Le Γ0 Γ3 ∧ C3 = updC C P (mk (step b a)) } Γ2 (updC C P (mk b)))
    (hk : ∀ Γ3, Le Γ0 Γ3 → E.nx Γ3 (updC C P (mk (l.foldl step b0)))) : Ds K An (tFor wi g t) E Γ (updC C P (mk b0)) := by
  refine ds_for1 (fun i Δ C' => Δ = Γ0 ∧ C' = updC C P (mk ((l.take i).foldl step b0))) hi ⟨Γ0, h0, rfl, by rw [List.take_zero]; rfl⟩ (fun _ _ _ _ => trivial) ?_ ?_
  · rintro j x Δ C' hx ⟨rfl, rfl⟩
    obtain ⟨d, hd, rfl⟩ := datget hx
    obtain ⟨a, ha, rfl⟩ : ∃ a, l[j]? = some a ∧ d = D a := by
      rw [List.getElem?_map] at hd
      cases e : l[j]? with
      | none => rw [e] at hd; cases hd
      | some a => rw [e] at hd; cases hd; exact ⟨a, rfl, rfl⟩
    obtain ⟨Γ2, vs, h1, h2⟩ := hs j a _ ha rfl
    have st : step ((l.take j).foldl step b0) a = (l.take (j + 1)).foldl step b0 := by rw [List.take_add_one, ha, List.foldl_append]; rfl
    refine ⟨Γ2, vs, h1, fun H0 σ H b s D f => h2 H0 σ H b s D ⟨fun Γ3 C3 σ3 H3 a3 s3 e => ?_, f.rt, fun Γ3 C3 σ3 H3 a3 s3 e => e.elim, fun Γ3 C3 σ3 H3 a3 s3 e => ?_⟩⟩
    · exact f.nx Γ3 C3 σ3 H3 a3 s3 ⟨_, e.1, rfl, by rw [e.2, st]⟩
    · exact f.ct Γ3 C3 σ3 H3 a3 s3 ⟨_, e.1, rfl, by rw [e.2, st]⟩
  · rintro Γ3 Δ C' le ⟨rfl, rfl⟩
    rw [List.length_map, List.length_map, List.take_length]
    exact hk Γ3 le
theorem ds_fold {α β : Type} {D : α → PyData} {l : List α} (mk : β → MO) (step : β → α → β) (b0 : β) {P : Addr} {wi : TI} {Γ0 : Gm}
    (h0 : Le Γ0 Γ) (hi : PuI K F0 wi Γ (updC C P (mk b0)) ((l.map D).map .dat))
    (hs : ∀ j a b, l[j]? = some a → b = (l.take j).foldl step b0 → ∃ Γ2 vs, Tg K g (.dat (D a)) Γ0 Γ2 vs ∧
      Ds K (updC C P (mk b0)) t { nx := fun Γ3 C3 => Le Γ0 Γ3 ∧ C3 = updC C P (mk (step b a)), rt := E.rt, ct := fun Γ3 C3 => Le Γ0 Γ3 ∧ C3 = updC C P (mk (step b a)) } Γ2 (updC C P (mk b)))
    (hk : Ds K An rest E Γ0 (updC C P (mk (l.foldl step b0)))) : Ds K An (tSeq (tFor wi g t) rest) E Γ (updC C P (mk b0)) :=
  ds_seq (M := fun Γ3 C3 => Le Γ0 Γ3 ∧ C3 = updC C P (mk (l.foldl step b0))) (ds_fold1 mk step b0 h0 hi hs fun Γ3 le => ⟨le, rfl⟩) (fun Γ' C' ⟨le, e⟩ => by subst e; exact ds_weak hk le)
/-! ### a def that makes a lambda -/
theorem ok_defL {mg : Str → Option Value} {base : Heap} {x qual : Str} {st : Stmt} {f c : Addr} {fd : FuncData} {N ps : List Str} {k : Nat} {rel : Cs → List Ax → (Ax → Cs → Prop) → Prop} (F : Fun K.K x qual st f fd) (hc : fd.code = .ref c) (S : FnScope N ps (defScope st))
    (len : ∀ C xs R, rel C xs R → xs.length = ps.length)
    (hb : ∀ (A : Around) (outer : List Env) (s : Shared) (H : Hp) (E : XK), Room k (A.deeper (envOfC qual (defScope st) s.heap.objs.size f (.ref c))) →
      ∃ t, PSs (cxOf CX0 K.P K.w K.K mg base N qual (defScope st) f (.ref c) A outer s H E).nox (defBody st) t ∧ ∀ C xs R, Clo C → rel C xs R → Ds K C t (EnR C R) (stG N xs) C) : FnOk K.P K.w K.K mg base CX0 (k + 1) f fd ps (SpG K rel) := by
  obtain ⟨oc, od, kV, doc, pm, an, cdv, ct, osl, rfl, lk, hcd⟩ := F.ex
  have ec : cdv = .ref c := hc
  subst ec
  refine ⟨fun vs H Q E h => ?_, fun A outer s H args us vs Q E hr e0 hbi rv h => ?_⟩
  · obtain ⟨C, xs, R, _, r, h, _⟩ := h
    exact r.length.trans (len _ _ _ h)
  obtain ⟨C, xs, R, cc, r, h, q⟩ := h
  have hl : vs.length = ps.length := r.length.trans (len _ _ _ h)
  refine LamX.run_ofS lk hcd S hr e0 hbi rv hl fun hr2 => ?_
  obtain ⟨t, ht, hd⟩ := hb A outer s H E hr2
  refine ⟨t, ht.nox, hd C xs R cc.clo h H _ H (Adv.refl cc).a (sta_start cc r) _ ⟨fun Γ C' σ' H' a s' e => ?_, fun x v C' H' a r' e => ?_, fun _ _ _ _ _ _ e => e.elim, fun _ _ _ _ _ _ e => e.elim⟩⟩
  · obtain ⟨y, C2, a2, r2, e2⟩ := Rt.fin a.2 rx_N e
    exact q _ _ C2 H' a2 r2 e2
  · obtain ⟨y, C2, a2, r2, e2⟩ := Rt.fin a.2 r' e
    exact q _ _ C2 H' a2 r2 e2
/-! ### the law's end -/
theorem in_lookup {β : Type} : ∀ {l : List (Addr × β)} {a : Addr} {q : β}, l.lookup a = some q → (a, q) ∈ l
  | [], _, _, e => by simp at e
  | (b, r) :: l, a, q, e => by
    rw [List.lookup_cons] at e
    by_cases h : a = b
    · subst h
      simp at e
      subst e
      exact List.mem_cons_self
    · rw [show (a == b) = false from beq_eq_false_iff_ne.mpr h] at e
      exact List.mem_cons_of_mem _ (in_lookup e)
def startC (tb : List (Addr × Str)) : Cs := fun a => (tb.lookup a).map .code
theorem sp_lawT {rel : Cs → List Ax → (Ax → Cs → Prop) → Prop} {H : Hp} {a : Addr} {ns : List Int} {E : XK} (hb : ∀ p ∈ K.tb, K.tb.lookup p.1 = some p.2) (hH : ∀ p ∈ K.tb, H p.1 = some (.tbl #[])) (hS : SqL K H a (ns.map V.int)) (h : ∀ C (R : Ax → Cs → Prop), HasT K.tb C → R (B true) C → rel C [Ls (ns.map .int)] R) :
    SpG K rel [.ref a] H (fun v _ => v = .bl true) E := by
  have inT : ∀ {b : Addr} {o : MO}, startC K.tb b = some o → ∃ q, (b, q) ∈ K.tb ∧ o = .code q := fun {b o} e => by
    unfold startC at e
    cases hl : K.tb.lookup b with
    | none => rw [hl] at e; cases e
    | some q => rw [hl] at e; cases e; exact ⟨q, in_lookup hl, rfl⟩
  have has : HasT K.tb (startC K.tb) := fun p hp => by unfold startC; rw [hb p hp]; rfl
  have cells : Cells K (startC K.tb) H := fun b o e => by
    obtain ⟨q, hq, rfl⟩ := inT e
    exact ⟨hq, #[], hH (b, q) hq, True.intro, fun pos cv z => by simp [codeAmong] at z⟩
  have up : ∀ o, H a = some o → seen (some o) = some o → hid (startC K.tb) H a = some o := fun o h n => by
    refine hid_of h ?_ n
    cases e : startC K.tb a with
    | none => rfl
    | some u =>
      obtain ⟨q, hq, _⟩ := inT e
      rw [hH (a, q) hq] at h
      cases h
      cases n
  have hS' : SqL K (hid (startC K.tb) H) a (ns.map V.int) := by
    rcases hS with (h | ⟨o, h⟩) | h
    · exact .inl (.inl (up _ h rfl))
    · exact .inl (.inr ⟨o, up _ h rfl⟩)
    · exact .inr h
  refine ⟨startC K.tb, [Ls (ns.map .int)], fun x _ => x = B true, cells, .cons ?_ .nil, h _ _ has rfl, fun v x C' H' _ r e => ?_⟩
  · exact .lst hS' (dpa_ints ns)
  · subst e
    exact rx_bl r
/-- the goal that k_head leaves, where defs named in nm make lambdas -/
theorem walk_ofL {l : PySem.W.OpenLaw} {n k : Nat} {q : Program} {loose : List Str} {XP : (Str → Option Value) → Heap → Prop} {YP : World → Heap → Prop} {d : DefRec} {Kp : Params → PySem.W.Frag} {x : Str}
    (hn : l.most = some n) (hn2 : n ≤ sizeLine) (hdf : d.params.defaults = []) (hr : Room k callerA) (hY : ∀ (w : World) (h : Heap), YP w h → (Kp w.params).In h)
    (F : ∀ (w : World) (mg : Str → Option Value) (fa : Addr) (h : Heap), (Kp w.params).In h → h.Ns mainGlobals mg → mg d.name = some (.ref fa) →
      (∀ (y : Str) (dd : DefRec) (c P : Addr), (recsOf q).find? (fun e => e.name == y) = some dd → PySem.W.tabIn (Kp w.params) y = some (c, P) → PySem.W.CodeHd h c P ∧ h.get? P = some { cls := .none, data := .fields #[] }) → LamX.LawAtS l w (Kp w.params) CX0 k n x mg fa h) :
    PySem.W.WalkO q loose XP YP l.row.toRowW d [] (fun f vs => PySem.call f vs) := by
  refine Att.attach_callB hn hdf fun w s₀ s₁ mg mb fa o pm cd doc a vs ns G Y ho hd hcd hmg hobj hints hlen hbits hg => ?_
  have inK := hY w _ Y
  obtain ⟨fd, cs, sp, t1, t2, t3, bd, spl, ok⟩ := F w mg fa _ inK G.T.g hmg fun y dd c P e1 e2 => PySem.W.tab_of G.T inK e1 e2
  have ln : ns.length ≤ sizeLine := Nat.le_trans hlen hn2
  exact LamX.law_callTs inK G.T.g G.T.b G.T.builtins G.T.nolimit hg t1 t2 t3 G.T.bmain hobj hints ln hr ok bd (fun H e1 e2 => spl H a ns hlen hbits e1 e2) fun _ _ _ z => z
end Ab

/-! Ab18: starred items, the truth of a list that changes, `not in` such a list. -/
namespace Ab
open PySem PySem.Spec PyProof.Rows L2
variable {K : Kw} {An : Anc} {Γ Γ' : Gm} {C : Cs} {ta tb tc te to ti tl tv : TE} {x y z : Ax} {t u rest : TS} {c : TT} {E : En} {g : TG}
theorem au_star {tr : TA} {ds : List PyData} {xs : List Ax} (h : Pu K te Γ C (T ds)) (hr : PuA K tr Γ C xs) : PuA K (StX.tStar K te tr) Γ C (ds.map .dat ++ xs) := fun σ H s Q q =>
  h σ H s _ fun v H1 a1 r1 => by
    cases r1 with
    | tup hs hd =>
      rename_i ad us
      exact ⟨ad, us, rfl, .inl (SqT.up hid_le hs), hr σ H1 (a1.sta s) _ fun vs H2 a2 r2 => q _ H2 (a1.trans a2) (rxa_app (rxa_dat (DpAll.up a2.ex _ hd)) r2)⟩
theorem ut_trM {a : Addr} {xs : List Ax} (h : Pu K te Γ C (.ref a)) (hc : C a = some (.lst xs)) : PuT K (tTruth K te) Γ C (!xs.isEmpty) := fun σ H s Q q => h σ H s _ fun v H1 a1 r => by
  obtain ⟨rfl, _⟩ := r
  obtain ⟨vs, e1, e2⟩ := a1.cells a _ hc
  refine ⟨!xs.isEmpty, .inl ⟨vs, SqL.of e1, ?_⟩, q H1 a1⟩
  have := e2.length
  cases vs <;> cases xs <;> simp_all
theorem dpa_H {H : Hp} {vs : List V} {ds : List PyData} (h : RxA K C H vs (ds.map .dat)) : DpAll K H vs ds := DpAll.up hid_le ds (dat_rxa h)
theorem pu_niM {a : Addr} {d : PyData} {ds : List PyData} (ha : Pu K ta Γ C (.dat d)) (hb : Pu K tb Γ C (.ref a)) (hc : C a = some (.lst (ds.map .dat))) (hd : SeqAt.shaped d = true) (he : SeqAt.shaped (.list ds) = true) : Pu K (tOp (rInA K true) ta tb) Γ C (B (!ds.any fun z => PyData.eqv z d)) :=
  pu_op ha hb fun v w H c r1 r2 Q q => by
    obtain ⟨rfl, _⟩ := r2
    obtain ⟨vs, e1, e2⟩ := c a _ hc
    exact ⟨d, .list ds, ds, rx_dp r1, .lst (SqL.of e1) (dpa_H e2), .inr rfl, hd, he, by rw [if_pos rfl]; exact q _ H (Adv.refl c) rx_B⟩
theorem pu_eqM {a : Addr} {d : PyData} {ds : List PyData} (ha : Pu K ta Γ C (.dat d)) (hb : Pu K tb Γ C (.ref a)) (hc : C a = some (.lst (ds.map .dat))) (hd : SeqAt.shaped d = true) (he : SeqAt.shaped (.list ds) = true) : Pu K (tOp (rEqD K) ta tb) Γ C (B (PyData.eqv d (.list ds))) :=
  pu_op ha hb fun v w H c r1 r2 Q q => by
    obtain ⟨rfl, _⟩ := r2
    obtain ⟨vs, e1, e2⟩ := c a _ hc
    exact ⟨_, _, rx_dp r1, .lst (SqL.of e1) (dpa_H e2), hd, he, q _ H (Adv.refl c) rx_B⟩
theorem kx_orT {X : Cx} {a b : Expr} {ta tb : TE} {rest : List Expr} {pos : Pos} (K : PySem.W.Frag) (h : X.K = K) (ha : PE X a ta) (hb : PE X (.BoolOp .Or (b :: rest) pos) tb) : PE X (.BoolOp .Or (a :: b :: rest) pos) (tOrT K ta tb) := h ▸ pe_orT ha hb
theorem pu_inL {s : Int} {ss : List Int} (ha : Pu K ta Γ C (I s)) (hb : Pu K tb Γ C (Ls (ss.map .int))) : Pu K (tOp (rIn K false) ta tb) Γ C (B (decide (s ∈ ss))) :=
  pu_op ha hb fun v w H c r1 r2 Q q => by
    cases rx_int r1
    cases r2 with
    | lst hs hd =>
      have e := dpa_intsV hd
      subst e
      refine ⟨_, _, rfl, .inl (SqL.up hid_le hs), rfl, flat_ints ss, ?_⟩
      rw [if_neg (by decide), inV_ints]
      exact q _ H (Adv.refl c) rx_B
theorem pu_orT1 {e : PyData} {ds : List PyData} (h : Pu K ta Γ C (T (e :: ds))) : Pu K (tOrT K ta tb) Γ C (T (e :: ds)) := fun σ H s Q q => h σ H s _ fun v H1 a r => by
  cases r with
  | tup hs hd =>
    rename_i ad us
    refine ⟨true, .inr (.inl ⟨us, SqT.up hid_le hs, ?_⟩), ?_⟩
    · have := hd.len
      cases us <;> simp_all
    · rw [if_pos rfl]
      exact q _ H1 a (.tup hs hd)
theorem pu_orT2 (h : Pu K ta Γ C No) (h2 : Pu K tb Γ C x) : Pu K (tOrT K ta tb) Γ C x := fun σ H s Q q => h σ H s _ fun v H1 a r => by
  cases rx_no r
  refine ⟨false, rfl, ?_⟩
  rw [if_neg (by decide)]
  exact h2 σ H1 (a.sta s) _ fun v2 H2 a2 r2 => q v2 H2 (a.trans a2) r2
end Ab
namespace Skl
open PySem PySem.Spec PyProof.Rows L2 LamX
theorem _root_.L2.Room.low {k : Nat} {A : Around} (r : Room k A) : A.depth < recursionLimit := by have := r.dp; omega
theorem mk_pair {X : Cx} {T : List (Addr × Str)} {c P : Addr} {params : Arguments} {scope : Scope} {a : Str} {p p2 p3 p4 p5 : Pos} {x1 : Nat} {j i : Nat} (S : Lam1 scope a) (TB : TabB X.base X.mg c P) (code : X.env.code = .ref c) (mT : (P, X.env.qual ++ "<lambda>") ∈ T) (one : ∀ p ∈ T, p.1 = P → p.2 = X.env.qual ++ "<lambda>")
    (df : defaultsOf params X.env = ([], [])) (bind : ∀ (q : Str) (pm cv ctv v : Value), bindArgs (PySem.W.kla_fn "<lambda>" q params (.Tuple [.Subscript (.Name a p) (.Constant (.int (i : Int)) j p2) p3, .Name a p4] x1 p5) scope [] pm cv ctv) ⟨[v], []⟩ = pure [(a, v)]) (un : X.A.units + 65 < cLine) (room : X.A.depth < recursionLimit) (hd : (a == ("__debug__" : Str)) = false := by decide) :
    MkOk X T c P params (.Tuple [.Subscript (.Name a p) (.Constant (.int (i : Int)) j p2) p3, .Name a p4] x1 p5) scope a (goodI i) (fun d => .tuple [itemK i d, d]) := ⟨S, gives_pair S hd, TB, code, mT, one, df, bind, un, room⟩
theorem mk_item {X : Cx} {T : List (Addr × Str)} {c P : Addr} {params : Arguments} {scope : Scope} {a : Str} {p p2 p3 : Pos} {j i : Nat} (S : Lam1 scope a) (TB : TabB X.base X.mg c P) (code : X.env.code = .ref c) (mT : (P, X.env.qual ++ "<lambda>") ∈ T) (one : ∀ p ∈ T, p.1 = P → p.2 = X.env.qual ++ "<lambda>")
    (df : defaultsOf params X.env = ([], [])) (bind : ∀ (q : Str) (pm cv ctv v : Value), bindArgs (PySem.W.kla_fn "<lambda>" q params (.Subscript (.Name a p) (.Constant (.int (i : Int)) j p2) p3) scope [] pm cv ctv) ⟨[v], []⟩ = pure [(a, v)]) (un : X.A.units + 65 < cLine) (room : X.A.depth < recursionLimit) (hd : (a == ("__debug__" : Str)) = false := by decide) :
    MkOk X T c P params (.Subscript (.Name a p) (.Constant (.int (i : Int)) j p2) p3) scope a (goodI i) (itemK i) := ⟨S, gives_item S hd, TB, code, mT, one, df, bind, un, room⟩
end Skl

/-! Ab19: an own error with one text, raised and caught, over the abstract store. -/
namespace Ab
open PySem PySem.Spec PyProof.Rows L2
/-- __init__(self, what): self.what = what -/
def spRf (RC : Addr) : Sp := fun vs H Q _ => ∃ (a : Addr) (v : V), vs = [.ref a, v] ∧ H a = some (exo a RC none) ∧ ∀ dx, H dx = none → dx ≠ a → Q .non (upd (upd H dx (exd dx [(("what" : Str), v)])) a (exo a RC (some dx)))
/-- what is known of the error's class -/
structure RefT (K : Kw) (mg : Str → Option Value) (base : Heap) (RC fI : Addr) (fd : FuncData) : Prop where
  T : OexC K.K RC
  xf : XfC K.K RC
  no : PySem.W.findIn K.K (.ref RC) "what" = some none
  iC : PySem.W.findIn K.K (.ref RC) "__init__" = some (some (.ref fI))
  tI : PySem.W.typeIn K.K (.ref fI) = some (.type "function")
  F1 : FnOk K.P K.w K.K mg base CX0 1 fI fd ["self", "what"] (spRf RC)
  hb : Binds K.K fd ["self", "what"] []
  gC : mg "Refused" = some (.ref RC)
  te : PySem.W.exmOne K.K (.ref RC) (.ref RC) = some true
theorem exm_self {K : PySem.W.Frag} {S : Addr} (h1 : PySem.W.subIn K (.ref S) (.type "BaseException") = some true) (h2 : PySem.W.isClsIn K S = true) (h3 : PySem.W.typeIn K (.ref S) = some (.type "type")) (h4 : PySem.W.subIn K (.ref S) (.ref S) = some true) : PySem.W.exmOne K (.ref S) (.ref S) = some true := by
  have e1 : (PySem.W.subIn K (.ref S) (.type "BaseException") == some true) = true := by rw [h1]; rfl
  have e2 : ((PySem.W.clsIn K S).isSome && PySem.W.typeIn K (.ref S) == some (.type "type")) = true := by rw [show (PySem.W.clsIn K S).isSome = true from h2, h3]; rfl
  show (if (PySem.W.subIn K (.ref S) (.type "BaseException") == some true) = true then (if ((PySem.W.clsIn K S).isSome && PySem.W.typeIn K (.ref S) == some (.type "type")) = true then PySem.W.subIn K (.ref S) (.ref S) else none) else none) = some true
  rw [if_pos e1, if_pos e2, h4]
section
variable {K : Kw} {mg : Str → Option Value} {base : Heap} {RC : Addr}
theorem ok_refInit {st : Stmt} {fI : Addr} {fd : FuncData} (F : Fun K.K "__init__" "Refused.__init__" st fI fd) (S : FnScope ["self", "what"] ["self", "what"] (defScope st)) (T : OexC K.K RC) (no : PySem.W.findIn K.K (.ref RC) "what" = some none)
    (hb : ∀ (X : Cx), X.K = K.K → X.N = (["self", "what"] : List Str) → X.env.scope = defScope st → PSs X (defBody st) (tOst K.K "what" (tVar 0) (tVar 1))) : FnOk K.P K.w K.K mg base CX0 1 fI fd ["self", "what"] (spRf RC) := by
  refine F.ok S (fun vs H Q E ⟨a, v, h, _⟩ => by rw [h]; rfl) (fun cdv A outer s H vs Q E hr h => ⟨_, hb _ rfl rfl rfl, ?_⟩)
  obtain ⟨a, v, rfl, ha, q⟩ := h
  exact ⟨_, rfl, _, rfl, a, RC, rfl, T, no, .inl ⟨ha, fun dx h1 h2 => q dx h1 h2⟩⟩
end
abbrev RelX := Cs → List Ax → (Ax → Cs → Prop) → (Str → Prop) → Prop
/-- as SpG, for a def that may refuse -/
def SpX (K : Kw) (RC : Addr) (rel : RelX) : Sp := fun vs H Q E => ∃ C xs P EX, Cells K C H ∧ RxA K C H vs xs ∧ rel C xs P EX ∧ (∀ v x C' H', Adv K C H C' H' → Rx K C' H' v x → P x C' → Q v H') ∧
  ∀ (s : Str) (d : Addr) (H' : Hp), Adv K C H C H' → H' d = some (.xd [(("what" : Str), V.str s)]) → EX s → E (.ref RC) (some d) H'
/-- a refusal that is told from here is taken -/
def RsOk (K : Kw) (RC : Addr) (W : WX) (C : Cs) (EX : Str → Prop) (H0 : Hp) : Prop := ∀ (s : Str) (d : Addr) (σ : L2.St) (H' : Hp), Adv K C H0 C H' → H' d = some (.xd [(("what" : Str), V.str s)]) → EX s → W (.ref RC) (some d) σ H'
variable {K : Kw} {An : Anc} {Γ Γ' : Gm} {C : Cs} {ta tb tc te to ti : TE} {x y z : Ax} {t u rest : TS} {c : TT} {E : En} {g : TG} {RC : Addr}
theorem adv_sbs {C0 C1 : Cs} {H0 H : Hp} (a : Adv K C0 H0 C1 H) (cl : Clo C0) (sb : Sbs C0 C1) : Adv K C0 H0 C0 H := ⟨fun b o e => hid_sbs sb b o (a.ex b o e), fun _ h => h, cells_sbs sb cl a.cells⟩
abbrev tRaise (RC : Addr) (W : WX) (ta : TA) : TS := fun _ σ H => tMkO RC (spRf RC) [] ta σ H fun cls d H' => W cls d σ H'
theorem ds_raise {W : WX} {EX : Str → Prop} {s : Str} (hok : ∀ H0, An.ok H0 → RsOk K RC W An.C EX H0) (cl : Clo An.C) (sb : Sbs An.C C) (h : Pu K te Γ C (S s)) (k : EX s) : Ds K An (tRaise RC W (tCons te tNil)) E Γ C := fun H0 σ H b0 st D f =>
  h σ H st _ fun v H1 a r => by
    obtain rfl := rx_str r
    refine ⟨by show 1 ≤ 1000; decide, fun e he => ⟨e, .str s, rfl, upd_same, fun dx hdx ne => ⟨rfl, dx, [(("what" : Str), V.str s)], upd_same, (upd_ne ne).trans upd_same, (upd_ne ne).symm.trans hdx, ?_⟩⟩⟩
    have h1 : H1 dx = none := (upd_ne ne).symm.trans hdx
    have e1 : upd (L2.del (upd (upd (upd H1 e (exo e RC none)) dx (exd dx [(("what" : Str), V.str s)])) e (exo e RC (some dx))) e) dx (.xd [(("what" : Str), V.str s)]) = upd H1 dx (.xd [(("what" : Str), V.str s)]) := by
      funext b
      by_cases hb : b = dx
      · subst hb; rw [upd_same, upd_same]
      · rw [upd_ne hb, upd_ne hb]
        by_cases hc : b = e
        · subst hc; rw [L2.del_same, he]
        · rw [L2.del_ne hc, upd_ne hc, upd_ne hb, upd_ne hc]
    rw [e1]
    have a2 := Adv.new (o := .xd [(("what" : Str), V.str s)]) a.cells h1
    exact hok H0 b0.1 s dx σ _ (adv_sbs ((b0.trans a).trans a2).2 cl sb) upd_same k
theorem ok_defX {mg : Str → Option Value} {base : Heap} {x qual : Str} {st : Stmt} {f : Addr} {fd : FuncData} {N ps : List Str} {k : Nat} {rel : RelX} (F : Fun K.K x qual st f fd) (S : FnScope N ps (defScope st))
    (len : ∀ C xs R EX, rel C xs R EX → xs.length = ps.length)
    (hb : ∀ (cdv : Value) (A : Around) (outer : List Env) (s : Shared) (H : Hp) (E : XK), Room k (A.deeper (envOfC qual (defScope st) s.heap.objs.size f cdv)) →
      ∃ t, PSs (cxOf (L2.CX K.P K.w) K.P K.w K.K mg base N qual (defScope st) f cdv A outer s H E) (defBody st) t ∧ ∀ C xs R EX, Clo C → rel C xs R EX → Ds K { C := C, ok := RsOk K RC (fun cls d _ H => E cls d H) C EX } t (EnR C R) (stG N xs) C) : FnOk K.P K.w K.K mg base (L2.CX K.P K.w) (k + 1) f fd ps (SpX K RC rel) := by
  refine F.okX S (fun vs H Q E h => ?_) (fun cdv A outer s H vs Q E hr h => ?_)
  · obtain ⟨C, xs, R, EX, _, r, h, _⟩ := h
    rw [r.length]
    exact len _ _ _ _ h
  · obtain ⟨C, xs, R, EX, c, r, h, q, qe⟩ := h
    obtain ⟨t, ht, hd⟩ := hb cdv A outer s H E hr
    refine ⟨t, ht, hd C xs R EX c.clo h H _ H ⟨fun s d σ H' a e k => qe s d H' a e k, Adv.refl c⟩ (sta_start c r) _ ⟨fun Γ C' σ' H' a s' e => ?_, fun x v C' H' a r' e => ?_, fun _ _ _ _ _ _ e => e.elim, fun _ _ _ _ _ _ e => e.elim⟩⟩
    · obtain ⟨y, C2, a2, r2, e2⟩ := Rt.fin a.2 rx_N e
      exact q _ _ C2 H' a2 r2 e2
    · obtain ⟨y, C2, a2, r2, e2⟩ := Rt.fin a.2 r' e
      exact q _ _ C2 H' a2 r2 e2
/-- return f(..), f may refuse; what it refuses goes on -/
theorem ds_retX {W : WX} {rel : RelX} {tr : TA} {xs : List Ax} {P : Ax → Cs → Prop} {EX EX2 : Str → Prop} (hok : ∀ H0, An.ok H0 → RsOk K RC W An.C EX2 H0) (cl : Clo An.C) (sb : Sbs An.C C) (h : PuA K tr Γ C xs) (hr : rel C xs P EX) (hp : ∀ x C', P x C' → E.rt x C') (he : ∀ s, EX s → EX2 s) :
    Ds K An (tRet (tCallS (SpX K RC rel) (WE W) tr)) E Γ C := fun H0 σ H b0 st D f =>
  h σ H st _ fun vs H1 a r => ⟨C, xs, P, EX, a.cells, r, hr, fun v x C' H' a2 rx p => f.rt x v C' H' ((b0.trans a).trans a2) rx (hp x C' p), fun s d H' a2 e k => hok H0 b0.1 s d σ H' (adv_sbs ((b0.trans a).trans a2).2 cl sb) e (he s k)⟩
/-- try: return f(..) except Refused as e: return e.what -/
theorem ds_tryRet {rel : RelX} {tr : TA} {xs : List Ax} {P : Ax → Cs → Prop} {EX : Str → Prop} {i : Nat} (te : PySem.W.exmOne K.K (.ref RC) (.ref RC) = some true) (h : PuA K tr Γ C xs) (hi : i < Γ.length) (hr : rel C xs P EX) (hp : ∀ x C', P x C' → E.rt x C') (he : ∀ s, EX s → E.rt (S s) C) :
    Ds K An (fun D σ H => tRet (tCallS (SpX K RC rel) (WE (wAs K.K (.ref RC) i (fun a cls d => tRet (tXf a cls d RC "what" (tVar i))) (fun _ _ _ _ => False) D)) tr) D σ H) E Γ C := fun H0 σ H b0 st D f =>
  h σ H st _ fun vs H1 a r => ⟨C, xs, P, EX, a.cells, r, hr, fun v x C' H' a2 rx p => f.rt x v C' H' ((b0.trans a).trans a2) rx (hp x C' p), fun s d H' a2 e k => ⟨true, te, fun _ b _ => by
    refine ⟨_, List.getElem?_set_self (by rw [st.len]; exact hi), rfl, rfl, d, _, V.str s, rfl, e, rfl, ?_⟩
    exact f.rt (S s) _ C H' ((b0.trans a).trans a2) rx_S (he s k), fun q => nomatch q⟩⟩
end Ab

/-! Obj: instances over the abstract store: attributes, methods (that may refuse), new ones; a try of any body. -/
namespace L2
open PySem PySem.Spec PyProof.Rows
/-- o.m(..), what it refuses lies as E says at the slots -/
def tMethX (C : Addr) (m : Str) (sp : Sp) (E : St → XK) (ta : TE) (t : TA) : TE := fun σ H Q => ta σ H fun x H1 => ∃ a dx fs, x = .ref a ∧ H1 a = some (.ins C dx fs) ∧ fs.lookup m = none ∧ t σ H1 fun vs H2 => sp (x :: vs) H2 Q (E σ)
section
variable {X : Cx} {CX : CXT} {k : Nat} {f C : Addr} {fd : FuncData} {ps : List Str} {sp : Sp} {E : St → XK} {x m : Str} {q pos apos pos' : Pos} {e o value : Expr} {es : List Expr} {ta tv : TE} {t : TA}
theorem pe_methX {pl : Sem Bool} (he : PE X o ta) (c : Cls X.K C) (hm : Meth X.K C m f) (F : FnOk X.prog X.w X.K X.mg X.base CX k f fd ps sp) (hr : Room k X.A) (hb : Binds X.K fd ps []) (hx : ∀ σ, PassesAt CX X σ (E σ)) (ha : PA X (e :: es) t)
    (hst : starEach (e :: es) X.env = (false, eval e X.env) :: starEach es X.env := by rfl) (hpl : (backTo pos (starEach es X.env)).any (·.1) = false := by rfl)
    (ht : eval (.Call (.Attribute o m apos) (e :: es) [] pos) X.env = (do
      let ov ← eval o X.env
      standAt apos.atName
      let (f, first) ← holding [ov] (getMethod ov m pl)
      callWith pos f first (backTo pos (starEach (e :: es) X.env)) (backToKw pos (keywordEach [] X.env))) := by rfl) :
    PE X (.Call (.Attribute o m apos) (e :: es) [] pos) (tMethX C m sp E ta t) := by
  refine ⟨fun pins s σ H Q I h => ?_⟩
  refine PySem.W.methodCall_KW (pl := pl) (thn (he.run pins s σ H _ I h) fun u s1 ⟨x, H1, I1, rx, a, dx, fs, ex, ea, l, q⟩ => ?_) ht
  subst ex
  obtain rfl : u = Value.ref a := rx
  refine getmeth_ok I1 ea c hm l ?_
  refine PySem.W.callWith_K (first := [.ref a]) (h₀ := X.base) I.ok.mod.kin hm.kp (thn (ha.run pos pins s1 σ H1 _ I1 q) fun us s2 ⟨vs, H2, I2, r, q2⟩ => ⟨I2.kIn, ?_⟩) hst hpl
  exact run_fnS (us := .ref a :: us) (vs := .ref a :: vs) F hr hb (hx σ) I2 (.cons rfl r) q2
theorem pe_methX0 {pl : Sem Bool} (he : PE X o ta) (c : Cls X.K C) (hm : Meth X.K C m f) (F : FnOk X.prog X.w X.K X.mg X.base CX k f fd ps sp) (hr : Room k X.A) (hb : Binds X.K fd ps []) (hx : ∀ σ, PassesAt CX X σ (E σ))
    (ht : eval (.Call (.Attribute o m apos) [] [] pos) X.env = (do
      let ov ← eval o X.env
      standAt apos.atName
      let (f, first) ← holding [ov] (getMethod ov m pl)
      callWith pos f first (backTo pos (starEach [] X.env)) (backToKw pos (keywordEach [] X.env))) := by rfl) :
    PE X (.Call (.Attribute o m apos) [] [] pos) (tMethX C m sp E ta tNil) := by
  refine ⟨fun pins s σ H Q I h => ?_⟩
  refine PySem.W.methodCall_KW (pl := pl) (thn (he.run pins s σ H _ I h) fun u s1 ⟨x, H1, I1, rx, a, dx, fs, ex, ea, l, q⟩ => ?_) ht
  subst ex
  obtain rfl : u = Value.ref a := rx
  refine getmeth_ok I1 ea c hm l ?_
  exact PySem.W.callWith_K0 (first := [.ref a]) I1.kIn hm.kp (run_fnS (us := [.ref a]) (vs := [.ref a]) F hr hb (hx σ) I1 (.cons rfl .nil) q)
theorem kx_fld (K : PySem.W.Frag) (h : X.K = K) (he : PE X e ta) (hb : attributeBase e x X.env (eval e X.env) = eval e X.env) : PE X (.Attribute e x pos) (tFld K ta x) := h ▸ pe_fld he hb
theorem kx_sfld (K : PySem.W.Frag) (h : X.K = K) (ha : PE X o ta) (hv : PE X value tv) (hs : swapsWith value (some (.Attribute o x pos')) pos.line X.env = pure false) : PS X (.Assign [.Attribute o x pos'] value pos) (sFld K ta tv x) := h ▸ ps_fld ha hv hs
theorem kx_fldaug (K : PySem.W.Frag) (h : X.K = K) {op : Operator} {rd : V → V → Hp → VK → Prop} {tpos : Pos} (ha : PE X o ta) (hv : PE X value tv) (hop : InOp X op rd) : PS X (.AugAssign (.Attribute o x tpos) op value pos) (sFldAug K ta tv rd x) := h ▸ ps_fldaug ha hv hop
end
/-- try: tb, except the class at RC as slot i: ts -/
def tTryR (K : PySem.W.Frag) (RC : Addr) (i : Nat) (ts : Addr → Value → Option Addr → TS) (Wout : WX) (tb : WX → TS) : TS := fun D σ H => tb (wAs K (.ref RC) i ts Wout D) D σ H
theorem ps_tryR {X : Cx} (K : PySem.W.Frag) (h : X.K = K) {RC : Addr} {x n : Str} {i : Nat} {body suite : List Stmt} {b₀ : Stmt} {np pos pos' : Pos} {tb : WX → TS} {ts : Addr → Value → Option Addr → TS} {Wout : WX} (hs : X.stack = X.env :: X.outer) (hf : X.env.frame = some X.env.locals) (hN : X.N.Nodup) (hi : X.N[i]? = some n) (hln : X.env.kindOf n = some .local) (hc : Names X x (.ref RC)) (tk : Takes X Wout)
    (hb : ∀ (W : WX) (pn : List (Addr × Obj)) (xe : Value → Shared → Prop), Takes (X.tr pn xe) W → PassesOwn (model X.prog X.w) X.A X.env xe → PSs (X.tr pn xe) body (tb W))
    (hsu : ∀ (a : Addr) (oe : Obj) (cls : Value) (d : Option Addr) (pn : List (Addr × Obj)), Zc cls d oe → (∃ vs, oe.data = .fields vs) → PSs (X.suite a ((a, oe) :: pn)) (b₀ :: suite) (ts a cls d)) :
    PS X (.Try body [.ExceptHandler (some (.Name x np)) (some n) (b₀ :: suite) pos'] [] [] pos) (tTryR K RC i ts Wout tb) := h ▸ ps_try_as hs hf hN hi hln hc tk hb hsu
end L2
namespace Ab
open PySem PySem.Spec PyProof.Rows L2
variable {K : Kw} {An : Anc} {Γ Γ' : Gm} {C : Cs} {ta tv te to ti : TE} {tr : TA} {x y z : Ax} {t u rest : TS} {E : En} {RC CL a : Addr} {kvs : List (Str × Ax)} {f m : Str} {xs : List Ax}
def putA (f : Str) (x : Ax) : List (Str × Ax) → List (Str × Ax)
  | [] => [(f, x)]
  | (g, y) :: r => if g = f then (g, x) :: r else (g, y) :: putA f x r
theorem rxf_put {H : Hp} {v : V} (r : Rx K C H v x) : ∀ {vs : List (Str × V)} {xs : List (Str × Ax)}, RxF K C H vs xs → RxF K C H (putF f v vs) (putA f x xs)
  | _, _, .nil => .cons ⟨rfl, r⟩ .nil
  | (g, w) :: vs, (g', y) :: xs, .cons h t => by
    obtain ⟨e, ry⟩ := h
    have e : g = g' := e
    subst e
    show RxF K C H (if g = f then (g, v) :: vs else (g, w) :: putF f v vs) (if g = f then (g, x) :: xs else (g, y) :: putA f x xs)
    by_cases hg : g = f
    · rw [if_pos hg, if_pos hg]
      exact .cons ⟨rfl, r⟩ t
    · rw [if_neg hg, if_neg hg]
      exact .cons ⟨rfl, ry⟩ (rxf_put r t)
theorem rxf_get {H : Hp} : ∀ {vs : List (Str × V)} {xs : List (Str × Ax)}, RxF K C H vs xs → xs.lookup f = some x → ∃ v, vs.lookup f = some v ∧ Rx K C H v x
  | _, _, .nil, h => by cases h
  | (g, w) :: vs, (g', y) :: xs, .cons h t, e => by
    obtain ⟨e1, ry⟩ := h
    have e1 : g = g' := e1
    subst e1
    rw [List.lookup_cons] at e ⊢
    cases hb : f == g with
    | true =>
      rw [hb] at e
      cases e
      exact ⟨w, rfl, ry⟩
    | false =>
      rw [hb] at e
      exact rxf_get t e
theorem rxf_none {H : Hp} : ∀ {vs : List (Str × V)} {xs : List (Str × Ax)}, RxF K C H vs xs → xs.lookup f = none → vs.lookup f = none
  | _, _, .nil, h => rfl
  | (g, w) :: vs, (g', y) :: xs, .cons h t, e => by
    obtain ⟨e1, ry⟩ := h
    have e1 : g = g' := e1
    subst e1
    rw [List.lookup_cons] at e ⊢
    cases hb : f == g with
    | true =>
      rw [hb] at e
      cases e
    | false =>
      rw [hb] at e
      exact rxf_none t e
/-- an instance's attributes change -/
theorem Adv.setI {H : Hp} {p dx : Addr} {fs : List (Str × V)} (c : Cells K C H) (hp : (C p).isSome = true) (r : RxF K C H fs kvs) : Adv K C H (updC C p (.ins CL kvs)) (upd H p (.ins CL dx fs)) := by
  have ex : ∀ a u, hid C H a = some u → hid (updC C p (.ins CL kvs)) (upd H p (.ins CL dx fs)) a = some u := fun a u h => by
    have ne : a ≠ p := fun z => by
      subst z
      unfold hid at h
      rw [if_pos hp] at h
      cases h
    unfold hid at h ⊢
    rw [upd_ne ne, updC_ne ne]
    exact h
  refine ⟨ex, updC_sub, fun a u e => ?_⟩
  · by_cases ha : a = p
    · subst ha
      rw [updC_same] at e
      cases e
      exact ⟨dx, fs, upd_same, Paired.map2 r fun _ _ q => ⟨q.1, Rx.up ex updC_sub q.2⟩⟩
    · rw [updC_ne ha] at e
      exact Cell.up ex updC_sub (upd_ne ha) (c a u e)
/-- a new instance -/
theorem Adv.newI {H : Hp} {p dx : Addr} (c : Cells K C H) (hp : H p = none) (hd : H dx = none) (ne0 : dx ≠ p) : Adv K C H (updC C p (.ins CL [])) (upd (upd H dx (.own p)) p (.ins CL dx [])) := by
  have a1 := Adv.new (o := .own p) c hd
  refine a1.trans ?_
  have hp1 : upd H dx (.own p) p = none := by rw [upd_ne ne0.symm]; exact hp
  generalize upd H dx (.own p) = H1 at a1 hp1
  have ex : ∀ a u, hid C H1 a = some u → hid (updC C p (.ins CL [])) (upd H1 p (.ins CL dx [])) a = some u := fun a u h => by
    have h1 := hid_le a u h
    have ne : a ≠ p := ne_of_none h1 hp1
    unfold hid at h ⊢
    rw [upd_ne ne, updC_ne ne]
    exact h
  refine ⟨ex, updC_sub, fun a u e => ?_⟩
  · by_cases ha : a = p
    · subst ha
      rw [updC_same] at e
      cases e
      exact ⟨dx, [], upd_same, .nil⟩
    · rw [updC_ne ha] at e
      exact Cell.up ex updC_sub (upd_ne ha) (a1.cells a u e)
/-- what is known of a class -/
structure ClsT (K : Kw) (mg : Str → Option Value) (CL : Addr) (cn : Str) (fl : List Str) : Prop where
  cl : Cls K.K CL
  no : ∀ f ∈ fl, NoAttr K.K CL f
  gC : mg cn = some (.ref CL)
theorem pl_eqL {ys : List Ax} (h : PuL K te Γ C xs) (e : xs = ys) : PuL K te Γ C ys := e ▸ h
theorem au_is {ys : List Ax} (h : PuA K tr Γ C xs) (e : xs = ys) : PuA K tr Γ C ys := e ▸ h
/-! ### attributes -/
theorem pu_fld (h : Pu K te Γ C (.ref a)) (hc : C a = some (.ins CL kvs)) (T : Cls K.K CL) (n : NoAttr K.K CL f) (hf : kvs.lookup f = some x) : Pu K (tFld K te f) Γ C x := fun σ H s Q q =>
  h σ H s _ fun v H1 a1 r => by
    obtain ⟨rfl, _⟩ := r
    obtain ⟨dx, vs, e1, e2⟩ := a1.cells a _ hc
    obtain ⟨w, e3, e4⟩ := rxf_get e2 hf
    exact ⟨a, CL, dx, vs, w, rfl, e1, T, n, e3, q w H1 a1 e4⟩
theorem ds_sfldE {P : Ax → Cs → Prop} (hv : Ev K tv Γ C P) (T : Cls K.K CL) (n : NoAttr K.K CL f) (k : ∀ y C', P y C' → ∃ a kvs, Pu K te Γ C' (.ref a) ∧ C' a = some (.ins CL kvs) ∧ kvs.length < 1000 ∧ Ds K An rest E Γ (updC C' a (.ins CL (putA f y kvs)))) : Ds K An (tSeq (sFld K te tv f) rest) E Γ C := fun H0 σ H b0 s D fi =>
  hv σ H s _ fun w y C1 H1 a1 r1 p => by
    obtain ⟨a, kvs, h, hc, hl, kk⟩ := k y C1 p
    refine h σ H1 (a1.sta s) _ fun v H2 a2 r => ?_
    obtain ⟨rfl, ia⟩ := r
    obtain ⟨dx, vs, e1, e2⟩ := a2.cells a _ hc
    have b := Adv.setI (CL := CL) (dx := dx) a2.cells ia (rxf_put (f := f) (a2.rx r1) e2)
    exact ⟨a, CL, dx, vs, rfl, e1, T, n, by rw [Paired.length e2]; exact hl, kk H0 σ _ (((b0.trans a1).trans a2).trans b) (b.sta (a2.sta (a1.sta s))) D fi⟩
theorem ds_sfld (hv : Pu K tv Γ C y) (h : Pu K te Γ C (.ref a)) (hc : C a = some (.ins CL kvs)) (T : Cls K.K CL) (n : NoAttr K.K CL f) (hl : kvs.length < 1000) (k : Ds K An rest E Γ (updC C a (.ins CL (putA f y kvs)))) : Ds K An (tSeq (sFld K te tv f) rest) E Γ C :=
  ds_sfldE hv.ev T n fun y' C' ⟨e1, e2⟩ => by
    subst e1; subst e2
    exact ⟨a, kvs, h, hc, hl, k⟩
theorem ds_sfld1 (hv : Pu K tv Γ C y) (h : Pu K te Γ C (.ref a)) (hc : C a = some (.ins CL kvs)) (T : Cls K.K CL) (n : NoAttr K.K CL f) (hl : kvs.length < 1000) (k : E.nx Γ (updC C a (.ins CL (putA f y kvs)))) : Ds K An (sFld K te tv f) E Γ C :=
  show Ds K An (tSeq (sFld K te tv f) tNext) E Γ C from ds_sfld hv h hc T n hl (ds_next k)
theorem ds_sfldL {zs : List Ax} (hv : PuL K tv Γ C zs) (h : ∀ C', Mor C C' → Pu K te Γ C' (.ref a)) (hc : C a = some (.ins CL kvs)) (T : Cls K.K CL) (n : NoAttr K.K CL f) (hl : kvs.length < 1000) (k : ∀ p, C p = none → Ds K An rest E Γ (updC (updC C p (.lst zs)) a (.ins CL (putA f (.ref p) kvs)))) : Ds K An (tSeq (sFld K te tv f) rest) E Γ C :=
  ds_sfldE (ev_new hv) T n fun y' C' ⟨p, e0, e1, e2⟩ => by
    subst e1; subst e2
    exact ⟨a, kvs, h _ (Mor.upd e0), (Mor.upd e0).at_ hc, hl, k p e0⟩
theorem ds_sfldL1 {zs : List Ax} (hv : PuL K tv Γ C zs) (h : ∀ C', Mor C C' → Pu K te Γ C' (.ref a)) (hc : C a = some (.ins CL kvs)) (T : Cls K.K CL) (n : NoAttr K.K CL f) (hl : kvs.length < 1000) (k : ∀ p, C p = none → E.nx Γ (updC (updC C p (.lst zs)) a (.ins CL (putA f (.ref p) kvs)))) : Ds K An (sFld K te tv f) E Γ C :=
  show Ds K An (tSeq (sFld K te tv f) tNext) E Γ C from ds_sfldL hv h hc T n hl fun p hp => ds_next (k p hp)
/-- o.f += i -/
theorem ds_fldaug {i j : Int} (h : Pu K te Γ C (.ref a)) (hv : Pu K tv Γ C (I j)) (hc : C a = some (.ins CL kvs)) (T : Cls K.K CL) (n : NoAttr K.K CL f) (hf : kvs.lookup f = some (I i)) (hl : kvs.length < 1000) (k : Ds K An rest E Γ (updC C a (.ins CL (putA f (I (i + j)) kvs)))) : Ds K An (tSeq (sFldAug K te tv L2.rAdd f) rest) E Γ C := fun H0 σ H b0 s D fi =>
  h σ H s _ fun v H1 a1 r => by
    obtain ⟨rfl, ia⟩ := r
    obtain ⟨dx, vs, e1, e2⟩ := a1.cells a _ hc
    obtain ⟨w, e3, e4⟩ := rxf_get e2 hf
    cases rx_int e4
    refine ⟨a, CL, dx, vs, _, rfl, e1, T, n, e3, hv σ H1 (a1.sta s) _ fun w2 H2 a2 r2 => ?_⟩
    cases rx_int r2
    obtain ⟨dx2, vs2, e5, e6⟩ := a2.cells a _ hc
    have b := Adv.setI (CL := CL) (dx := dx2) a2.cells ia (rxf_put (f := f) (rx_I (i := i + j)) e6)
    exact ⟨i, j, rfl, rfl, dx2, vs2, e5, by rw [Paired.length e6]; exact hl, k H0 σ _ (((b0.trans a1).trans a2).trans b) (b.sta (a2.sta (a1.sta s))) D fi⟩
/-! ### methods -/
theorem ev_meth {rel : Cs → List Ax → (Ax → Cs → Prop) → Prop} {XE : XK} {P : Ax → Cs → Prop} (h : Pu K te Γ C (.ref a)) (hc : C a = some (.ins CL kvs)) (hm : kvs.lookup m = none) (hs : PuA K tr Γ C xs) (hr : rel C (.ref a :: xs) P) : Ev K (tMeth CL m (SpG K rel) [] XE te tr) Γ C P := fun σ H s Q q =>
  h σ H s _ fun v H1 a1 r => by
    obtain ⟨rfl, ia⟩ := r
    obtain ⟨dx, vs, e1, e2⟩ := a1.cells a _ hc
    refine ⟨a, dx, vs, rfl, e1, rxf_none e2 hm, hs σ H1 (a1.sta s) _ fun ws H2 a2 rs => ?_⟩
    rw [List.append_nil]
    exact ⟨C, .ref a :: xs, P, a2.cells, .cons ⟨rfl, ia⟩ rs, hr, fun v x C' H' a3 rx p => q v x C' H' ((a1.trans a2).trans a3) rx p⟩
theorem ev_pu {te : TE} (h : Ev K te Γ C fun y C2 => y = x ∧ C2 = C) : Pu K te Γ C x := fun σ H s Q q => h σ H s Q fun v y C2 H2 a r ⟨e1, e2⟩ => by
  subst e1; subst e2
  exact q v H2 a r
theorem pu_meth {rel : Cs → List Ax → (Ax → Cs → Prop) → Prop} {XE : XK} (h : Pu K te Γ C (.ref a)) (hc : C a = some (.ins CL kvs)) (hm : kvs.lookup m = none) (hs : PuA K tr Γ C xs) (hr : rel C (.ref a :: xs) fun y C2 => y = x ∧ C2 = C) : Pu K (tMeth CL m (SpG K rel) [] XE te tr) Γ C x :=
  ev_pu (ev_meth h hc hm hs hr)
/-- C(..) -/
theorem ev_make {rel : Cs → List Ax → (Ax → Cs → Prop) → Prop} {XE : XK} {P : Ax → Cs → Prop} (h : PuA K tr Γ C xs) (hr : ∀ p, C p = none → rel (updC C p (.ins CL [])) (.ref p :: xs) fun y C' => y = No ∧ P (.ref p) C') : Ev K (tMake CL (SpG K rel) [] XE tr) Γ C P := fun σ H s Q q =>
  h σ H s _ fun vs H1 a1 r p dx h1 h2 ne => by
    rw [List.append_nil]
    have b := Adv.newI (CL := CL) a1.cells h1 h2 ne
    have ip : (updC C p (.ins CL []) p).isSome = true := by rw [updC_same]; rfl
    refine ⟨_, .ref p :: xs, _, b.cells, .cons (rx_ref ip) (Paired.map2 r fun _ _ z => b.rx z), hr p (a1.cells.free h1), fun v x C' H' a3 rx ⟨e, k⟩ => ?_⟩
    subst e
    exact ⟨rx_no rx, q _ _ C' H' ((a1.trans b).trans a3) (a3.rx (rx_ref ip)) k⟩
/-! ### what may refuse, with the slots' number known -/
def RsN (K : Kw) (RC : Addr) (W : WX) (C : Cs) (EX : Str → Prop) (n : Nat) (H0 : Hp) : Prop := ∀ (s : Str) (d : Addr) (σ : L2.St) (H' : Hp), σ.length = n → Adv K C H0 C H' → H' d = some (.xd [(("what" : Str), V.str s)]) → EX s → W (.ref RC) (some d) σ H'
theorem rsN {W : WX} {EX : Str → Prop} {n : Nat} {H0 : Hp} (h : RsOk K RC W C EX H0) : RsN K RC W C EX n H0 := fun s d σ H' _ => h s d σ H'
theorem ds_dropX {W : WX} {rel : RelX} {P : Ax → Cs → Prop} {EX EX2 : Str → Prop} (hok : ∀ H0, An.ok H0 → RsN K RC W An.C EX2 Γ.length H0) (cl : Clo An.C) (sb : Sbs An.C C) (h : PuA K tr Γ C xs) (hr : rel C xs P EX) (he : ∀ s, EX s → EX2 s) (k : ∀ x C', P x C' → Ds K An rest E Γ C') :
    Ds K An (tSeq (tDrop (tCallS (SpX K RC rel) (WE W) tr)) rest) E Γ C := fun H0 σ H b0 st D f =>
  h σ H st _ fun vs H1 a r => ⟨C, xs, P, EX, a.cells, r, hr, fun v x C' H' a2 rx p => k x C' p H0 σ H' ((b0.trans a).trans a2) ((a.trans a2).sta st) D f, fun s d H' a2 e k => hok H0 b0.1 s d σ H' st.len (adv_sbs ((b0.trans a).trans a2).2 cl sb) e (he s k)⟩
/-- a method that may refuse -/
def EvX (K : Kw) (RC : Addr) (W : WX) (An : Anc) (EX2 : Str → Prop) (te : TE) (Γ : Gm) (C : Cs) (P : Ax → Cs → Prop) : Prop := ∀ H0 σ H, AdvA K An H0 C H → Sta K Γ C σ H → ∀ Q : VK, (∀ v x C2 H2, Adv K C H C2 H2 → Rx K C2 H2 v x → P x C2 → Q v H2) → te σ H Q
theorem ex_meth {W : WX} {rel : RelX} {P : Ax → Cs → Prop} {EX EX2 : Str → Prop} (hok : ∀ H0, An.ok H0 → RsN K RC W An.C EX2 Γ.length H0) (cl : Clo An.C) (sb : Sbs An.C C) (h : Pu K te Γ C (.ref a)) (hc : C a = some (.ins CL kvs)) (hm : kvs.lookup m = none) (hs : PuA K tr Γ C xs) (hr : rel C (.ref a :: xs) P EX) (he : ∀ s, EX s → EX2 s) :
    EvX K RC W An EX2 (tMethX CL m (SpX K RC rel) (WE W) te tr) Γ C P := fun H0 σ H b0 st Q q =>
  h σ H st _ fun v H1 a1 r => by
    obtain ⟨rfl, ia⟩ := r
    obtain ⟨dx, vs, e1, e2⟩ := a1.cells a _ hc
    exact ⟨a, dx, vs, rfl, e1, rxf_none e2 hm, hs σ H1 (a1.sta st) _ fun ws H2 a2 rs => ⟨C, .ref a :: xs, P, EX, a2.cells, .cons ⟨rfl, ia⟩ rs, hr, fun v x C' H' a3 rx p => q v x C' H' ((a1.trans a2).trans a3) rx p, fun s d H' a3 e k => hok H0 b0.1 s d σ H' st.len (adv_sbs (((b0.trans a1).trans a2).trans a3).2 cl sb) e (he s k)⟩⟩
theorem ds_dropM {W : WX} {P : Ax → Cs → Prop} {EX2 : Str → Prop} (h : EvX K RC W An EX2 te Γ C P) (k : ∀ x C', P x C' → Ds K An rest E Γ C') : Ds K An (tSeq (tDrop te) rest) E Γ C := fun H0 σ H b0 st D f =>
  h H0 σ H b0 st _ fun v x C' H' a rx p => k x C' p H0 σ H' (b0.trans a) (a.sta st) D f
theorem ds_retM {W : WX} {P : Ax → Cs → Prop} {EX2 : Str → Prop} (h : EvX K RC W An EX2 te Γ C P) (k : ∀ x C', P x C' → E.rt x C') : Ds K An (tRet te) E Γ C := fun H0 σ H b0 st D f =>
  h H0 σ H b0 st _ fun v x C' H' a rx p => f.rt x v C' H' (b0.trans a) rx (k x C' p)
theorem ds_setM {W : WX} {P : Ax → Cs → Prop} {EX2 : Str → Prop} {i : Nat} (h : EvX K RC W An EX2 te Γ C P) (k : ∀ x C', P x C' → Ds K An rest E (Γ.set i (some x)) C') : Ds K An (tSeq (tAsg te (gName i)) rest) E Γ C := fun H0 σ H b0 st D f =>
  h H0 σ H b0 st _ fun v x C' H' a rx p => k x C' p H0 _ H' (b0.trans a) ((a.sta st).set i rx) D f
/-- try: .. except Refused as e: return e.what -/
theorem ds_try {tb : WX → TS} {EX : Str → Prop} {i : Nat} (te : PySem.W.exmOne K.K (.ref RC) (.ref RC) = some true) (hi : i < Γ.length) (hb : ∀ W, Ds K { C := C, ok := RsN K RC W C EX Γ.length } (tb W) E Γ C) (he : ∀ s, EX s → E.rt (S s) C) :
    Ds K An (tTryR K.K RC i (fun a cls d => tRet (tXf a cls d RC "what" (tVar i))) (fun _ _ _ _ => False) tb) E Γ C := fun H0 σ H b0 st D f => by
  refine hb _ H σ H ⟨fun s d σ' H' hl a2 e k => ⟨true, te, fun _ b _ => ?_, fun q => nomatch q⟩, Adv.refl st.cells⟩ st D ⟨fun Γ' C' σ' H' a s' e => f.nx Γ' C' σ' H' (b0.trans a.2) s' e, fun x v C' H' a r e => f.rt x v C' H' (b0.trans a.2) r e, fun Γ' C' σ' H' a s' e => f.bk Γ' C' σ' H' (b0.trans a.2) s' e, fun Γ' C' σ' H' a s' e => f.ct Γ' C' σ' H' (b0.trans a.2) s' e⟩
  refine ⟨_, List.getElem?_set_self (by rw [hl]; exact hi), rfl, rfl, d, _, V.str s, rfl, e, rfl, ?_⟩
  exact f.rt (S s) _ C H' (b0.trans a2) rx_S (he s k)
/-- a, b = x, y of plain locals -/
theorem ds_parO {i j : Nat} (h : PuA K tr Γ C [x, y]) (k : Ds K An rest E ((Γ.set i (some x)).set j (some y)) C) : Ds K An (tSeq (tPar i j tr) rest) E Γ C := fun H0 σ H b0 s D f =>
  h σ H s _ fun vs H1 a r => by
    cases r with
    | cons r1 rt =>
      cases rt with
      | cons r2 rt =>
        cases rt
        exact ⟨_, _, rfl, k H0 _ H1 (b0.trans a) (((a.sta s).set i r1).set j r2) D f⟩
theorem ds_raiseS {W : WX} {EX : Str → Prop} {s : Str} (hok : ∀ H0, An.ok H0 → RsOk K RC W An.C EX H0) (cl : Clo An.C) (sb : Sbs An.C C) (h : Pu K te Γ C (S s)) (k : EX s) : Ds K An (tSeq (tRaise RC W (tCons te tNil)) rest) E Γ C := ds_raise (E := E) hok cl sb h k
end Ab

/-! Hm: what can happen: stocks behind a history. -/
namespace Hm
open PySem PySem.Spec PyProof.Rows L2 Ab Lm
abbrev Stk := List (List Int)
def rowD (r : List Int) : List PyData := r.map .int
def rowsD (st : Stk) : List (List PyData) := st.map rowD
def getM (st : Stk) (p k : Int) : Int := (st.getD p.toNat []).getD k.toNat 0
def addM (st : Stk) (p k a : Int) : Stk := st.set p.toNat ((st.getD p.toNat []).set k.toNat (getM st p k + a))
/-- m rows of kd -/
def Shp (m kd : Nat) (st : Stk) : Prop := st.length = m ∧ ∀ r ∈ st, r.length = kd
theorem Shp.row {m kd : Nat} {st : Stk} (h : Shp m kd st) {i : Nat} (hi : i < m) : (st.getD i []).length = kd := by
  rw [List.getD_eq_getElem?_getD, List.getElem?_eq_getElem (by rw [h.1]; exact hi)]
  exact h.2 _ (List.getElem_mem _)
theorem Shp.add {m kd : Nat} {st : Stk} (h : Shp m kd st) {p k a : Int} (hp : p.toNat < m) : Shp m kd (addM st p k a) := by
  refine ⟨by simp [addM, h.1], fun r hr => ?_⟩
  rcases List.mem_or_eq_of_mem_set hr with hr | rfl
  · exact h.2 r hr
  · rw [List.length_set]
    exact h.row hp
theorem rowsD_len (st : Stk) : (rowsD st).length = st.length := List.length_map _
theorem rowsD_get (st : Stk) (i : Nat) : (rowsD st).getD i [] = rowD (st.getD i []) := by
  unfold rowsD
  rw [List.getD_eq_getElem?_getD, List.getD_eq_getElem?_getD, List.getElem?_map]
  cases st[i]? <;> rfl
theorem rowsD_set (st : Stk) (i : Nat) (r : List Int) : (rowsD st).set i (rowD r) = rowsD (st.set i r) := by
  unfold rowsD
  rw [List.map_set]
theorem rowD_set (r : List Int) (k : Nat) (a : Int) : (rowD r).set k (.int a) = rowD (r.set k a) := by
  unfold rowD
  rw [List.map_set]
theorem s_tm : ((Str.ofString "treated") = (Str.ofString "made")) = False := eq_false (by decide)
theorem s_fm : ((Str.ofString "found") = (Str.ofString "made")) = False := eq_false (by decide)
theorem s_ft : ((Str.ofString "found") = (Str.ofString "treated")) = False := eq_false (by decide)
theorem s_cd : ((Str.ofString "conjured") = (Str.ofString "dumped")) = False := eq_false (by decide)
/-- as it happens -/
def hapM (st : Stk) : Evt → Option Stk
  | .own w n p k a => if w = "made" then some (addM st p k a) else if w = "treated" then (if getM st p k < a then none else some (addM st p k (-a))) else if getM st p k = a then some st else none
  | .hand n g t k a s => if getM st g k < a then none else some (addM (addM st g k (-a)) t k a)
  | .pass g t k a => if getM st g k < a then none else some (addM (addM st g k (-a)) t k a)
  | .sec w p k a => if w = "dumped" then (if getM st p k < a then none else some (addM st p k (-a))) else some (addM st p k a)
def pfAt (pf : List (Bool × Bool)) (p : Int) : Bool × Bool := pf.getD p.toNat (false, false)
/-- what does not depend on the stocks -/
def alwM (pf : List (Bool × Bool)) (grp : List Int) : Evt → Bool
  | .own w n p k a => if w = "made" then (pfAt pf p).1 else if w = "treated" then (pfAt pf p).2 else true
  | .hand n g t k a s => !decide (g = t)
  | .pass g t k a => !decide (g = t) && (decide (g ∈ grp) && decide (t ∈ grp))
  | .sec w p k a => if w = "dumped" then decide (p ∈ grp) else (pfAt pf p).1 && decide (p ∈ grp)
def stepM (pf : List (Bool × Bool)) (grp : List Int) (st : Stk) (e : Evt) : Option Stk := if alwM pf grp e = true then hapM st e else none
def runM (pf : List (Bool × Bool)) (grp : List Int) : Stk → List Evt → Option Stk
  | st, [] => some st
  | st, e :: es => (stepM pf grp st e).bind fun st' => runM pf grp st' es
theorem runM_app (pf : List (Bool × Bool)) (grp : List Int) : ∀ (es fs : List Evt) (st : Stk), runM pf grp st (es ++ fs) = (runM pf grp st es).bind fun st' => runM pf grp st' fs
  | [], fs, st => rfl
  | e :: es, fs, st => by
    show (stepM pf grp st e).bind _ = ((stepM pf grp st e).bind _).bind _
    cases stepM pf grp st e with
    | none => rfl
    | some st' => exact runM_app pf grp es fs st'
theorem runM_snoc {pf : List (Bool × Bool)} {grp : List Int} {es : List Evt} {st st' : Stk} {i : Nat} {e : Evt} (he : es[i]? = some e) (h : runM pf grp st (es.take i) = some st') : runM pf grp st (es.take (i + 1)) = stepM pf grp st' e := by
  rw [List.take_add_one, he, runM_app, h]
  show (stepM pf grp st' e).bind _ = _
  cases stepM pf grp st' e <;> rfl
theorem runM_stop {pf : List (Bool × Bool)} {grp : List Int} {es : List Evt} {st : Stk} {i : Nat} (h : runM pf grp st (es.take i) = none) : runM pf grp st es = none := by
  have e := runM_app pf grp (es.take i) (es.drop i) st
  rw [List.take_append_drop, h] at e
  exact e
def st0 (m kd : Nat) : Stk := List.replicate m (List.replicate kd 0)
theorem st0_shp (m kd : Nat) : Shp m kd (st0 m kd) := ⟨by simp [st0], fun r hr => by rw [(List.mem_replicate.mp hr).2]; simp⟩
theorem hapM_shp {m kd : Nat} {st st' : Stk} {e : Evt} (h : Shp m kd st) (ek : EvK m kd e) (hs : hapM st e = some st') : Shp m kd st' := by
  cases e with
  | own w n p k a =>
    have hp : p.toNat < m := by have := ek.2; omega
    simp only [hapM] at hs
    split at hs
    · cases hs; exact h.add hp
    · split at hs
      · split at hs
        · cases hs
        · cases hs; exact h.add hp
      · split at hs
        · cases hs; exact h
        · cases hs
  | hand n g t k a s =>
    obtain ⟨g0, g1, t0, t1, _⟩ := ek
    simp only [hapM] at hs
    split at hs
    · cases hs
    · cases hs; exact (h.add (by omega)).add (by omega)
  | pass g t k a =>
    obtain ⟨g0, g1, t0, t1, _⟩ := ek
    simp only [hapM] at hs
    split at hs
    · cases hs
    · cases hs; exact (h.add (by omega)).add (by omega)
  | sec w p k a =>
    have hp : p.toNat < m := by have := ek.2; omega
    simp only [hapM] at hs
    split at hs
    · split at hs
      · cases hs
      · cases hs; exact h.add hp
    · cases hs; exact h.add hp
theorem stepM_shp {pf : List (Bool × Bool)} {grp : List Int} {m kd : Nat} {st st' : Stk} {e : Evt} (h : Shp m kd st) (ek : EvK m kd e) (hs : stepM pf grp st e = some st') : Shp m kd st' := by
  unfold stepM at hs
  split at hs
  · exact hapM_shp h ek hs
  · cases hs
def optD : Option Stk → PyData
  | none => .none
  | some st => .list ((rowsD st).map .list)
theorem optD_sh (o : Option Stk) : Sh 2 (optD o) := by
  cases o with
  | none => exact sh_none.mono (by decide)
  | some st =>
    refine sh_list fun d hd => ?_
    obtain ⟨r, hr, rfl⟩ := List.mem_map.mp hd
    refine sh_list fun d hd => ?_
    obtain ⟨r', _, rfl⟩ := List.mem_map.mp hr
    obtain ⟨i, _, rfl⟩ := List.mem_map.mp hd
    exact sh_int
def isNumM : Evt → Bool
  | .own .. => true
  | .hand .. => true
  | _ => false
def partsD : Evt → List PyData
  | .own w n p k a => [.int p, .int k, .int a]
  | .hand n g t k a s => [.int g, .int t, .int k, .int a, .bool s]
  | .pass g t k a => [.int g, .int t, .int k, .int a]
  | .sec w p k a => [.int p, .int k, .int a]
def rel_is_numbered : Rel := fun C xs R => ∃ (m kd : Nat) (e : Evt), xs = [.dat (evD e)] ∧ EvK m kd e ∧ R (B (isNumM e)) C
def rel_parts_of : Rel := fun C xs R => ∃ (m kd : Nat) (e : Evt), xs = [.dat (evD e)] ∧ EvK m kd e ∧ R (T (partsD e)) C
def rel__takes_away : Rel := fun C xs R => ∃ (q : Addr) (row : List Int) (k a : Int) (j : Nat), xs = [.ref q, I k, I a] ∧ C q = some (.lst ((rowD row).map .dat)) ∧ k = (j : Int) ∧ j < row.length ∧
  (if row.getD j 0 < a then R (B false) C else R (B true) (updC C q (.lst ((rowD (row.set j (row.getD j 0 - a))).map .dat))))
def rel__happens : Rel := fun C xs R => ∃ (p : Addr) (ps : List Addr) (st : Stk) (m kd : Nat) (e : Evt), xs = [.ref p, .dat (evD e)] ∧ GridA C p ps (rowsD st) ∧ Shp m kd st ∧ EvK m kd e ∧
  (match hapM st e with
  | some st' => ∀ C', Only ps C C' → GridA C' p ps (rowsD st') → R (B true) C'
  | none => R (B false) C)
def rel__is_allowed : Rel := fun C xs R => ∃ (pf : List (Bool × Bool)) (grp : List Int) (kd : Nat) (e : Evt), xs = [T (pf.map pfD), T (grp.map .int), .dat (evD e)] ∧ EvK pf.length kd e ∧ R (B (alwM pf grp e)) C
def rel_stocks : Rel := fun C xs R => ∃ (kd : Nat) (pf : List (Bool × Bool)) (grp : List Int) (es : List Evt), xs = [I kd, T (pf.map pfD), T (grp.map .int), Ls (es.map evD)] ∧ kd ≤ 100 ∧ pf.length ≤ 100 ∧ es.length ≤ 1000 ∧ (∀ e ∈ es, EvK pf.length kd e) ∧
  R (.dat (optD (runM pf grp (st0 pf.length kd) es))) C
def rel__law_played : Rel := rel_stocks
theorem pf_at {pf : List (Bool × Bool)} {p : Int} (h0 : 0 ≤ p) (h : p < pf.length) : atI (pf.map pfD) p = some (pfD (pfAt pf p)) := by
  have hp : p.toNat < pf.length := by omega
  have : atI (pf.map pfD) ((p.toNat : Nat) : Int) = some (pfD (pfAt pf p)) := atI_nat (by
    rw [List.getElem?_map, List.getElem?_eq_getElem hp]
    unfold pfAt
    rw [List.getD_eq_getElem?_getD, List.getElem?_eq_getElem hp]
    rfl)
  rwa [show ((p.toNat : Nat) : Int) = p by omega] at this
/-- a row of the grid, an item of the row -/
theorem grid_row {C : Cs} {p : Addr} {ps : List Addr} {st : Stk} {m kd : Nat} (G : GridA C p ps (rowsD st)) (h : Shp m kd st) {i : Int} (h0 : 0 ≤ i) (h1 : i < m) :
    ∃ q, ps[i.toNat]? = some q ∧ q ∈ ps ∧ C q = some (.lst ((rowD (st.getD i.toNat [])).map .dat)) ∧ atI (ps.map Ax.ref) i = some (.ref q) := by
  obtain ⟨q, a, b, c⟩ := G.at_ (i := i.toNat) (by rw [rowsD_len, h.1]; omega)
  rw [rowsD_get] at b
  rw [show ((i.toNat : Nat) : Int) = i by omega] at c
  exact ⟨q, a, List.mem_of_getElem? a, b, c⟩
theorem row_get {row : List Int} {k : Int} (h0 : 0 ≤ k) (h : k < row.length) : ((rowD row).map Ax.dat)[k.toNat]? = some (I (row.getD k.toNat 0)) := by
  have hk : k.toNat < row.length := by omega
  unfold rowD
  rw [List.getElem?_map, List.getElem?_map, List.getD_eq_getElem?_getD, List.getElem?_eq_getElem hk]
  rfl
theorem row_at {row : List Int} {k : Int} (h0 : 0 ≤ k) (h : k < row.length) : atI ((rowD row).map Ax.dat) k = some (I (row.getD k.toNat 0)) := by
  have := atI_nat (row_get h0 h)
  rwa [show ((k.toNat : Nat) : Int) = k by omega] at this
theorem row_set (row : List Int) (k : Nat) (a : Int) : ((rowD row).map Ax.dat).set k (I a) = (rowD (row.set k a)).map .dat := by
  rw [← rowD_set, List.map_set]
theorem grid_add {C : Cs} {p q : Addr} {ps : List Addr} {st : Stk} {i k a : Int} (G : GridA C p ps (rowsD st)) (hq : ps[i.toNat]? = some q) : GridA (updC C q (.lst ((rowD ((st.getD i.toNat []).set k.toNat (getM st i k + a))).map .dat))) p ps (rowsD (addM st i k a)) := by
  have := G.put hq (rowD ((st.getD i.toNat []).set k.toNat (getM st i k + a)))
  rwa [rowsD_set] at this
end Hm

/-! Wda: a world of deeds, honest or not: what the laws of the first family reckon. -/
namespace Wda
open PySem PySem.Spec PyProof.Rows L2 Ab Lm Hm
inductive Ent where
  | own (w : Str) (n k a : Int)
  | cpy (w : Str) (n k a o : Int) (s : Bool)
def Ent.n : Ent → Int
  | .own _ n _ _ => n
  | .cpy _ n _ _ _ _ => n
def Ent.k : Ent → Int
  | .own _ _ k _ => k
  | .cpy _ _ k _ _ _ => k
def Ent.a : Ent → Int
  | .own _ _ _ a => a
  | .cpy _ _ _ a _ _ => a
def Ent.w : Ent → Str
  | .own w _ _ _ => w
  | .cpy w _ _ _ _ _ => w
def entD : Ent → PyData
  | .own w n k a => .tuple [.int n, .str w, .int k, .int a]
  | .cpy w n k a o s => .tuple [.int n, .str w, .int k, .int a, .int o, .bool s]
structure Fnd where
  n : Int
  p : Int
  k : Int
  a : Int
def fndD (f : Fnd) : PyData := .tuple [.int f.n, .int f.p, .int f.k, .int f.a]
structure Wd where
  kd : Nat
  pf : List (Bool × Bool)
  stock : Stk
  files : List (List Ent)
  finds : List Fnd
  events : List Evt
  last : Int
  liars : List Int
structure Deed where
  w : Str
  p : Int
  o : Int
  k : Int
  a : Int
  s : Bool
def dedD (d : Deed) : PyData := .tuple [.str d.w, .int d.p, .int d.o, .int d.k, .int d.a, .bool d.s]
def filesD (fs : List (List Ent)) : List (List PyData) := fs.map (·.map entD)
def addF (fs : List (List Ent)) (i : Int) (e : Ent) : List (List Ent) := fs.set i.toNat (fs.getD i.toNat [] ++ [e])
def Wd.file (W : Wd) (i : Int) : List Ent := W.files.getD i.toNat []
/-! ### what is drawn -/
def rowA (i : Int) : Bool × Bool := if i = 0 then (true, false) else if i = 1 then (false, false) else if i = 2 then (false, true) else (true, true)
def partA (ns : List Int) (most : Int) : List (Bool × Bool) := (List.range (1 + ns.getD 0 0 % most).toNat).map fun (k : Nat) => rowA (ns.getD (1 + (0 + (k : Int))).toNat 0 % 4)
def hwM (i : Int) : Str := if i < 2 then "make" else if i < 5 then "hand" else if i = 5 then "treat" else "inspect"
def lwM (i : Int) : Str := if i = 0 then "pass" else if i = 1 then "dump" else if i = 2 then "conjure" else if i = 3 then "sign" else if i = 4 then "write" else if i = 5 then "omit" else "pass"
def wordM (d : List Int) (lying : Int) : Str := if d.getD 0 0 % 10 < lying then lwM (d.getD 1 0 % 7) else hwM (d.getD 1 0 % 7)
def amtM (d : List Int) (w : Str) (st : Int) : Int := if w ∈ (["hand", "treat", "pass", "dump"] : List Str) ∧ 0 < st ∧ 0 < d.getD 6 0 % 5 then 1 + d.getD 5 0 % st else 1 + d.getD 5 0 % 60
def deedM (d : List Int) (W : Wd) (lying : Int) : Deed :=
  ⟨wordM d lying, d.getD 2 0 % (W.pf.length : Int), d.getD 3 0 % (W.pf.length : Int), d.getD 4 0 % (W.kd : Int), amtM d (wordM d lying) (getM W.stock (d.getD 2 0 % (W.pf.length : Int)) (d.getD 4 0 % (W.kd : Int))), decide (d.getD 7 0 % 2 = 0)⟩
/-! ### what is done -/
def notM (W : Wd) (g t k a : Int) (s : Bool) : Wd := { W with last := W.last + 1, files := addF (addF W.files g (.cpy "gave" (W.last + 1) k a t s)) t (.cpy "took" (W.last + 1) k a g s) }
def makM (W : Wd) (p k a : Int) : Wd := { W with last := W.last + 1, stock := addM W.stock p k a, files := addF W.files p (.own "made" (W.last + 1) k a), events := W.events ++ [.own "made" (W.last + 1) p k a] }
def treM (W : Wd) (p k a : Int) : Wd := { W with last := W.last + 1, stock := addM W.stock p k (-a), files := addF W.files p (.own "treated" (W.last + 1) k a), events := W.events ++ [.own "treated" (W.last + 1) p k a] }
def hanM (W : Wd) (g t k a : Int) (s : Bool) : Wd := { notM W g t k a s with stock := addM (addM W.stock g k (-a)) t k a, events := W.events ++ [.hand (W.last + 1) g t k a s] }
def insM (W : Wd) (p k : Int) : Wd := { W with last := W.last + 1, finds := W.finds ++ [⟨W.last + 1, p, k, getM W.stock p k⟩], events := W.events ++ [.own "found" (W.last + 1) p k (getM W.stock p k)] }
def honM (W : Wd) (d : Deed) : Option Wd :=
  if d.w = "make" ∧ (pfAt W.pf d.p).1 = true then some (makM W d.p d.k d.a)
  else if d.w = "treat" ∧ (pfAt W.pf d.p).2 = true ∧ d.a ≤ getM W.stock d.p d.k then some (treM W d.p d.k d.a)
  else if d.w = "hand" ∧ d.p ≠ d.o ∧ d.a ≤ getM W.stock d.p d.k then some (hanM W d.p d.o d.k d.a d.s)
  else if d.w = "inspect" then some (insM W d.p d.k)
  else none
def blameM (ls : List Int) (xs : List Int) : List Int := xs.foldl (fun l x => if x ∈ l then l else l ++ [x]) ls
def blmM (W : Wd) (xs : List Int) : Wd := { W with liars := blameM W.liars xs }
def pasM (W : Wd) (g t k a : Int) : Wd := { W with stock := addM (addM W.stock g k (-a)) t k a, events := W.events ++ [.pass g t k a] }
def dumM (W : Wd) (p k a : Int) : Wd := { W with stock := addM W.stock p k (-a), events := W.events ++ [.sec "dumped" p k a] }
def conM (W : Wd) (p k a : Int) : Wd := { W with stock := addM W.stock p k a, events := W.events ++ [.sec "conjured" p k a] }
def wrE (n p o k a : Int) (s : Bool) : Ent := if p = o then .own (if s = true then "treated" else "made") n k a else .cpy (if s = true then "took" else "gave") n k a o false
def wriM (W : Wd) (p o k a : Int) (s : Bool) : Wd := { W with last := W.last + 1, files := addF W.files p (wrE (W.last + 1) p o k a s) }
def omiM (W : Wd) (p a : Int) : Wd := { W with files := W.files.set p.toNat ((W.file p).eraseIdx (a % ((W.file p).length : Int)).toNat) }
def lieM (W : Wd) (d : Deed) : Option Wd :=
  if d.w = "pass" ∧ d.p ≠ d.o ∧ d.a ≤ getM W.stock d.p d.k then some (blmM (pasM W d.p d.o d.k d.a) [d.p, d.o])
  else if d.w = "dump" ∧ d.a ≤ getM W.stock d.p d.k then some (blmM (dumM W d.p d.k d.a) [d.p])
  else if d.w = "conjure" ∧ (pfAt W.pf d.p).1 = true then some (blmM (conM W d.p d.k d.a) [d.p])
  else if d.w = "sign" ∧ d.p ≠ d.o then some (blmM (notM W d.p d.o d.k d.a d.s) [d.p, d.o])
  else if d.w = "write" then some (blmM (wriM W d.p d.o d.k d.a d.s) [d.p])
  else if d.w = "omit" ∧ 0 < (W.file d.p).length then some (blmM (omiM W d.p d.a) [d.p])
  else none
def didM (W : Wd) (d : Deed) : Option Wd := if d.w ∈ (["make", "treat", "hand", "inspect"] : List Str) then honM W d else lieM W d
def begM (kd : Nat) (pf : List (Bool × Bool)) : Wd := ⟨kd, pf, st0 pf.length kd, List.replicate pf.length [], [], [], 0, []⟩
def stepW (W : Wd) (d : Deed) : Wd := (didM W d).getD W
def wrlSt (ns : List Int) (start lying : Int) (W0 : Wd) : Nat → Wd
  | 0 => W0
  | i + 1 => stepW (wrlSt ns start lying W0 i) (deedM (drawsM (cellM ns (start + 1 + (0 + (i : Int)))) 8) (wrlSt ns start lying W0 i) lying)
def wrl0 (ns : List Int) (start most : Int) : Wd := begM (1 + cellM ns start / 7 % 2).toNat (partA (drawsM (cellM ns start) 10) most)
def worldM (ns : List Int) (start many most lying : Int) : Wd := wrlSt ns start lying (wrl0 ns start most) many.toNat
def evidD (kd : Nat) (pf : List (Bool × Bool)) (fs : List (List Ent)) (fi : List Fnd) : PyData := .tuple [.int kd, .tuple (pf.map pfD), .tuple ((filesD fs).map .tuple), .tuple (fi.map fndD)]
/-! ### what holds of it -/
def EnK (m kd : Nat) (last : Int) (i : Nat) : Ent → Prop
  | .own w n k a => w ∈ (["made", "treated"] : List Str) ∧ 1 ≤ n ∧ n ≤ last ∧ 0 ≤ k ∧ k < kd
  | .cpy w n k a o s => w ∈ (["gave", "took"] : List Str) ∧ 1 ≤ n ∧ n ≤ last ∧ 0 ≤ k ∧ k < kd ∧ 0 ≤ o ∧ o < m ∧ o ≠ (i : Int)
structure FlK (m kd : Nat) (last : Int) (i : Nat) (f : List Ent) : Prop where
  ent : ∀ e ∈ f, EnK m kd last i e
  asc : (f.map Ent.n).Pairwise (· < ·)
structure WOk (b : Nat) (W : Wd) : Prop where
  m0 : 0 < W.pf.length
  m5 : W.pf.length ≤ 5
  k0 : 0 < W.kd
  k2 : W.kd ≤ 2
  st : Shp W.pf.length W.kd W.stock
  fl : W.files.length = W.pf.length
  file : ∀ i f, W.files[i]? = some f → FlK W.pf.length W.kd W.last i f
  l0 : 0 ≤ W.last
  lb : W.last ≤ b
  fn : W.finds.length ≤ b
  ev : W.events.length ≤ b
  li : W.liars.length ≤ 2 * b
  fb : ∀ f ∈ W.files, f.length ≤ b
theorem EnK.mono {m kd : Nat} {l l' : Int} {i : Nat} {e : Ent} (h : EnK m kd l i e) (k : l ≤ l') : EnK m kd l' i e := by
  cases e with
  | own w n k2 a => exact ⟨h.1, h.2.1, Int.le_trans h.2.2.1 k, h.2.2.2⟩
  | cpy w n k2 a o s => exact ⟨h.1, h.2.1, Int.le_trans h.2.2.1 k, h.2.2.2⟩
theorem EnK.le {m kd : Nat} {l : Int} {i : Nat} {e : Ent} (h : EnK m kd l i e) : 1 ≤ e.n ∧ e.n ≤ l := by
  cases e with
  | own w n k2 a => exact ⟨h.2.1, h.2.2.1⟩
  | cpy w n k2 a o s => exact ⟨h.2.1, h.2.2.1⟩
theorem FlK.mono {m kd : Nat} {l l' : Int} {i : Nat} {f : List Ent} (h : FlK m kd l i f) (k : l ≤ l') : FlK m kd l' i f := ⟨fun e he => (h.ent e he).mono k, h.asc⟩
theorem FlK.snoc {m kd : Nat} {l l' : Int} {i : Nat} {f : List Ent} {e : Ent} (h : FlK m kd l i f) (k : l < e.n) (he : EnK m kd l' i e) : FlK m kd l' i (f ++ [e]) := by
  have kl := he.le.2
  refine ⟨fun x hx => ?_, ?_⟩
  · rcases List.mem_append.mp hx with hx | hx
    · exact (h.ent x hx).mono (by omega)
    · rw [List.mem_singleton.mp hx]; exact he
  · rw [List.map_append, List.pairwise_append]
    refine ⟨h.asc, by simp, fun a ha b hb => ?_⟩
    obtain ⟨x, hx, rfl⟩ := List.mem_map.mp ha
    have hb' : b = e.n := by simpa using hb
    rw [hb']
    have := (h.ent x hx).le.2
    omega
theorem FlK.erase {m kd : Nat} {l : Int} {i : Nat} {f : List Ent} (h : FlK m kd l i f) (j : Nat) : FlK m kd l i (f.eraseIdx j) :=
  ⟨fun e he => h.ent e (List.mem_of_mem_eraseIdx he), List.Pairwise.sublist ((List.eraseIdx_sublist ..).map _) h.asc⟩
theorem blame_len (xs ls : List Int) : (blameM ls xs).length ≤ ls.length + xs.length := by
  induction xs generalizing ls with
  | nil => exact Nat.le_refl _
  | cons x xs ih =>
    show (blameM (if x ∈ ls then ls else ls ++ [x]) xs).length ≤ _
    have := ih (if x ∈ ls then ls else ls ++ [x])
    split at this
    · rw [if_pos ‹_›]; simp; omega
    · rw [if_neg ‹_›]; simp at this ⊢; omega
theorem addF_len (fs : List (List Ent)) (i : Int) (e : Ent) : (addF fs i e).length = fs.length := List.length_set ..
theorem addF_get {fs : List (List Ent)} {i : Int} {e : Ent} {j : Nat} {f : List Ent} (h : (addF fs i e)[j]? = some f) : (j ≠ i.toNat ∧ fs[j]? = some f) ∨ (j = i.toNat ∧ ∃ f0, fs[j]? = some f0 ∧ f = f0 ++ [e]) := by
  unfold addF at h
  by_cases hj : j = i.toNat
  · subst hj
    have hl : i.toNat < fs.length := by
      have := (List.getElem?_eq_some_iff.mp h).1
      rw [List.length_set] at this
      exact this
    rw [List.getElem?_set_self hl] at h
    cases h
    refine .inr ⟨rfl, fs[i.toNat], List.getElem?_eq_getElem hl, ?_⟩
    rw [List.getD_eq_getElem?_getD, List.getElem?_eq_getElem hl]
    rfl
  · rw [List.getElem?_set_ne (Ne.symm hj)] at h
    exact .inl ⟨hj, h⟩
theorem addF_mem {fs : List (List Ent)} {i : Int} {e : Ent} {b : Nat} (h : ∀ f ∈ fs, f.length ≤ b) : ∀ f ∈ addF fs i e, f.length ≤ b + 1 := fun f hf => by
  obtain ⟨j, hj⟩ := List.getElem?_of_mem hf
  rcases addF_get hj with ⟨_, h1⟩ | ⟨_, f0, h1, rfl⟩
  · have := h f (List.mem_of_getElem? h1); omega
  · have := h f0 (List.mem_of_getElem? h1); simp; omega
/-- a deed's parts are in their bounds -/
structure DdK (m kd : Nat) (d : Deed) : Prop where
  p0 : 0 ≤ d.p
  p1 : d.p < m
  o0 : 0 ≤ d.o
  o1 : d.o < m
  k0 : 0 ≤ d.k
  k1 : d.k < kd
theorem deedM_k {d : List Int} {W : Wd} {lying : Int} (h : 0 < W.pf.length) (k : 0 < W.kd) : DdK W.pf.length W.kd (deedM d W lying) :=
  ⟨Int.emod_nonneg _ (by omega), Int.emod_lt_of_pos _ (by omega), Int.emod_nonneg _ (by omega), Int.emod_lt_of_pos _ (by omega), Int.emod_nonneg _ (by omega), Int.emod_lt_of_pos _ (by omega)⟩
theorem WOk.mono {b b' : Nat} {W : Wd} (h : WOk b W) (k : b ≤ b') : WOk b' W :=
  ⟨h.m0, h.m5, h.k0, h.k2, h.st, h.fl, h.file, h.l0, by have := h.lb; omega, Nat.le_trans h.fn k, Nat.le_trans h.ev k, by have := h.li; omega, fun f hf => Nat.le_trans (h.fb f hf) k⟩
theorem file_add {m kd : Nat} {l : Int} {fs : List (List Ent)} {p : Int} {e : Ent} (h : ∀ i f, fs[i]? = some f → FlK m kd l i f) (hn : l < e.n) (he : EnK m kd e.n p.toNat e) : ∀ i f, (addF fs p e)[i]? = some f → FlK m kd e.n i f := fun i f hf => by
  rcases addF_get hf with ⟨_, h1⟩ | ⟨rfl, f0, h1, rfl⟩
  · exact (h i f h1).mono (by omega)
  · exact (h _ _ h1).snoc hn he
theorem not_ok {b : Nat} {W : Wd} {d : Deed} (h : WOk b W) (k : DdK W.pf.length W.kd d) (ne : d.p ≠ d.o) : WOk (b + 1) (notM W d.p d.o d.k d.a d.s) := by
  have p0 := k.p0
  have o0 := k.o0
  refine ⟨h.m0, h.m5, h.k0, h.k2, h.st, by simp [notM, addF_len, h.fl], ?_, by have := h.l0; show 0 ≤ W.last + 1; omega, by have := h.lb; show W.last + 1 ≤ _; omega, by have := h.fn; show W.finds.length ≤ _; omega, by have := h.ev; show W.events.length ≤ _; omega, by have := h.li; show W.liars.length ≤ _; omega, ?_⟩
  · intro i f hf
    have l0 := h.l0
    rcases addF_get hf with ⟨_, h1⟩ | ⟨rfl, f0, h1, rfl⟩
    · exact file_add h.file (e := .cpy "gave" (W.last + 1) d.k d.a d.o d.s) (by show W.last < W.last + 1; omega) ⟨by simp, by omega, Int.le_refl _, k.k0, k.k1, o0, k.o1, by omega⟩ _ _ h1
    · rcases addF_get h1 with ⟨_, h2⟩ | ⟨e2, _⟩
      · exact (h.file _ _ h2).snoc (by show W.last < W.last + 1; omega) ⟨by simp, by omega, Int.le_refl _, k.k0, k.k1, p0, k.p1, by omega⟩
      · omega
  · intro f hf
    obtain ⟨j, hj⟩ := List.getElem?_of_mem hf
    rcases addF_get hj with ⟨_, h1⟩ | ⟨rfl, f0, h1, rfl⟩
    · exact addF_mem h.fb f (List.mem_of_getElem? h1)
    · rcases addF_get h1 with ⟨_, h2⟩ | ⟨e2, _⟩
      · have := h.fb f0 (List.mem_of_getElem? h2); simp; omega
      · omega
theorem blm_ok {b : Nat} {W W0 : Wd} {xs : List Int} (h : WOk (b + 1) W) (hx : xs.length ≤ 2) (hl : W.liars = W0.liars) (h0 : W0.liars.length ≤ 2 * b) : WOk (b + 1) (blmM W xs) :=
  ⟨h.m0, h.m5, h.k0, h.k2, h.st, h.fl, h.file, h.l0, h.lb, h.fn, h.ev, by have := blame_len xs W.liars; rw [hl] at this; show (blameM W.liars xs).length ≤ _; rw [hl]; omega, h.fb⟩
theorem one_ok {b : Nat} {W : Wd} {st' : Stk} {p : Int} {e : Ent} {ev' : List Evt} (h : WOk b W) (hs : Shp W.pf.length W.kd st') (hn : e.n = W.last + 1) (he : EnK W.pf.length W.kd e.n p.toNat e) (hev : ev'.length ≤ b + 1) :
    WOk (b + 1) { W with last := W.last + 1, stock := st', files := addF W.files p e, events := ev' } :=
  ⟨h.m0, h.m5, h.k0, h.k2, hs, by simp [addF_len, h.fl], (by have := file_add h.file (e := e) (p := p) (by omega) he; rw [hn] at this; exact this), by have := h.l0; show 0 ≤ W.last + 1; omega, by have := h.lb; show W.last + 1 ≤ _; omega, by have := h.fn; show W.finds.length ≤ _; omega, hev, by have := h.li; show W.liars.length ≤ _; omega, addF_mem h.fb⟩
theorem stk_ok {b : Nat} {W : Wd} {st' : Stk} {ev' : List Evt} (h : WOk b W) (hs : Shp W.pf.length W.kd st') (hev : ev'.length ≤ b + 1) : WOk (b + 1) { W with stock := st', events := ev' } :=
  have h := h.mono (Nat.le_succ b)
  ⟨h.m0, h.m5, h.k0, h.k2, hs, h.fl, h.file, h.l0, h.lb, h.fn, hev, h.li, h.fb⟩
theorem hon_ok {b : Nat} {W W' : Wd} {d : Deed} (h : WOk b W) (k : DdK W.pf.length W.kd d) (e : honM W d = some W') : WOk (b + 1) W' ∧ W'.pf = W.pf ∧ W'.kd = W.kd := by
  have l0 := h.l0
  have pn : d.p.toNat < W.pf.length := by have := k.p0; have := k.p1; omega
  have on : d.o.toNat < W.pf.length := by have := k.o0; have := k.o1; omega
  have ev := h.ev
  unfold honM at e
  split at e
  · cases e
    exact ⟨one_ok h (h.st.add pn) rfl ⟨by simp, by show 1 ≤ W.last + 1; omega, Int.le_refl _, k.k0, k.k1⟩ (by simp; omega), rfl, rfl⟩
  · split at e
    · cases e
      exact ⟨one_ok h (h.st.add pn) rfl ⟨by simp, by show 1 ≤ W.last + 1; omega, Int.le_refl _, k.k0, k.k1⟩ (by simp; omega), rfl, rfl⟩
    · split at e
      · rename_i hc
        cases e
        have q := not_ok h k hc.2.1
        refine ⟨⟨q.m0, q.m5, q.k0, q.k2, (h.st.add pn).add on, q.fl, q.file, q.l0, q.lb, q.fn, ?_, q.li, q.fb⟩, rfl, rfl⟩
        show (W.events ++ _).length ≤ _
        simp
        omega
      · split at e
        · cases e
          refine ⟨⟨h.m0, h.m5, h.k0, h.k2, h.st, h.fl, fun i f hf => (h.file i f hf).mono (by show W.last ≤ W.last + 1; omega), by show 0 ≤ W.last + 1; omega, by have := h.lb; show W.last + 1 ≤ _; omega, ?_, ?_, by have := h.li; show W.liars.length ≤ _; omega, fun f hf => Nat.le_succ_of_le (h.fb f hf)⟩, rfl, rfl⟩
          · have := h.fn
            show (W.finds ++ _).length ≤ _
            simp
            omega
          · show (W.events ++ _).length ≤ _
            simp
            omega
        · cases e
theorem wrE_k {m kd : Nat} {n p o k a : Int} {s : Bool} (hn : 1 ≤ n) (k0 : 0 ≤ k) (k1 : k < kd) (p0 : 0 ≤ p) (o0 : 0 ≤ o) (o1 : o < m) : EnK m kd n p.toNat (wrE n p o k a s) := by
  unfold wrE
  split
  · exact ⟨by cases s <;> simp, hn, Int.le_refl _, k0, k1⟩
  · exact ⟨by cases s <;> simp, hn, Int.le_refl _, k0, k1, o0, o1, by omega⟩
theorem wrE_n {n p o k a : Int} {s : Bool} : (wrE n p o k a s).n = n := by unfold wrE; split <;> rfl
theorem lie_ok {b : Nat} {W W' : Wd} {d : Deed} (h : WOk b W) (k : DdK W.pf.length W.kd d) (e : lieM W d = some W') : WOk (b + 1) W' ∧ W'.pf = W.pf ∧ W'.kd = W.kd := by
  have l0 := h.l0
  have pn : d.p.toNat < W.pf.length := by have := k.p0; have := k.p1; omega
  have on : d.o.toNat < W.pf.length := by have := k.o0; have := k.o1; omega
  have ev := h.ev
  unfold lieM at e
  split at e
  · cases e
    exact ⟨blm_ok (W0 := W) (stk_ok h ((h.st.add pn).add on) (by simp; omega)) (by simp) rfl h.li, rfl, rfl⟩
  · split at e
    · cases e
      exact ⟨blm_ok (W0 := W) (stk_ok h (h.st.add pn) (by simp; omega)) (by simp) rfl h.li, rfl, rfl⟩
    · split at e
      · cases e
        exact ⟨blm_ok (W0 := W) (stk_ok h (h.st.add pn) (by simp; omega)) (by simp) rfl h.li, rfl, rfl⟩
      · split at e
        · rename_i hc
          cases e
          exact ⟨blm_ok (W0 := W) (not_ok h k hc.2) (by simp) rfl h.li, rfl, rfl⟩
        · split at e
          · cases e
            exact ⟨blm_ok (W0 := W) (one_ok (st' := W.stock) (ev' := W.events) h h.st wrE_n (by rw [wrE_n]; exact wrE_k (by omega) k.k0 k.k1 k.p0 k.o0 k.o1) (by omega)) (by simp) rfl h.li, rfl, rfl⟩
          · split at e
            · cases e
              refine ⟨blm_ok (W0 := W) (W := omiM W d.p d.a) ?_ (by simp) rfl h.li, rfl, rfl⟩
              have h' := h.mono (Nat.le_succ b)
              have fe : W.files[d.p.toNat]? = some (W.file d.p) := by
                unfold Wd.file
                rw [List.getD_eq_getElem?_getD, List.getElem?_eq_getElem (by rw [h.fl]; exact pn)]
                rfl
              refine ⟨h'.m0, h'.m5, h'.k0, h'.k2, h'.st, by show (W.files.set _ _).length = _; rw [List.length_set]; exact h.fl, fun i f hf => ?_, h'.l0, h'.lb, h'.fn, h'.ev, h'.li, fun f hf => ?_⟩
              · have hf : (W.files.set d.p.toNat ((W.file d.p).eraseIdx (d.a % ((W.file d.p).length : Int)).toNat))[i]? = some f := hf
                by_cases hi : i = d.p.toNat
                · subst hi
                  rw [List.getElem?_set_self (by rw [h.fl]; exact pn)] at hf
                  cases hf
                  exact (h.file _ _ fe).erase _
                · rw [List.getElem?_set_ne (Ne.symm hi)] at hf
                  exact h.file i f hf
              · rcases List.mem_or_eq_of_mem_set hf with hf | rfl
                · exact h'.fb f hf
                · have h1 := h.fb _ (List.mem_of_getElem? fe)
                  have h2 := List.length_eraseIdx_le (W.file d.p) (d.a % ((W.file d.p).length : Int)).toNat
                  omega
            · cases e
theorem did_ok {b : Nat} {W W' : Wd} {d : Deed} (h : WOk b W) (k : DdK W.pf.length W.kd d) (e : didM W d = some W') : WOk (b + 1) W' ∧ W'.pf = W.pf ∧ W'.kd = W.kd := by
  unfold didM at e
  split at e
  · exact hon_ok h k e
  · exact lie_ok h k e
theorem step_ok {b : Nat} {W : Wd} {d : Deed} (h : WOk b W) (k : DdK W.pf.length W.kd d) : WOk (b + 1) (stepW W d) ∧ (stepW W d).pf = W.pf ∧ (stepW W d).kd = W.kd := by
  unfold stepW
  cases e : didM W d with
  | none => exact ⟨h.mono (Nat.le_succ b), rfl, rfl⟩
  | some W' => exact did_ok h k e
theorem beg_ok {kd : Nat} {pf : List (Bool × Bool)} (h0 : 0 < pf.length) (h1 : pf.length ≤ 5) (k0 : 0 < kd) (k1 : kd ≤ 2) : WOk 0 (begM kd pf) := by
  refine ⟨h0, h1, k0, k1, st0_shp _ _, by simp [begM], fun i f hf => ?_, Int.le_refl _, Int.le_refl _, Nat.le_refl _, Nat.le_refl _, Nat.le_refl _, fun f hf => ?_⟩
  · have hf : (List.replicate pf.length ([] : List Ent))[i]? = some f := hf
    rw [List.getElem?_replicate] at hf
    split at hf
    · cases hf
      refine ⟨fun e he => ?_, .nil⟩
      cases he
    · cases hf
  · have hf : f ∈ List.replicate pf.length ([] : List Ent) := hf
    rw [(List.mem_replicate.mp hf).2]
    exact Nat.le_refl _
theorem partA_len {ns : List Int} {most : Int} (h : 0 < most) : 0 < (partA ns most).length ∧ ((partA ns most).length : Int) ≤ most := by
  unfold partA
  rw [List.length_map, List.length_range]
  have h0 : 0 ≤ ns.getD 0 0 % most := Int.emod_nonneg _ (by omega)
  have h1 : ns.getD 0 0 % most < most := Int.emod_lt_of_pos _ h
  omega
theorem wrl0_ok {ns : List Int} {start most : Int} (h : 0 < most) (h5 : most ≤ 5) : WOk 0 (wrl0 ns start most) := by
  have := partA_len (ns := drawsM (cellM ns start) 10) h
  have h0 : 0 ≤ cellM ns start / 7 % 2 := Int.emod_nonneg _ (by omega)
  have h1 : cellM ns start / 7 % 2 < 2 := Int.emod_lt_of_pos _ (by decide)
  exact beg_ok this.1 (by omega) (by omega) (by omega)
theorem wrlSt_ok {ns : List Int} {start lying : Int} {W0 : Wd} (h : WOk 0 W0) : ∀ i, WOk i (wrlSt ns start lying W0 i) ∧ (wrlSt ns start lying W0 i).pf = W0.pf ∧ (wrlSt ns start lying W0 i).kd = W0.kd
  | 0 => ⟨h, rfl, rfl⟩
  | i + 1 => by
    obtain ⟨h1, h2, h3⟩ := wrlSt_ok h i
    obtain ⟨q1, q2, q3⟩ := step_ok h1 (deedM_k (d := drawsM (cellM ns (start + 1 + (0 + (i : Int)))) 8) (lying := lying) h1.m0 h1.k0)
    exact ⟨q1, q2.trans h2, q3.trans h3⟩
end Wda

/-! Wdb: the world as it stands in the store. -/
namespace Wda
open PySem PySem.Spec PyProof.Rows L2 Ab Lm Hm
structure Wa where
  w : Addr
  p : Addr
  q : Addr
  fd : Addr
  ev : Addr
  li : Addr
  ps : List Addr
  qs : List Addr
def Wa.six (A : Wa) : List Addr := [A.w, A.p, A.q, A.fd, A.ev, A.li]
/-- what its deeds change -/
def Wa.own (A : Wa) : List Addr := A.w :: A.fd :: A.ev :: A.li :: (A.ps ++ A.qs)
def dicW (A : Wa) (W : Wd) : List (Key × Ax) := [(kS "kinds", I W.kd), (kS "parties", T (W.pf.map pfD)), (kS "stock", .ref A.p), (kS "files", .ref A.q), (kS "finds", .ref A.fd), (kS "events", .ref A.ev), (kS "last", I W.last), (kS "liars", .ref A.li)]
structure WdAt (C : Cs) (A : Wa) (W : Wd) : Prop where
  six : A.six.Nodup
  psN : ∀ a ∈ A.ps, a ∉ A.six ∧ a ∉ A.qs
  qsN : ∀ a ∈ A.qs, a ∉ A.six
  dic : C A.w = some (.dic (dicW A W))
  stock : GridA C A.p A.ps (rowsD W.stock)
  files : GridA C A.q A.qs (filesD W.files)
  fd : C A.fd = some (.lst ((W.finds.map fndD).map .dat))
  ev : C A.ev = some (.lst ((W.events.map evD).map .dat))
  li : C A.li = some (.lst (W.liars.map I))
variable {C : Cs} {A : Wa} {W : Wd}
theorem _root_.Ab.GridA.keep {C1 : Cs} {p a : Addr} {ps : List Addr} {fs : List (List PyData)} {o : MO} (G : GridA C1 p ps fs) (h0 : a ≠ p) (h1 : a ∉ ps) : GridA (updC C1 a o) p ps fs :=
  ⟨by rw [updC_ne (Ne.symm h0)]; exact G.top, G.len, fun j r hj => by rw [updC_ne (show r ≠ a from fun e => h1 (by rw [← e]; exact List.mem_of_getElem? hj))]; exact G.row j r hj, G.nd, G.apart⟩
theorem six_ne (h : A.six.Nodup) : (A.w ≠ A.p ∧ A.w ≠ A.q ∧ A.w ≠ A.fd ∧ A.w ≠ A.ev ∧ A.w ≠ A.li) ∧ (A.fd ≠ A.p ∧ A.fd ≠ A.q ∧ A.fd ≠ A.ev ∧ A.fd ≠ A.li) ∧ (A.ev ≠ A.p ∧ A.ev ≠ A.q ∧ A.ev ≠ A.li) ∧ (A.li ≠ A.p ∧ A.li ≠ A.q) := by
  unfold Wa.six at h
  simp only [List.nodup_cons, List.mem_cons, List.not_mem_nil, or_false, not_or] at h
  obtain ⟨⟨h1, h2, h3, h4, h5⟩, ⟨h6, h7, h8, h9⟩, ⟨h10, h11, h12⟩, ⟨h13, h14⟩, h15, _⟩ := h
  exact ⟨⟨h1, h2, h3, h4, h5⟩, ⟨Ne.symm h7, Ne.symm h10, h13, h14⟩, ⟨Ne.symm h8, Ne.symm h11, h15⟩, Ne.symm h9, Ne.symm h12⟩
theorem not_six {a : Addr} (h : a ∉ A.six) : a ≠ A.w ∧ a ≠ A.p ∧ a ≠ A.q ∧ a ≠ A.fd ∧ a ≠ A.ev ∧ a ≠ A.li := by
  unfold Wa.six at h
  simp only [List.mem_cons, List.not_mem_nil, or_false, not_or] at h
  exact h
theorem WdAt.six_in (h : WdAt C A W) {a : Addr} (ha : a ∈ A.six) : a ∉ A.ps ∧ a ∉ A.qs := ⟨fun z => (h.psN a z).1 ha, fun z => h.qsN a z ha⟩
theorem WdAt.setLast (h : WdAt C A W) (n : Int) : WdAt (updC C A.w (.dic (setK (dicW A W) (kS "last") (I n)))) A { W with last := n } := by
  obtain ⟨⟨a1, a2, a3, a4, a5⟩, _⟩ := six_ne h.six
  have s := h.six_in (a := A.w) (by simp [Wa.six])
  exact ⟨h.six, h.psN, h.qsN, by rw [updC_same]; rfl, h.stock.keep a1 s.1, h.files.keep a2 s.2, by rw [updC_ne (Ne.symm a3)]; exact h.fd, by rw [updC_ne (Ne.symm a4)]; exact h.ev, by rw [updC_ne (Ne.symm a5)]; exact h.li⟩
theorem WdAt.setFd (h : WdAt C A W) (fi : List Fnd) : WdAt (updC C A.fd (.lst ((fi.map fndD).map .dat))) A { W with finds := fi } := by
  obtain ⟨⟨_, _, a3, _, _⟩, ⟨b1, b2, b3, b4⟩, _⟩ := six_ne h.six
  have s := h.six_in (a := A.fd) (by simp [Wa.six])
  exact ⟨h.six, h.psN, h.qsN, by rw [updC_ne a3]; exact h.dic, h.stock.keep b1 s.1, h.files.keep b2 s.2, updC_same, by rw [updC_ne (Ne.symm b3)]; exact h.ev, by rw [updC_ne (Ne.symm b4)]; exact h.li⟩
theorem WdAt.setEv (h : WdAt C A W) (es : List Evt) : WdAt (updC C A.ev (.lst ((es.map evD).map .dat))) A { W with events := es } := by
  obtain ⟨⟨_, _, _, a4, _⟩, ⟨_, _, b3, _⟩, ⟨c1, c2, c3⟩, _⟩ := six_ne h.six
  have s := h.six_in (a := A.ev) (by simp [Wa.six])
  exact ⟨h.six, h.psN, h.qsN, by rw [updC_ne a4]; exact h.dic, h.stock.keep c1 s.1, h.files.keep c2 s.2, by rw [updC_ne b3]; exact h.fd, updC_same, by rw [updC_ne (Ne.symm c3)]; exact h.li⟩
theorem WdAt.setLi (h : WdAt C A W) (ls : List Int) : WdAt (updC C A.li (.lst (ls.map I))) A { W with liars := ls } := by
  obtain ⟨⟨_, _, _, _, a5⟩, ⟨_, _, _, b4⟩, ⟨_, _, c3⟩, d1, d2⟩ := six_ne h.six
  have s := h.six_in (a := A.li) (by simp [Wa.six])
  exact ⟨h.six, h.psN, h.qsN, by rw [updC_ne a5]; exact h.dic, h.stock.keep d1 s.1, h.files.keep d2 s.2, by rw [updC_ne b4]; exact h.fd, by rw [updC_ne c3]; exact h.ev, updC_same⟩
theorem WdAt.setF (h : WdAt C A W) {i : Nat} {r : Addr} (hr : A.qs[i]? = some r) (f : List Ent) : WdAt (updC C r (.lst ((f.map entD).map .dat))) A { W with files := W.files.set i f } := by
  have hm := List.mem_of_getElem? hr
  obtain ⟨a1, a2, a3, a4, a5, a6⟩ := not_six (h.qsN r hm)
  refine ⟨h.six, h.psN, h.qsN, by rw [updC_ne (Ne.symm a1)]; exact h.dic, h.stock.keep a2 (fun z => (h.psN r z).2 hm), ?_, by rw [updC_ne (Ne.symm a4)]; exact h.fd, by rw [updC_ne (Ne.symm a5)]; exact h.ev, by rw [updC_ne (Ne.symm a6)]; exact h.li⟩
  have := h.files.put hr (f.map entD)
  unfold filesD at this ⊢
  rw [List.map_set]
  exact this
theorem WdAt.setS (h : WdAt C A W) {i : Nat} {r : Addr} (hr : A.ps[i]? = some r) (row : List Int) : WdAt (updC C r (.lst ((rowD row).map .dat))) A { W with stock := W.stock.set i row } := by
  have hm := List.mem_of_getElem? hr
  obtain ⟨a1, a2, a3, a4, a5, a6⟩ := not_six (h.psN r hm).1
  refine ⟨h.six, h.psN, h.qsN, by rw [updC_ne (Ne.symm a1)]; exact h.dic, ?_, h.files.keep a3 (h.psN r hm).2, by rw [updC_ne (Ne.symm a4)]; exact h.fd, by rw [updC_ne (Ne.symm a5)]; exact h.ev, by rw [updC_ne (Ne.symm a6)]; exact h.li⟩
  have := h.stock.put hr (rowD row)
  rw [rowsD_set] at this
  exact this
theorem own_w : A.w ∈ A.own := by simp [Wa.own]
theorem own_fd : A.fd ∈ A.own := by simp [Wa.own]
theorem own_ev : A.ev ∈ A.own := by simp [Wa.own]
theorem own_li : A.li ∈ A.own := by simp [Wa.own]
theorem own_ps {i : Nat} {r : Addr} (h : A.ps[i]? = some r) : r ∈ A.own := by have := List.mem_of_getElem? h; simp [Wa.own, this]
theorem own_qs {i : Nat} {r : Addr} (h : A.qs[i]? = some r) : r ∈ A.own := by have := List.mem_of_getElem? h; simp [Wa.own, this]
theorem gk_kinds : getK (dicW A W) (kS "kinds") = some (I W.kd) := rfl
theorem gk_parties : getK (dicW A W) (kS "parties") = some (T (W.pf.map pfD)) := rfl
theorem gk_stock : getK (dicW A W) (kS "stock") = some (.ref A.p) := rfl
theorem gk_files : getK (dicW A W) (kS "files") = some (.ref A.q) := rfl
theorem gk_finds : getK (dicW A W) (kS "finds") = some (.ref A.fd) := rfl
theorem gk_events : getK (dicW A W) (kS "events") = some (.ref A.ev) := rfl
theorem gk_last : getK (dicW A W) (kS "last") = some (I W.last) := rfl
theorem gk_liars : getK (dicW A W) (kS "liars") = some (.ref A.li) := rfl
theorem dw_len : (dicW A W).length < 100000 := by show 8 < 100000; decide
/-- the file of party i -/
theorem WdAt.file (h : WdAt C A W) {i : Int} (h0 : 0 ≤ i) (h1 : i.toNat < W.files.length) : ∃ r, A.qs[i.toNat]? = some r ∧ C r = some (.lst (((W.file i).map entD).map .dat)) ∧ atI (A.qs.map Ax.ref) i = some (.ref r) := by
  obtain ⟨r, e1, e2, e3⟩ := h.files.at_ (i := i.toNat) (by simpa [filesD] using h1)
  refine ⟨r, e1, ?_, by rwa [show ((i.toNat : Nat) : Int) = i by omega] at e3⟩
  rw [e2]
  unfold filesD Wd.file
  rw [List.getD_eq_getElem?_getD, List.getD_eq_getElem?_getD, List.getElem?_map]
  cases W.files[i.toNat]? <;> rfl
/-- the row of party i -/
theorem WdAt.row (h : WdAt C A W) {i : Int} (h0 : 0 ≤ i) (h1 : i.toNat < W.stock.length) : ∃ r, A.ps[i.toNat]? = some r ∧ C r = some (.lst ((rowD (W.stock.getD i.toNat [])).map .dat)) ∧ atI (A.ps.map Ax.ref) i = some (.ref r) := by
  obtain ⟨r, e1, e2, e3⟩ := h.stock.at_ (i := i.toNat) (by simpa [rowsD] using h1)
  refine ⟨r, e1, ?_, by rwa [show ((i.toNat : Nat) : Int) = i by omega] at e3⟩
  rw [e2, rowsD_get]
abbrev RelW := Cs → List Ax → (Ax → Cs → Prop) → Prop
/-- what a deed of the world's promises -/
def Aft (C : Cs) (A : Wa) (W' : Wd) (x : Ax) (R : Ax → Cs → Prop) : Prop := ∀ C', Only A.own C C' → WdAt C' A W' → R x C'
def rel__law_noted : Rel := fun C xs R => ∃ (A : Wa) (W : Wd) (g t k a : Int) (s : Bool) (b : Nat), xs = [.ref A.w, I g, I t, I k, I a, B s] ∧ WdAt C A W ∧ WOk b W ∧ b < 90000 ∧ 0 ≤ g ∧ g < W.pf.length ∧ 0 ≤ t ∧ t < W.pf.length ∧ Aft C A (notM W g t k a s) No R
def optB : Option Wd → Wd → Bool × Wd
  | some W', _ => (true, W')
  | none, W => (false, W)
def dArgs (d : Deed) : List Ax := [S d.w, I d.p, I d.o, I d.k, I d.a, B d.s]
def rel__law_honest : Rel := fun C xs R => ∃ (A : Wa) (W : Wd) (d : Deed) (b : Nat), xs = .ref A.w :: dArgs d ∧ WdAt C A W ∧ WOk b W ∧ b < 40000 ∧ DdK W.pf.length W.kd d ∧ Aft C A (optB (honM W d) W).2 (B (optB (honM W d) W).1) R
def rel__law_lied : Rel := fun C xs R => ∃ (A : Wa) (W : Wd) (d : Deed) (b : Nat), xs = .ref A.w :: dArgs d ∧ WdAt C A W ∧ WOk b W ∧ b < 40000 ∧ DdK W.pf.length W.kd d ∧ Aft C A (optB (lieM W d) W).2 (B (optB (lieM W d) W).1) R
def rel__law_did : Rel := fun C xs R => ∃ (A : Wa) (W : Wd) (d : Deed) (b : Nat), xs = [.ref A.w, .dat (dedD d)] ∧ WdAt C A W ∧ WOk b W ∧ b < 40000 ∧ DdK W.pf.length W.kd d ∧ Aft C A (optB (didM W d) W).2 (B (optB (didM W d) W).1) R
def rel__law_deed : Rel := fun C xs R => ∃ (A : Wa) (W : Wd) (c lying : Int) (b : Nat), xs = [I c, .ref A.w, I lying] ∧ WdAt C A W ∧ WOk b W ∧ R (.dat (dedD (deedM (drawsM c 8) W lying))) C
def rel__law_partiesA : Rel := fun C xs R => ∃ (c most : Int), xs = [I c, I most] ∧ 0 < most ∧ most ≤ 5 ∧ R (T ((partA (drawsM c 10) most).map pfD)) C
/-- a new world: all its cells are new -/
structure WNew (C C' : Cs) (A : Wa) (W : Wd) : Prop where
  mor : Mor C C'
  at_ : WdAt C' A W
  new : ∀ a ∈ A.p :: A.q :: A.own, C a = none
def rel__law_begun : Rel := fun C xs R => ∃ (kd : Nat) (pf : List (Bool × Bool)), xs = [I kd, T (pf.map pfD)] ∧ pf.length ≤ 5 ∧ kd ≤ 2 ∧ ∀ A C', WNew C C' A (begM kd pf) → R (.ref A.w) C'
def rel__law_world : Rel := fun C xs R => ∃ (ns : List Int) (start many most lying : Int), xs = [Ls (ns.map .int), I start, I many, I most, I lying] ∧ 0 ≤ start ∧ 0 ≤ many ∧ many ≤ 1000 ∧ 0 < most ∧ most ≤ 5 ∧ ∀ A C', WNew C C' A (worldM ns start many most lying) → R (.ref A.w) C'
def rel__law_evidence : Rel := fun C xs R => ∃ (A : Wa) (W : Wd), xs = [.ref A.w] ∧ WdAt C A W ∧ W.files.length ≤ 1000 ∧ R (.dat (evidD W.kd W.pf W.files W.finds)) C
theorem WNew.step {C C' C2 : Cs} {A : Wa} {W W' : Wd} (h : WNew C C' A W) (o : Only A.own C' C2) (k : WdAt C2 A W') : WNew C C2 A W' :=
  ⟨fun a ha => by
    have na : a ∉ A.own := fun hm => by rw [h.new a (by simp [hm])] at ha; cases ha
    exact (o a na).trans (h.mor a ha), k, h.new⟩
end Wda

/-! Wdc: what the statements of a deed do to the world. -/
namespace Wda
open PySem PySem.Spec PyProof.Rows L2 Ab Lm Hm
theorem ds_assoc {K : Kw} {An : Anc} {a b c : TS} {E : En} {Γ : Gm} {C : Cs} (h : Ds K An (tSeq a (tSeq b c)) E Γ C) : Ds K An (tSeq (tSeq a b) c) E Γ C := h
variable {K : Kw} {An C : Cs} {Γ : Gm} {E : En} {A : Wa} {W : Wd} {tw tk ti te ts tp : TE} {rest : TS}
theorem ds_wlast (h : WdAt C A W) (hv : Pu K te Γ C (I (W.last + 1))) (ho : Pu K tw Γ C (.ref A.w)) (k : ∀ C', Only A.own C C' → WdAt C' A { W with last := W.last + 1 } → Ds K An rest E Γ C') :
    Ds K An (tSeq (sDPut tw (tC (.str "last")) te) rest) E Γ C :=
  ds_dput hv ho pu_str h.dic dw_len (k _ (Only.refl.put own_w) (h.setLast _))
theorem pu_wlast (h : WdAt C A W) (ho : Pu K tw Γ C (.ref A.w)) : Pu K (tDGet tw (tC (.str "last"))) Γ C (I W.last) := pu_dget ho pu_str h.dic gk_last
theorem pu_wst {p k : Int} (h : WdAt C A W) (S : Shp W.pf.length W.kd W.stock) (p0 : 0 ≤ p) (p1 : p < W.pf.length) (k0 : 0 ≤ k) (k1 : k < W.kd) (hs : Pu K ts Γ C (.ref A.p)) (hp : Pu K tp Γ C (I p)) (hk : Pu K tk Γ C (I k)) :
    Pu K (tOp (rIxL K) (tOp (rIxL K) ts tp) tk) Γ C (I (getM W.stock p k)) := by
  obtain ⟨r, e1, e2, e3⟩ := h.row p0 (by rw [S.1]; omega)
  have l1 := S.row (i := p.toNat) (by omega)
  refine pu_ixM (pu_ixM hs hp h.stock.top e3) hk e2 ?_
  rw [show k = ((k.toNat : Nat) : Int) by omega]
  refine atI_nat ?_
  rw [List.getElem?_map]
  unfold rowD getM
  rw [List.getElem?_map, List.getElem?_eq_getElem (by rw [l1]; omega), List.getD_eq_getElem?_getD (l := W.stock.getD p.toNat []), show (((k.toNat : Nat) : Int)).toNat = k.toNat by omega, List.getElem?_eq_getElem (by rw [l1]; omega)]
  rfl
theorem ds_wst {p k a : Int} (h : WdAt C A W) (S : Shp W.pf.length W.kd W.stock) (p0 : 0 ≤ p) (p1 : p < W.pf.length) (k0 : 0 ≤ k) (k1 : k < W.kd) (hv : Pu K te Γ C (I (getM W.stock p k + a))) (hs : Pu K ts Γ C (.ref A.p)) (hp : Pu K tp Γ C (I p)) (hk : Pu K tk Γ C (I k))
    (kk : ∀ C', Only A.own C C' → WdAt C' A { W with stock := addM W.stock p k a } → Ds K An rest E Γ C') : Ds K An (tSeq (tAsg te (gSub (tOp (rIxL K) ts tp) tk rSetL)) rest) E Γ C := by
  obtain ⟨r, e1, e2, e3⟩ := h.row p0 (by rw [S.1]; omega)
  have l1 := S.row (i := p.toNat) (by omega)
  refine ds_setix hv (pu_ixM hs hp h.stock.top e3) hk e2 (j := k.toNat) ?_ ?_
  · rw [List.length_map]
    unfold rowD
    rw [List.length_map, l1]
    exact ixk k0 (by omega)
  · have e : ((rowD (W.stock.getD p.toNat [])).map Ax.dat).set k.toNat (I (getM W.stock p k + a)) = (rowD ((W.stock.getD p.toNat []).set k.toNat (getM W.stock p k + a))).map .dat := by
      rw [← rowD_set, List.map_set]
    rw [e]
    exact kk _ (Only.refl.put (own_ps e1)) (h.setS e1 _)
theorem ds_wfile {p : Int} {e : Ent} {tq : TE} (h : WdAt C A W) (p0 : 0 ≤ p) (p1 : p.toNat < W.files.length) (hz : (W.file p).length < 100000) (hq : Pu K tq Γ C (.ref A.q)) (hp : Pu K tp Γ C (I p)) (he : Pu K te Γ C (.dat (entD e)))
    (kk : ∀ C', Only A.own C C' → WdAt C' A { W with files := addF W.files p e } → Ds K An rest E Γ C') : Ds K An (tSeq (tDrop (tBM K "list" rAppend (tOp (rIxL K) tq tp) (tCons te tNil))) rest) E Γ C := by
  obtain ⟨r, e1, e2, e3⟩ := h.file p0 p1
  refine ds_drop (ev_app (pu_ixM hq hp h.files.top e3) he e2 (by simpa using hz)) fun x C' ⟨_, ec⟩ => ?_
  subst ec
  rw [show [Ax.dat (entD e)] = ([e].map entD).map .dat from rfl, ← List.map_append, ← List.map_append]
  exact kk _ (Only.refl.put (own_qs e1)) (h.setF e1 _)
theorem pu_wfiles (h : WdAt C A W) (ho : Pu K tw Γ C (.ref A.w)) : Pu K (tDGet tw (tC (.str "files"))) Γ C (.ref A.q) := pu_dget ho pu_str h.dic gk_files
theorem ds_wev {e : Evt} (h : WdAt C A W) (hz : W.events.length < 100000) (ho : Pu K tw Γ C (.ref A.w)) (he : Pu K te Γ C (.dat (evD e))) (kk : ∀ C', Only A.own C C' → WdAt C' A { W with events := W.events ++ [e] } → Ds K An rest E Γ C') :
    Ds K An (tSeq (tDrop (tBM K "list" rAppend (tDGet tw (tC (.str "events"))) (tCons te tNil))) rest) E Γ C := by
  refine ds_drop (ev_app (pu_dget ho pu_str h.dic gk_events) he h.ev (by simpa using hz)) fun x C' ⟨_, ec⟩ => ?_
  subst ec
  rw [show [Ax.dat (evD e)] = ([e].map evD).map .dat from rfl, ← List.map_append, ← List.map_append]
  exact kk _ (Only.refl.put own_ev) (h.setEv _)
theorem ds_wfd {e : Fnd} (h : WdAt C A W) (hz : W.finds.length < 100000) (ho : Pu K tw Γ C (.ref A.w)) (he : Pu K te Γ C (.dat (fndD e))) (kk : ∀ C', Only A.own C C' → WdAt C' A { W with finds := W.finds ++ [e] } → Ds K An rest E Γ C') :
    Ds K An (tSeq (tDrop (tBM K "list" rAppend (tDGet tw (tC (.str "finds"))) (tCons te tNil))) rest) E Γ C := by
  refine ds_drop (ev_app (pu_dget ho pu_str h.dic gk_finds) he h.fd (by simpa using hz)) fun x C' ⟨_, ec⟩ => ?_
  subst ec
  rw [show [Ax.dat (fndD e)] = ([e].map fndD).map .dat from rfl, ← List.map_append, ← List.map_append]
  exact kk _ (Only.refl.put own_fd) (h.setFd _)
theorem pf_get {pf : List (Bool × Bool)} {p : Int} (p0 : 0 ≤ p) (p1 : p < pf.length) : atI (pf.map pfD) p = some (pfD (pfAt pf p)) := by
  rw [show p = ((p.toNat : Nat) : Int) by omega]
  refine atI_nat ?_
  unfold pfAt
  rw [List.getElem?_map, List.getD_eq_getElem?_getD, show (((p.toNat : Nat) : Int)).toNat = p.toNat by omega, List.getElem?_eq_getElem (show p.toNat < pf.length by omega)]
  rfl
theorem pu_wpf (h : WdAt C A W) {p : Int} (p0 : 0 ≤ p) (p1 : p < W.pf.length) (ho : Pu K tw Γ C (.ref A.w)) (hp : Pu K tp Γ C (I p)) : Pu K (tOp (rIxT K) (tDGet tw (tC (.str "parties"))) tp) Γ C (T [.bool (pfAt W.pf p).1, .bool (pfAt W.pf p).2]) :=
  pu_ixT (pu_dget ho pu_str h.dic gk_parties) hp (pf_get p0 p1)
theorem le_setN : ∀ (Γ : Gm) (l : Nat), Le (Γ.set l none) Γ
  | [], _ => trivial
  | x :: Γ, 0 => Le.refl Γ
  | none :: Γ, l + 1 => le_setN Γ l
  | some x :: Γ, l + 1 => ⟨rfl, le_setN Γ l⟩
theorem le_setS (y : Option Ax) : ∀ (Γ : Gm) (l : Nat), Le (Γ.set l none) (Γ.set l y)
  | [], _ => trivial
  | x :: Γ, 0 => Le.refl Γ
  | none :: Γ, l + 1 => le_setS y Γ l
  | some x :: Γ, l + 1 => ⟨rfl, le_setS y Γ l⟩
theorem blame_snoc (ls xs : List Int) (x : Int) : blameM ls (xs ++ [x]) = if x ∈ blameM ls xs then blameM ls xs else blameM ls xs ++ [x] := by
  unfold blameM
  rw [List.foldl_append]
  rfl
/-- who is to blame is written down -/
theorem ds_blame {j l : Nat} {xs : List Int} (h : WdAt C A W) (hz : W.liars.length + xs.length < 90000) (hj : Γ[j]? = some (some (Ls (xs.map .int)))) (hw : Γ[0]? = some (some (.ref A.w))) (l0 : l ≠ 0) (lj : l ≠ j) (ll : l < Γ.length)
    (kk : ∀ Γ' C', Only A.own C C' → WdAt C' A (blmM W xs) → Ds K An rest E Γ' C') :
    Ds K An (tSeq (tFor (iList K (tVar j)) (gName l) (tIfS (tTest (tOp (rIn K true) (tVar l) (tDGet (tVar 0) (tC (.str "liars"))))) (tDrop (tBM K "list" rAppend (tDGet (tVar 0) (tC (.str "liars"))) (tCons (tVar l) tNil))) tNext)) rest) E Γ C := by
  have n0 : (Γ.set l none)[0]? = some (some (.ref A.w)) := by rw [List.getElem?_set_ne l0]; exact hw
  refine ds_forS (fun i Δ C' => Δ = Γ.set l none ∧ Only A.own C C' ∧ WdAt C' A (blmM W (xs.take i))) (ui_listD (pu_var hj)) ⟨_, le_setN Γ l, rfl, Only.refl, h⟩ (fun _ _ _ _ => trivial) ?_ ?_
  · rintro i x Δ C' hx ⟨rfl, o1, h1⟩
    obtain ⟨d, hd, rfl⟩ := datget hx
    obtain ⟨v, hv, rfl⟩ := mapget hd
    have il := (List.getElem?_eq_some_iff.mp hv).1
    have g0 : ((Γ.set l none).set l (some (.dat (.int v))))[0]? = some (some (.ref A.w)) := by rw [List.getElem?_set_ne l0]; exact n0
    have gl : ((Γ.set l none).set l (some (.dat (.int v))))[l]? = some (some (I v)) := by rw [List.getElem?_set_self (by rw [List.length_set]; exact ll)]
    have e1 : blameM W.liars (xs.take (i + 1)) = if v ∈ blameM W.liars (xs.take i) then blameM W.liars (xs.take i) else blameM W.liars (xs.take i) ++ [v] := by
      rw [List.take_add_one, hv]
      exact blame_snoc _ _ _
    have bl := blame_len (xs.take i) W.liars
    rw [List.length_take] at bl
    refine ⟨_, _, tg_name, ?_⟩
    refine ds_if (ut_test (pu_notInM (pu_var gl) (pu_dget (pu_var g0) pu_str h1.dic gk_liars) h1.li)) (fun hc => ?_) (fun hc => ?_)
    · have hc : v ∉ blameM W.liars (xs.take i) := by
        rw [Bool.not_eq_true', decide_eq_false_iff_not] at hc
        exact hc
      refine ds_drop1 (ev_app (pu_dget (pu_var g0) pu_str h1.dic gk_liars) (pu_var gl) h1.li ?_) ?_
      · show ((blameM W.liars (xs.take i)).map I).length < 100000
        rw [List.length_map]
        omega
      · rintro _ _ ⟨_, rfl⟩
        refine ⟨Γ.set l none, ?_, rfl, o1.put own_li, ?_⟩
        · rw [List.set_set]
          exact le_setS _ Γ l
        · have h2 := h1.setLi (blameM W.liars (xs.take i) ++ [v])
          rw [List.map_append] at h2
          unfold blmM at h2 ⊢
          rw [e1, if_neg hc]
          exact h2
    · have hc : v ∈ blameM W.liars (xs.take i) := by
        rw [Bool.not_eq_false', decide_eq_true_iff] at hc
        exact hc
      refine ds_next ⟨Γ.set l none, ?_, rfl, o1, ?_⟩
      · rw [List.set_set]
        exact le_setS _ Γ l
      · unfold blmM at h1 ⊢
        rw [e1, if_pos hc]
        exact h1
  · rintro Δ C' ⟨rfl, o1, h1⟩
    rw [List.length_map, List.length_map, List.take_length] at h1
    exact kk _ _ o1 h1
theorem at4 {a b c d : Str} {i : Int} (h0 : 0 ≤ i) (h : i < 4) : atI [PyData.str a, .str b, .str c, .str d] i = some (.str (if i = 0 then a else if i = 1 then b else if i = 2 then c else d)) := by
  have e : i = 0 ∨ i = 1 ∨ i = 2 ∨ i = 3 := by omega
  rcases e with rfl | rfl | rfl | rfl <;> rfl
theorem map_erase {α β : Type} (f : α → β) : ∀ (l : List α) (k : Nat), (l.eraseIdx k).map f = (l.map f).eraseIdx k
  | [], _ => rfl
  | _ :: _, 0 => rfl
  | a :: l, k + 1 => congrArg (f a :: ·) (map_erase f l k)
end Wda

/-! Trk: methods with a star parameter; list.remove and list.index of data; sorted keys. -/
namespace L2
open PySem PySem.Spec PyProof.Rows
/-- l.remove(x): the first equal item -/
def rRemD (K : PySem.W.Frag) : V → List V → Hp → VK → Prop := fun x xs H Q => ∃ (a : Addr) (y : V) (ys : List V) (d : PyData) (ds : List PyData) (j : Nat) (z : PyData), x = V.ref a ∧ xs = [y] ∧ H a = some (.lst ys) ∧ DpAll K H ys ds ∧ Dp K H y d ∧
  SeqAt.shaped (.list ds) = true ∧ SeqAt.shaped d = true ∧ ds[j]? = some z ∧ PyData.eqv z d = true ∧ (∀ (m : Nat) (z' : PyData), m < j → ds[m]? = some z' → PyData.eqv z' d = false) ∧ Q .non (upd H a (.lst (ys.eraseIdx j)))
theorem mt_removeD {X : Cx} (hu : X.A.units + 65 < cLine) : MtR X "list.remove" (rRemD X.K) := by
  intro pins s σ H x xs v us Q I rx rxs h
  obtain ⟨a, y, ys, d, ds, j, z, rfl, rfl, hH, ha, hy, sl, sd, hz, hzj, hno, q⟩ := h
  cases rx
  cases rxs with
  | cons ry rt =>
    rename_i uy ut
    cases rt
    obtain ⟨bs, r1⟩ := Dp.reads I d y uy hy ry
    have hxs : PyData.canLayAll0 ds = true := SeqAt.canLay_of_shaped sl
    have hroom : X.A.units + 1 + min (PyData.depthAll ds) d.depth < cLine := room_in_shaped sd hu
    obtain ⟨zl, its, n, rv, hlen, e⟩ := I.lstM hH
    obtain ⟨as, h4⟩ := Dp.readsAll I ds _ its ha rv
    have hn : its.length = ds.length := SeqAt.ReadsAll.length ds its as h4
    have hmap : its.map (SeqAt.readOf s.heap) = ds := SeqAt.readsAll_map ds its as hxs h4
    have hvl := rv.length
    have hsl := sizeLine_eq
    obtain ⟨hjd, _⟩ := List.getElem?_eq_some_iff.mp hz
    have hjl : j < its.length := by omega
    have hj : j < its.toArray.size := by simpa using hjl
    have at_ : ∀ (m : Nat) (hm : m < its.toArray.size) (z' : PyData), ds[m]? = some z' → SeqAt.readOf s.heap its.toArray[m] = z' := by
      intro m hm z' hz'
      have hml : m < its.length := by simpa using hm
      rw [← hmap, List.getElem?_map, List.getElem?_eq_getElem hml] at hz'
      have e1 : SeqAt.readOf s.heap its[m] = z' := Option.some.inj (show some (SeqAt.readOf s.heap its[m]) = some z' from hz')
      simpa using e1
    refine call_meets PySem.F.slot_list_remove ⟨_, e, rfl⟩ PySem.F.entry_list_remove (PySem.F.args_list_remove_2 _ _)
      (SeqAt.list_removeAt a its.toArray n none #[] uy (fun u => PyData.eqv (SeqAt.readOf s.heap u) d) j hj ?_ ?_ (by rw [List.size_toArray]; omega)) ⟨e, SeqAt.items_eqAt (vs := its.toArray) (show ReadsAll s.heap its.toArray.toList ds as from h4) r1 hxs (SeqAt.canLay_of_shaped sd) hroom, ?_⟩
    · show PyData.eqv (SeqAt.readOf s.heap its.toArray[j]) d = true
      rw [at_ j hj z hz]
      exact hzj
    · intro m hm hmj
      have hmd : m < ds.length := by omega
      have hz' : ds[m]? = some ds[m] := List.getElem?_eq_getElem hmd
      show PyData.eqv (SeqAt.readOf s.heap its.toArray[m]) d = false
      rw [at_ m hm _ hz']
      exact hno m _ hmj hz'
    · refine ⟨.non, _, I.lset (its' := its.eraseIdx j) (t' := s.toks) hH e ?_ (rv.eraseIdx j) ?_, rfl, q⟩
      · show its.toArray.eraseIdxIfInBounds j = (its.eraseIdx j).toArray
        rw [List.eraseIdxIfInBounds_toArray]
      · have z2 := List.length_eraseIdx_le ys j
        omega
theorem kx_remD {X : Cx} (K : PySem.W.Frag) (h : X.K = K) (hu : X.A.units + 65 < cLine) : MtR X "list.remove" (rRemD K) := h ▸ mt_removeD hu
theorem kx_indexI {X : Cx} (K : PySem.W.Frag) (h : X.K = K) : MtR X "list.index" (rIndex K) := h ▸ mt_index
theorem kx_methR {X : Cx} {CX : CXT} {k : Nat} {C f : Addr} {m : Str} {sp : Sp} {E : XK} {o e : Expr} {es : List Expr} {ta : TE} {t : TA} {apos pos : Pos} {pl : Sem Bool} (he : PE X o ta) (c : Cls X.K C) (hm : Meth X.K C m f)
    (F : FnR X.prog X.w X.K X.mg X.base CX k f sp) (hr : Room k X.A) (hx : Passes CX X E) (ha : PA X (e :: es) t)
    (hst : starEach (e :: es) X.env = (false, eval e X.env) :: starEach es X.env := by rfl) (hpl : (backTo pos (starEach es X.env)).any (·.1) = false := by rfl)
    (ht : eval (.Call (.Attribute o m apos) (e :: es) [] pos) X.env = (do
      let ov ← eval o X.env
      standAt apos.atName
      let (f, first) ← holding [ov] (getMethod ov m pl)
      callWith pos f first (backTo pos (starEach (e :: es) X.env)) (backToKw pos (keywordEach [] X.env))) := by rfl) : PE X (.Call (.Attribute o m apos) (e :: es) [] pos) (tMethR C m sp E ta t) := pe_methR he c hm F hr hx ha hst hpl ht
end L2
namespace Ab
open PySem PySem.Spec PyProof.Rows L2
variable {K : Kw} {An : Anc} {Γ Γ' : Gm} {C : Cs} {ta tv te to ti : TE} {tr : TA} {x y z : Ax} {t u rest : TS} {E : En} {RC CL a : Addr} {kvs : List (Str × Ax)} {f m : Str} {xs : List Ax}
/-- the promise of a def whose last parameter is a star one, by flat arguments -/
def starR (n : Nat) (rel : Cs → List Ax → (Ax → Cs → Prop) → Prop) : Cs → List Ax → (Ax → Cs → Prop) → Prop := fun C xs R => ∃ ys ds, xs = ys ++ ds.map Ax.dat ∧ ys.length = n ∧ ds.length ≤ 1000 ∧ rel C (ys ++ [T ds]) R
theorem rxa_split {H : Hp} : ∀ {ys zs : List Ax} {vs : List V}, RxA K C H vs (ys ++ zs) → ∃ v1 v2, vs = v1 ++ v2 ∧ RxA K C H v1 ys ∧ RxA K C H v2 zs
  | [], zs, vs, r => ⟨[], vs, rfl, .nil, r⟩
  | y :: ys, zs, _, .cons h t => by
    obtain ⟨v1, v2, e, r1, r2⟩ := rxa_split (ys := ys) t
    exact ⟨_ :: v1, v2, by rw [e]; rfl, .cons h r1, r2⟩
theorem rxa_appT {H : Hp} : ∀ {ys zs : List Ax} {v1 v2 : List V}, RxA K C H v1 ys → RxA K C H v2 zs → RxA K C H (v1 ++ v2) (ys ++ zs)
  | [], _, _, _, .nil, r => r
  | _ :: _, _, _, _, .cons h t, r => .cons h (rxa_appT t r)
theorem ok_defS {mg : Str → Option Value} {base : Heap} {x qual : Str} {st : Stmt} {f : Addr} {fd : FuncData} {N ps : List Str} {pv : Str} {k : Nat} {rel : Cs → List Ax → (Ax → Cs → Prop) → Prop} (F : Fun K.K x qual st f fd) (S : FnScope N (ps ++ [pv]) (defScope st))
    (hbd : ∀ (kV doc pm : Value) (an : Option Addr) (cdv ct : Value) (us rest : List Value), us.length = ps.length → bindArgs (PySem.W.fnOf x qual (defArgs st) (defBody st) (defScope st) .none kV doc pm an cdv ct) ⟨us ++ rest, []⟩ = (newTuple rest >>= fun t => pure (ps.zip us ++ [(pv, t)])))
    (hb : ∀ (cdv : Value) (A : Around) (outer : List Env) (s : Shared) (H : Hp) (E : XK), Room k (A.deeper (envOfC qual (defScope st) s.heap.objs.size f cdv)) →
      ∃ t, PSs (cxOf CX0 K.P K.w K.K mg base N qual (defScope st) f cdv A outer s H E).nox (defBody st) t ∧ ∀ C xs R, Clo C → rel C xs R → Ds K C t (EnR C R) (stG N xs) C) : FnR K.P K.w K.K mg base CX0 (k + 1) f (SpG K (starR ps.length rel)) := by
  obtain ⟨oc, od, kV, doc, pm, an, cdv, ct, osl, rfl, lk, hcd⟩ := F.ex
  have G := StX.fn_star (P := K.P) (w := K.w) (mg := mg) (base := base) (k := k) (sp := SpG K rel) lk hcd S StX.cxUp_none (hbd kV doc pm an cdv ct) (fun A outer s H vs Q E hr h => by
    obtain ⟨C, xs, R, c, r, h, q⟩ := h
    obtain ⟨t, ht, hd⟩ := hb cdv A outer s H E hr
    refine ⟨t, ht.nox, hd C xs R c.clo h H _ H (Adv.refl c).a (sta_start c r) _ ⟨fun Γ C' σ' H' a s' e => ?_, fun x v C' H' a r' e => ?_, fun _ _ _ _ _ _ e => e.elim, fun _ _ _ _ _ _ e => e.elim⟩⟩
    · obtain ⟨y, C2, a2, r2, e2⟩ := Rt.fin a.2 rx_N e
      exact q _ _ C2 H' a2 r2 e2
    · obtain ⟨y, C2, a2, r2, e2⟩ := Rt.fin a.2 r' e
      exact q _ _ C2 H' a2 r2 e2)
  intro A outer s H us vs Q E hr e0 r hsp
  obtain ⟨C, xs, R, c, rx, ⟨ys, ds, rfl, hl, hz, h⟩, q⟩ := hsp
  obtain ⟨v1, v2, rfl, r1, r2⟩ := rxa_split rx
  refine G A outer s H us (v1 ++ v2) Q E hr e0 r ⟨v1, v2, rfl, by rw [r1.length]; exact hl, sz (by rw [r2.length, List.length_map]; omega), fun p hp => ?_⟩
  have a1 := Adv.new (o := .tup v2) c hp
  exact ⟨C, ys ++ [T ds], R, a1.cells, rxa_appT (Paired.map2 r1 fun _ _ z => a1.rx z) (.cons (.tup (SqT.of (hid_of upd_same (c.free hp))) (DpAll.up a1.ex ds (dat_rxa r2))) .nil), h, fun v x C' H' a2 rx p => q v x C' H' (a1.trans a2) rx p⟩
theorem ev_methR {rel : Cs → List Ax → (Ax → Cs → Prop) → Prop} {XE : XK} {P : Ax → Cs → Prop} (h : Pu K te Γ C (.ref a)) (hc : C a = some (.ins CL kvs)) (hm : kvs.lookup m = none) (hs : PuA K tr Γ C xs) (hr : rel C (.ref a :: xs) P) : Ev K (tMethR CL m (SpG K rel) XE te tr) Γ C P := fun σ H s Q q =>
  h σ H s _ fun v H1 a1 r => by
    obtain ⟨rfl, ia⟩ := r
    obtain ⟨dx, vs, e1, e2⟩ := a1.cells a _ hc
    refine ⟨a, dx, vs, rfl, e1, rxf_none e2 hm, hs σ H1 (a1.sta s) _ fun ws H2 a2 rs => ?_⟩
    exact ⟨C, .ref a :: xs, P, a2.cells, .cons ⟨rfl, ia⟩ rs, hr, fun v x C' H' a3 rx p => q v x C' H' ((a1.trans a2).trans a3) rx p⟩
/-- l.remove(x) of data -/
theorem dpa_H' {H : Hp} {vs : List V} {ds : List PyData} (h : RxA K C H vs (ds.map .dat)) : DpAll K H vs ds := DpAll.up hid_le ds (dat_rxa h)
theorem ev_rem {ds : List PyData} {d e : PyData} {j : Nat} (ho : Pu K to Γ C (.ref a)) (h : Pu K te Γ C (.dat d)) (hc : C a = some (.lst (ds.map .dat))) (sl : SeqAt.shaped (.list ds) = true) (sd : SeqAt.shaped d = true) (hz : ds[j]? = some e) (he : PyData.eqv e d = true) (hno : ∀ (m : Nat) (z' : PyData), m < j → ds[m]? = some z' → PyData.eqv z' d = false) :
    Ev K (tBM K "list" (rRemD K) to (tCons te tNil)) Γ C (fun x C' => x = No ∧ C' = updC C a (.lst ((ds.eraseIdx j).map .dat))) := fun σ H s Q q =>
  ho σ H s _ fun v H1 a1 r1 => by
    obtain ⟨rfl, ia⟩ := r1
    obtain ⟨ws, e1, e2⟩ := a1.cells a _ hc
    refine ⟨.inl ⟨rfl, ws, SqL.of e1⟩, h σ H1 (a1.sta s) _ fun w H2 a2 r2 => ?_⟩
    obtain ⟨ws2, e3, e4⟩ := a2.cells a _ hc
    refine ⟨a, w, ws2, d, ds, j, e, rfl, rfl, e3, dpa_H' e4, rx_dp r2, sl, sd, hz, he, hno, ?_⟩
    have e7 := rxa_erase j e4
    have e8 : (ds.map Ax.dat).eraseIdx j = (ds.eraseIdx j).map .dat := (Wda.map_erase Ax.dat ds j).symm
    rw [e8] at e7
    have b := Adv.setL (p := a) a2.cells ia e7
    exact q _ _ _ _ ((a1.trans a2).trans b) rx_N ⟨rfl, rfl⟩
theorem dpa_intsT {H : Hp} : ∀ {vs : List V} {ns : List Int}, DpAll K H vs (ns.map PyData.int) → vs = ns.map V.int
  | _, [], h => by cases h; rfl
  | _, n :: ns, h => by
    cases h with
    | cons h1 h2 =>
      cases h1
      rw [dpa_intsT h2]
      rfl
theorem eqV_int' {i j : Int} : eqV (.int i) (.int j) = decide (i = j) := rfl
/-- l.index(i) of ints -/
theorem pu_index {ns : List Int} {i : Int} {j : Nat} (ho : Pu K to Γ C (Ls (ns.map .int))) (h : Pu K te Γ C (I i)) (hj : ns[j]? = some i) (hno : ∀ m : Nat, m < j → ns[m]? ≠ some i) : Pu K (tBM K "list" (rIndex K) to (tCons te tNil)) Γ C (I (j : Int)) := fun σ H s Q q =>
  ho σ H s _ fun v H1 a1 r1 => by
    cases r1 with
    | lst hs hd =>
      rename_i ad us
      refine ⟨.inl ⟨rfl, us, SqL.up hid_le hs⟩, h σ H1 (a1.sta s) _ fun w H2 a2 r2 => ?_⟩
      cases rx_int r2
      have eu := dpa_intsT hd
      subst eu
      refine ⟨ad, _, .int i, j, .int i, rfl, rfl, SqL.up hid_le (SqL.up a2.ex hs), rfl, ?_, ?_, ?_, ?_, q _ H2 (a1.trans a2) rx_I⟩
      · rw [List.all_eq_true]
        intro v hv
        obtain ⟨n, _, rfl⟩ := List.mem_map.mp hv
        rfl
      · rw [List.getElem?_map, hj]
        rfl
      · rw [eqV_int']
        exact decide_eq_true rfl
      · intro k z' hk hz'
        rw [List.getElem?_map] at hz'
        cases e : ns[k]? with
        | none => rw [e] at hz'; cases hz'
        | some n =>
          rw [e] at hz'
          cases hz'
          rw [eqV_int']
          refine decide_eq_false fun z => hno k hk ?_
          rw [e, z]
/-- sorted(d), d's keys ints -/
theorem pl_srtDT {ks : List Int} {ns : List Int} {kvs : List (Key × Ax)} (h : PuA K tr Γ C [.ref a]) (hc : C a = some (.dic kvs)) (hk : kvs.map (·.1) = ks.map Sum.inl) (hl : ks.length < 64) (hp : ∀ ys : List Int, ys.Perm ks → ys.Pairwise (· ≤ ·) → ys = ns) :
    PuL K (tCB (fun xs H Q => ∃ (a : Addr) (kvs : List (Key × V)) (ks : List Int), xs = [.ref a] ∧ Rd H a (.dK kvs) ∧ kvs.map (·.1) = ks.map Sum.inl ∧ ks.length < 64 ∧ ∀ (ys : List Int) (p : Addr), ys.Perm ks → ys.Pairwise (· ≤ ·) → H p = none → Q (.ref p) (upd H p (.lst (ys.map V.int)))) tr) Γ C ((ns.map PyData.int).map .dat) := fun σ H s Q q =>
  h σ H s _ fun vs H1 a1 r1 => by
    cases r1 with
    | cons r1 rt =>
      cases rt
      obtain ⟨rfl, ia⟩ := r1
      obtain ⟨ws, e1, e2⟩ := a1.cells a _ hc
      refine ⟨a, ws, ks, rfl, .inl e1, by rw [rxk_keys e2]; exact hk, hl, fun ys p hpm hs hf => ?_⟩
      obtain rfl := hp ys hpm hs
      refine q p _ H1 a1 hf ?_
      refine paired_dat (F := fun v d => ∃ i, v = V.int i ∧ d = .int i) (fun v d ⟨i, h1, h2⟩ => by subst h1; subst h2; exact rx_I) ?_
      exact paired_map (F := fun v d => ∃ i, v = V.int i ∧ d = PyData.int i) (fun i : Int => V.int i) (fun i : Int => PyData.int i) (fun i => ⟨_, rfl, rfl⟩) _
theorem kx_sortI {X : Cx} (K : PySem.W.Frag) (h : X.K = K) : CallR X (.builtin "sorted") (rSortedI K) := h ▸ cr_sortedI
theorem pl_srtMT {ns ms : List Int} (h : PuA K tr Γ C [.ref a]) (hc : C a = some (.lst (ns.map I))) (hp : ∀ ys : List Int, ys.Perm ns → ys.Pairwise (· ≤ ·) → ys = ms) :
    PuL K (tCB (rSortedI K) tr) Γ C ((ms.map PyData.int).map .dat) := fun σ H s Q q =>
  h σ H s _ fun vs H1 a1 r1 => by
    cases r1 with
    | cons r1 rt =>
      cases rt
      obtain ⟨rfl, _⟩ := r1
      obtain ⟨ws, e1, e2⟩ := a1.cells a _ hc
      obtain rfl := rxa_intsV e2
      refine ⟨a, ns, rfl, SqL.of e1, fun ys p pm so hf => ?_⟩
      obtain rfl := hp ys pm so
      refine q p _ H1 a1 hf ?_
      refine paired_dat (F := fun v d => ∃ i, v = V.int i ∧ d = .int i) (fun v d ⟨i, h1, h2⟩ => by subst h1; subst h2; exact rx_I) ?_
      exact paired_map (F := fun v d => ∃ i, v = V.int i ∧ d = PyData.int i) (fun i : Int => V.int i) (fun i : Int => PyData.int i) (fun i => ⟨_, rfl, rfl⟩) _
/-- list(l), l a cell -/
theorem pl_listCT (h : PuA K tr Γ C [.ref a]) (hc : C a = some (.lst xs)) :
    PuL K (tCB (fun xs H Q => ∃ p ys, xs = [V.ref p] ∧ (SqL K H p ys ∨ SqT K H p ys) ∧ ∀ l, H l = none → Q (.ref l) (upd H l (.lst ys))) tr) Γ C xs := fun σ H s Q q =>
  h σ H s _ fun vs H1 a1 r1 => by
    cases r1 with
    | cons r1 rt =>
      cases rt
      obtain ⟨rfl, _⟩ := r1
      obtain ⟨ws, e1, e2⟩ := a1.cells a _ hc
      exact ⟨a, ws, rfl, .inl (SqL.of e1), fun l hl => q l _ H1 a1 hl e2⟩
/-- [e(a) for a in l], l a cell -/
theorem pu_lcC {α : Type} {D : α → PyData} {l : List α} {own : List Nat} {g : TG} {to : TE} {a : Addr} (f : α → PyData) (h : Pu K to Γ C (.ref a)) (hc : C a = some (.lst ((l.map D).map .dat))) (hn : l.length < 100000)
    (hs : ∀ (i : Nat) (a : α) (C' : Cs), Mor C C' → l[i]? = some a → ∃ Γ2 vs, (∀ j, j ∈ vs → j ∈ own) ∧ Tg K g (.dat (D a)) (wipeG Γ own) Γ2 vs ∧ Pu K te Γ2 C' (.dat (f a))) :
    Pu K (tLc (iList K to) g tYes te own) Γ C (Ls (l.map f)) := by
  have e0 : l.map f = (l.filter fun _ => true).map f := by rw [List.filter_eq_self.mpr (fun _ _ => rfl)]
  have e := filt_range l (fun _ => true) f PyData.none
  rw [e0, ← e]
  have hl : ((l.map D).map Ax.dat).length = l.length := by rw [List.length_map, List.length_map]
  rw [← hl]
  refine pu_lc (F := fun C' => C' a = some (.lst ((l.map D).map .dat))) (fun i => (l[i]?.map fun _ => true).getD false) (fun i => (l[i]?.map f).getD .none) (ui_listM h hc) (by rw [hl]; exact hn) (fun C' m => m.at_ hc) fun i x C' m hx => ?_
  rw [List.map_map, List.getElem?_map] at hx
  cases ha : l[i]? with
  | none => rw [ha] at hx; cases hx
  | some a =>
    rw [ha] at hx
    cases hx
    obtain ⟨Γ2, vs, h1, h2, h3⟩ := hs i a C' m ha
    exact ⟨Γ2, vs, h1, h2, ut_yes, fun _ => h3⟩
/-- {} -/
theorem ev_dnewK : Ev K tDNewK Γ C (fun x C' => ∃ p, C p = none ∧ x = .ref p ∧ C' = updC C p (.dic [])) := fun σ H s Q q p hp => by
  have a0 : Adv K C H (updC C p (.dic [])) (upd H p (.dK [])) := Adv.setD s.cells (.inr hp) .nil
  exact q _ _ _ _ a0 (rx_ref (by rw [updC_same]; rfl)) ⟨p, s.cells.free hp, rfl, rfl⟩
/-- sorted, whatever way -/
def srtT (l : List Int) : List Int := l.mergeSort fun a b => decide (a ≤ b)
theorem srtT_uniq {l ys : List Int} (h : ys.Perm l) (s : ys.Pairwise (· ≤ ·)) : ys = srtT l := by
  have h2 : (srtT l).Pairwise (· ≤ ·) := (List.pairwise_mergeSort (le := fun a b => decide (a ≤ b)) (fun a b c h1 h2 => by simp only [decide_eq_true_iff] at *; omega) (fun a b => by simp only [Bool.or_eq_true, decide_eq_true_iff]; omega) l).imp fun h => of_decide_eq_true h
  exact (h.trans (List.mergeSort_perm _ _).symm).eq_of_pairwise (fun a b _ _ h1 h2 => Int.le_antisymm h1 h2) s h2
/-- compared with a list that a name holds -/
theorem pu_neCT {b : Addr} {d : PyData} {ds : List PyData} (ha : Pu K ta Γ C (.dat d)) (hb : Pu K tv Γ C (.ref b)) (hc : C b = some (.lst (ds.map .dat))) (hd : SeqAt.shaped d = true) (he : SeqAt.shaped (.list ds) = true) : Pu K (tOp (rNeD K) ta tv) Γ C (B (!PyData.eqv d (.list ds))) :=
  pu_op ha hb fun v w H c r1 r2 Q q => by
    obtain ⟨rfl, _⟩ := r2
    obtain ⟨vs, e1, e2⟩ := c b _ hc
    exact ⟨_, _, rx_dp r1, .lst (SqL.of e1) (dpa_H' e2), hd, he, q _ H (Adv.refl c) rx_B⟩
theorem pu_listDT {ds : List PyData} (h : PuA K tr Γ C [T ds]) : PuL K (tCB (fun xs H Q => ∃ p ys, xs = [V.ref p] ∧ (SqL K H p ys ∨ SqT K H p ys) ∧ ∀ l, H l = none → Q (.ref l) (upd H l (.lst ys))) tr) Γ C (ds.map .dat) := fun σ H s Q q =>
  h σ H s _ fun vs H1 a r => by
    cases r with
    | cons r1 rt =>
      cases rt
      cases r1 with
      | tup hs hd => exact ⟨_, _, rfl, .inr (SqT.up hid_le hs), fun l hl => q l _ H1 a hl (rxa_dat hd)⟩
end Ab

/-! Fls: files: worth, copies, what is lacking. -/
namespace Wda
open PySem PySem.Spec PyProof.Rows L2 Ab Lm Hm
instance entDec : DecidableEq Ent
  | .own w n k a, .own w' n' k' a' => if h : w = w' ∧ n = n' ∧ k = k' ∧ a = a' then isTrue (by obtain ⟨rfl, rfl, rfl, rfl⟩ := h; rfl) else isFalse fun e => by cases e; exact h ⟨rfl, rfl, rfl, rfl⟩
  | .cpy w n k a o s, .cpy w' n' k' a' o' s' => if h : w = w' ∧ n = n' ∧ k = k' ∧ a = a' ∧ o = o' ∧ s = s' then isTrue (by obtain ⟨rfl, rfl, rfl, rfl, rfl, rfl⟩ := h; rfl) else isFalse fun e => by cases e; exact h ⟨rfl, rfl, rfl, rfl, rfl, rfl⟩
  | .own _ _ _ _, .cpy _ _ _ _ _ _ => isFalse fun e => by cases e
  | .cpy _ _ _ _ _ _, .own _ _ _ _ => isFalse fun e => by cases e
def EOk : Ent → Prop
  | .own w _ _ _ => w ∈ (["made", "treated"] : List Str)
  | .cpy w _ _ _ _ _ => w ∈ (["gave", "took"] : List Str)
theorem EnK.eok {m kd : Nat} {l : Int} {i : Nat} {e : Ent} (h : EnK m kd l i e) : EOk e := by
  cases e with
  | own w n k a => exact h.1
  | cpy w n k a o s => exact h.1
theorem ent_sh {e : Ent} (h : EOk e) : Sh 1 (entD e) := by
  cases e with
  | own w n k a => exact sh_tup (sh_cons sh_int (sh_cons (sh_str (str_ok h (by decide +kernel))) (sh_cons sh_int (sh_cons sh_int sh_nil))))
  | cpy w n k a o s => exact sh_tup (sh_cons sh_int (sh_cons (sh_str (str_ok h (by decide +kernel))) (sh_cons sh_int (sh_cons sh_int (sh_cons sh_int (sh_cons sh_bool sh_nil))))))
theorem ents_sh {f : List Ent} (h : ∀ e ∈ f, EOk e) : Sh 2 (.tuple (f.map entD)) := sh_tup fun d hd => by
  obtain ⟨e, he, rfl⟩ := List.mem_map.mp hd
  exact ent_sh (h e he)
theorem ent_eqv (a b : Ent) : PyData.eqv (entD a) (entD b) = decide (a = b) := by
  rw [Bool.eq_iff_iff, decide_eq_true_iff]
  cases a <;> cases b <;> simp [entD, PyData.eqv, PyData.eqvAll] <;> exact and_left_comm
theorem any_eqv (f : List Ent) (e : Ent) : ((f.map entD).any fun z => PyData.eqv z (entD e)) = decide (e ∈ f) := by
  rw [Bool.eq_iff_iff, decide_eq_true_iff, List.any_eq_true]
  constructor
  · rintro ⟨d, hd, h⟩
    obtain ⟨x, hx, rfl⟩ := List.mem_map.mp hd
    rw [ent_eqv, decide_eq_true_iff] at h
    exact h ▸ hx
  · intro h
    exact ⟨_, List.mem_map_of_mem h, by rw [ent_eqv, decide_eq_true rfl]⟩
def valM (e : Ent) : Int := if e.w ∈ (["made", "took"] : List Str) then e.a else -e.a
abbrev dflE : Ent := .own "" 0 0 0
def isC (e : Ent) : Bool := decide (e.w ∈ (["gave", "took"] : List Str))
def trnM (w : Str) : Str := if w = "gave" then "took" else "gave"
def stdM (f : List Ent) (k n : Int) : Int := ((f.filter fun e => decide (e.k = k) && decide (e.n < n)).map valM).sum
def endM (f : List Ent) (k : Int) : Int := ((f.filter fun e => decide (e.k = k)).map valM).sum
def keyE : Ent → List Leaf
  | .own w n k a => [.num n, .text w, .num k, .num a]
  | .cpy w n k a o s => [.num n, .text w, .num k, .num a, .num o, .num (if s = true then 1 else 0)]
theorem keyE_d (e : Ent) : KeyD (entD e) (keyE e) := by
  cases e with
  | own w n k a => exact ⟨_, rfl, .cons rfl (.cons rfl (.cons rfl (.cons rfl .nil)))⟩
  | cpy w n k a o s => exact ⟨_, rfl, .cons rfl (.cons rfl (.cons rfl (.cons rfl (.cons rfl (.cons rfl .nil)))))⟩
theorem keyE_inj {a b : Ent} (h : keyE a = keyE b) : a = b := by
  cases a <;> cases b <;> simp [keyE] at h
  · obtain ⟨rfl, rfl, rfl, rfl⟩ := h; rfl
  · rename_i s1 _ _ _ _ _ s2
    obtain ⟨rfl, rfl, rfl, rfl, rfl, h⟩ := h
    cases s1 <;> cases s2 <;> simp at h <;> rfl
/-- what the own copies are, as a dict -/
def ownT (f : List Ent) : List TRow := f.map fun e => (keyE e, entD e, .bool true)
theorem ownT_has (f : List Ent) (e : Ent) : hasL (tabL (ownT f)) (keyE e) = decide (e ∈ f) := by
  rw [hasL_tab, Bool.eq_iff_iff, decide_eq_true_iff, List.any_eq_true]
  constructor
  · rintro ⟨x, hx, h⟩
    obtain ⟨y, hy, rfl⟩ := List.mem_map.mp hx
    rw [← keyE_inj (of_decide_eq_true h)]
    exact hy
  · intro h
    exact ⟨_, List.mem_map_of_mem h, decide_eq_true rfl⟩
/-- the other copy -/
def othM (i : Int) : Ent → Ent
  | .own w n k a => .own w n k a
  | .cpy w n k a o s => .cpy (trnM w) n k a i s
def Ent.o : Ent → Int
  | .own _ _ _ _ => -1
  | .cpy _ _ _ _ o _ => o
def isCp : Ent → Bool
  | .own _ _ _ _ => false
  | .cpy _ _ _ _ _ _ => true
theorem isC_cp {e : Ent} (h : EOk e) : isC e = isCp e := by
  cases e with
  | own w n k a =>
    refine decide_eq_false ?_
    have h : w ∈ (["made", "treated"] : List Str) := h
    show ¬ w ∈ (["gave", "took"] : List Str)
    simp only [List.mem_cons, List.not_mem_nil, or_false] at h
    rcases h with rfl | rfl <;> decide
  | cpy w n k a o s => exact decide_eq_true h
/-- an entry of the file of i lacks its other copy at party p -/
def lckC (fs : List (List Ent)) (p : Int) (i : Nat) (e : Ent) : Bool := isCp e && (decide (e.o = p) && !decide (othM (i : Int) e ∈ fs.getD p.toNat []))
def lckF (fs : List (List Ent)) (p : Int) (i : Nat) (f : List Ent) : List (Nat × Ent) := (f.filter (lckC fs p i)).map fun e => (i, e)
def lckM (fs : List (List Ent)) (p : Int) : List (Nat × Ent) := (fs.mapIdx (lckF fs p)).flatten
def lckS (fs : List (List Ent)) (p : Int) (i : Nat) : List (Nat × Ent) := ((fs.mapIdx (lckF fs p)).take i).flatten
def lckD (q : Nat × Ent) : PyData := .tuple [.int (q.1 : Int), entD q.2]
theorem lckS_succ {fs : List (List Ent)} {p : Int} {i : Nat} {f : List Ent} (h : fs[i]? = some f) : lckS fs p (i + 1) = lckS fs p i ++ lckF fs p i f := by
  unfold lckS
  rw [List.take_add_one, List.getElem?_mapIdx, h, List.flatten_append]
  simp
theorem lckS_end {fs : List (List Ent)} {p : Int} : lckS fs p fs.length = lckM fs p := by
  unfold lckS lckM
  rw [List.take_of_length_le (by rw [List.length_mapIdx]; exact Nat.le_refl _)]
theorem lckF_succ {fs : List (List Ent)} {p : Int} {i j : Nat} {f : List Ent} {e : Ent} (h : f[j]? = some e) : lckF fs p i (f.take (j + 1)) = lckF fs p i (f.take j) ++ (if lckC fs p i e = true then [(i, e)] else []) := by
  unfold lckF
  rw [List.take_add_one, h, List.filter_append, List.map_append]
  simp only [Option.toList_some, List.filter_cons, List.filter_nil]
  split <;> rfl
theorem lckF_len (fs : List (List Ent)) (p : Int) (i : Nat) (f : List Ent) : (lckF fs p i f).length ≤ f.length := by
  unfold lckF
  rw [List.length_map]
  exact List.length_filter_le _ _
theorem lckS_len {fs : List (List Ent)} {p : Int} {b : Nat} (h : ∀ f ∈ fs, f.length ≤ b) : ∀ i, (lckS fs p i).length ≤ i * b
  | 0 => by simp [lckS]
  | i + 1 => by
    have ih := lckS_len (p := p) h i
    cases e : fs[i]? with
    | none =>
      have : lckS fs p (i + 1) = lckS fs p i := by
        unfold lckS
        rw [List.take_add_one, List.getElem?_mapIdx, e]
        simp
      rw [this, Nat.succ_mul]
      omega
    | some f =>
      rw [lckS_succ e, List.length_append, Nat.succ_mul]
      have h1 := lckF_len fs p i f
      have h2 := h f (List.mem_of_getElem? e)
      omega
def rel_change : Rel := fun C xs R => ∃ e : Ent, xs = [.dat (entD e)] ∧ R (I (valM e)) C
def rel_standing : Rel := fun C xs R => ∃ (f : List Ent) (k n : Int), xs = [T (f.map entD), I k, I n] ∧ f.length < 100000 ∧ R (I (stdM f k n)) C
def rel_standing_in_the_end : Rel := fun C xs R => ∃ (f : List Ent) (k : Int), xs = [T (f.map entD), I k] ∧ f.length < 100000 ∧ R (I (endM f k)) C
def rel_is_copy : Rel := fun C xs R => ∃ e : Ent, xs = [.dat (entD e)] ∧ R (B (isC e)) C
def rel_other_copy : Rel := fun C xs R => ∃ (p n k a o : Int) (w : Str) (s : Bool), xs = [I p, .dat (entD (.cpy w n k a o s))] ∧ R (.dat (entD (.cpy (trnM w) n k a p s))) C
def rel_has_entry : Rel := fun C xs R => ∃ (f : List Ent) (e : Ent), xs = [T (f.map entD), .dat (entD e)] ∧ (∀ x ∈ f, EOk x) ∧ EOk e ∧ R (B (decide (e ∈ f))) C
def optE : Option Ent → PyData
  | some e => entD e
  | none => .none
def rel_entry_at : Rel := fun C xs R => ∃ (f : List Ent) (n : Int), xs = [T (f.map entD), I n] ∧ R (.dat (optE (f.find? fun e => decide (e.n = n)))) C
def rel_lacking : Rel := fun C xs R => ∃ (kd : Nat) (pf : List (Bool × Bool)) (fs : List (List Ent)) (fi : List Fnd) (p : Int), xs = [.dat (evidD kd pf fs fi), I p] ∧ 0 ≤ p ∧ p < fs.length ∧ fs.length ≤ 100 ∧ (∀ f ∈ fs, f.length ≤ 500 ∧ ∀ e ∈ f, EOk e) ∧ R (Ls ((lckM fs p).map lckD)) C
def rel__law_worth : Rel := fun C xs R => ∃ e : Ent, xs = [.dat (entD e)] ∧ R (I (valM e)) C
theorem ent_0 (e : Ent) : ∃ ds, entD e = .tuple ds ∧ atI ds 0 = some (.int e.n) ∧ atI ds 1 = some (.str e.w) ∧ atI ds 2 = some (.int e.k) ∧ atI ds 3 = some (.int e.a) := by
  cases e <;> exact ⟨_, rfl, rfl, rfl, rfl, rfl⟩
theorem files_get {fs : List (List Ent)} {p : Int} (p0 : 0 ≤ p) (p1 : p < fs.length) : atI ((filesD fs).map PyData.tuple) p = some (.tuple ((fs.getD p.toNat []).map entD)) := by
  rw [show p = ((p.toNat : Nat) : Int) by omega]
  refine atI_nat ?_
  unfold filesD
  rw [List.getElem?_map, List.getElem?_map, List.getD_eq_getElem?_getD, show (((p.toNat : Nat) : Int)).toNat = p.toNat by omega, List.getElem?_eq_getElem (show p.toNat < fs.length by omega)]
  rfl
theorem ls_id {α β : Type} (d : α) (p : α → Bool) (f : α → β) (l : List α) : ((List.range (l.map f).length).filter (fun i => p (l.getD i d))).map (fun i => l.getD i d) = l.filter p := by
  rw [List.length_map, filter_range d p (fun x => x), List.map_id']
end Wda

/-! Trl: a trail as an instance in the store, what its methods promise. -/
namespace Trl
open PySem PySem.Spec PyProof.Rows L2 Ab Lm Hm Wda
def trF (A : Wa) (W : Wd) : List (Str × Ax) := [("_kinds", I W.kd), ("_parties", T (W.pf.map pfD)), ("_have", .ref A.p), ("_files", .ref A.q), ("_finds", .ref A.fd), ("_events", .ref A.ev), ("_given", I W.last), ("_liars", .ref A.li)]
def liD (ls : List Int) : List (Key × Ax) := ls.map fun i => ((Sum.inl i : Key), B true)
structure TrAt (C : Cs) (CL : Addr) (A : Wa) (W : Wd) : Prop where
  six : A.six.Nodup
  psN : ∀ a ∈ A.ps, a ∉ A.six ∧ a ∉ A.qs
  qsN : ∀ a ∈ A.qs, a ∉ A.six
  ins : C A.w = some (.ins CL (trF A W))
  stock : GridA C A.p A.ps (rowsD W.stock)
  files : GridA C A.q A.qs (filesD W.files)
  fd : C A.fd = some (.lst ((W.finds.map fndD).map .dat))
  ev : C A.ev = some (.lst ((W.events.map evD).map .dat))
  li : C A.li = some (.dic (liD W.liars))
variable {C : Cs} {CL : Addr} {A : Wa} {W : Wd}
theorem tr_kinds : (trF A W).lookup ("_kinds" : Str) = some (I W.kd) := by rfl
theorem tr_parties : (trF A W).lookup ("_parties" : Str) = some (T (W.pf.map pfD)) := by rfl
theorem tr_have : (trF A W).lookup ("_have" : Str) = some (Ax.ref A.p) := by rfl
theorem tr_files : (trF A W).lookup ("_files" : Str) = some (Ax.ref A.q) := by rfl
theorem tr_finds : (trF A W).lookup ("_finds" : Str) = some (Ax.ref A.fd) := by rfl
theorem tr_events : (trF A W).lookup ("_events" : Str) = some (Ax.ref A.ev) := by rfl
theorem tr_given : (trF A W).lookup ("_given" : Str) = some (I W.last) := by rfl
theorem tr_liars : (trF A W).lookup ("_liars" : Str) = some (Ax.ref A.li) := by rfl
theorem tr_put (n : Int) : putA "_given" (I n) (trF A W) = trF A { W with last := n } := by rfl
theorem tr_len : (trF A W).length < 1000 := by show 8 < 1000; decide
theorem TrAt.six_in (h : TrAt C CL A W) {a : Addr} (ha : a ∈ A.six) : a ∉ A.ps ∧ a ∉ A.qs := ⟨fun z => (h.psN a z).1 ha, fun z => h.qsN a z ha⟩
theorem TrAt.setLast (h : TrAt C CL A W) (n : Int) : TrAt (updC C A.w (.ins CL (trF A { W with last := n }))) CL A { W with last := n } := by
  obtain ⟨⟨a1, a2, a3, a4, a5⟩, _⟩ := six_ne h.six
  have s := h.six_in (a := A.w) (by simp [Wa.six])
  exact ⟨h.six, h.psN, h.qsN, by rw [updC_same], h.stock.keep a1 s.1, h.files.keep a2 s.2, by rw [updC_ne (Ne.symm a3)]; exact h.fd, by rw [updC_ne (Ne.symm a4)]; exact h.ev, by rw [updC_ne (Ne.symm a5)]; exact h.li⟩
theorem TrAt.setFd (h : TrAt C CL A W) (fi : List Fnd) : TrAt (updC C A.fd (.lst ((fi.map fndD).map .dat))) CL A { W with finds := fi } := by
  obtain ⟨⟨_, _, a3, _, _⟩, ⟨b1, b2, b3, b4⟩, _⟩ := six_ne h.six
  have s := h.six_in (a := A.fd) (by simp [Wa.six])
  exact ⟨h.six, h.psN, h.qsN, by rw [updC_ne a3]; exact h.ins, h.stock.keep b1 s.1, h.files.keep b2 s.2, updC_same, by rw [updC_ne (Ne.symm b3)]; exact h.ev, by rw [updC_ne (Ne.symm b4)]; exact h.li⟩
theorem TrAt.setEv (h : TrAt C CL A W) (es : List Evt) : TrAt (updC C A.ev (.lst ((es.map evD).map .dat))) CL A { W with events := es } := by
  obtain ⟨⟨_, _, _, a4, _⟩, ⟨_, _, b3, _⟩, ⟨c1, c2, c3⟩, _⟩ := six_ne h.six
  have s := h.six_in (a := A.ev) (by simp [Wa.six])
  exact ⟨h.six, h.psN, h.qsN, by rw [updC_ne a4]; exact h.ins, h.stock.keep c1 s.1, h.files.keep c2 s.2, by rw [updC_ne b3]; exact h.fd, updC_same, by rw [updC_ne (Ne.symm c3)]; exact h.li⟩
theorem TrAt.setLi (h : TrAt C CL A W) (ls : List Int) : TrAt (updC C A.li (.dic (liD ls))) CL A { W with liars := ls } := by
  obtain ⟨⟨_, _, _, _, a5⟩, ⟨_, _, _, b4⟩, ⟨_, _, c3⟩, d1, d2⟩ := six_ne h.six
  have s := h.six_in (a := A.li) (by simp [Wa.six])
  exact ⟨h.six, h.psN, h.qsN, by rw [updC_ne a5]; exact h.ins, h.stock.keep d1 s.1, h.files.keep d2 s.2, by rw [updC_ne b4]; exact h.fd, by rw [updC_ne c3]; exact h.ev, updC_same⟩
theorem TrAt.setF (h : TrAt C CL A W) {i : Nat} {r : Addr} (hr : A.qs[i]? = some r) (f : List Ent) : TrAt (updC C r (.lst ((f.map entD).map .dat))) CL A { W with files := W.files.set i f } := by
  have hm := List.mem_of_getElem? hr
  obtain ⟨a1, a2, a3, a4, a5, a6⟩ := not_six (h.qsN r hm)
  refine ⟨h.six, h.psN, h.qsN, by rw [updC_ne (Ne.symm a1)]; exact h.ins, h.stock.keep a2 (fun z => (h.psN r z).2 hm), ?_, by rw [updC_ne (Ne.symm a4)]; exact h.fd, by rw [updC_ne (Ne.symm a5)]; exact h.ev, by rw [updC_ne (Ne.symm a6)]; exact h.li⟩
  have := h.files.put hr (f.map entD)
  unfold filesD at this ⊢
  rw [List.map_set]
  exact this
theorem TrAt.setS (h : TrAt C CL A W) {i : Nat} {r : Addr} (hr : A.ps[i]? = some r) (row : List Int) : TrAt (updC C r (.lst ((rowD row).map .dat))) CL A { W with stock := W.stock.set i row } := by
  have hm := List.mem_of_getElem? hr
  obtain ⟨a1, a2, a3, a4, a5, a6⟩ := not_six (h.psN r hm).1
  refine ⟨h.six, h.psN, h.qsN, by rw [updC_ne (Ne.symm a1)]; exact h.ins, ?_, h.files.keep a3 (h.psN r hm).2, by rw [updC_ne (Ne.symm a4)]; exact h.fd, by rw [updC_ne (Ne.symm a5)]; exact h.ev, by rw [updC_ne (Ne.symm a6)]; exact h.li⟩
  have := h.stock.put hr (rowD row)
  rw [rowsD_set] at this
  exact this
/-- the file of party i -/
theorem TrAt.file (h : TrAt C CL A W) {i : Int} (h0 : 0 ≤ i) (h1 : i.toNat < W.files.length) : ∃ r, A.qs[i.toNat]? = some r ∧ C r = some (.lst (((W.file i).map entD).map .dat)) ∧ atI (A.qs.map Ax.ref) i = some (.ref r) := by
  obtain ⟨r, e1, e2, e3⟩ := h.files.at_ (i := i.toNat) (by simpa [filesD] using h1)
  refine ⟨r, e1, ?_, by rwa [show ((i.toNat : Nat) : Int) = i by omega] at e3⟩
  rw [e2]
  unfold filesD Wd.file
  rw [List.getD_eq_getElem?_getD, List.getD_eq_getElem?_getD, List.getElem?_map]
  cases W.files[i.toNat]? <;> rfl
/-- the row of party i -/
theorem TrAt.row (h : TrAt C CL A W) {i : Int} (h0 : 0 ≤ i) (h1 : i.toNat < W.stock.length) : ∃ r, A.ps[i.toNat]? = some r ∧ C r = some (.lst ((rowD (W.stock.getD i.toNat [])).map .dat)) ∧ atI (A.ps.map Ax.ref) i = some (.ref r) := by
  obtain ⟨r, e1, e2, e3⟩ := h.stock.at_ (i := i.toNat) (by simpa [rowsD] using h1)
  refine ⟨r, e1, ?_, by rwa [show ((i.toNat : Nat) : Int) = i by omega] at e3⟩
  rw [e2, rowsD_get]
/-- what is done to a trail -/
def AftT (C : Cs) (CL : Addr) (A : Wa) (W' : Wd) (x : Ax) (R : Ax → Cs → Prop) : Prop := ∀ C', Only A.own C C' → TrAt C' CL A W' → R x C'
section
variable {K : Kw} {An : Anc} {Γ : Gm} {E : En} {ts te tp tk tq tw : TE} {rest : TS}
theorem row_get {st : Stk} {m kd : Nat} {p k : Int} (S : Shp m kd st) (p0 : 0 ≤ p) (p1 : p < m) (k0 : 0 ≤ k) (k1 : k < kd) : ((rowD (st.getD p.toNat [])).map Ax.dat)[k.toNat]? = some (I (getM st p k)) := by
  have l1 := S.row (i := p.toNat) (by omega)
  rw [List.getElem?_map]
  unfold rowD getM
  rw [List.getElem?_map, List.getElem?_eq_getElem (by rw [l1]; omega), List.getD_eq_getElem?_getD (l := st.getD p.toNat []), List.getElem?_eq_getElem (by rw [l1]; omega)]
  rfl
theorem pu_tst {p k : Int} (h : TrAt C CL A W) (S : Shp W.pf.length W.kd W.stock) (p0 : 0 ≤ p) (p1 : p < W.pf.length) (k0 : 0 ≤ k) (k1 : k < W.kd) (hs : Pu K ts Γ C (.ref A.p)) (hp : Pu K tp Γ C (I p)) (hk : Pu K tk Γ C (I k)) :
    Pu K (tOp (rIxL K) (tOp (rIxL K) ts tp) tk) Γ C (I (getM W.stock p k)) := by
  obtain ⟨r, e1, e2, e3⟩ := h.row p0 (by rw [S.1]; omega)
  refine pu_ixM (pu_ixM hs hp h.stock.top e3) hk e2 ?_
  rw [show k = ((k.toNat : Nat) : Int) by omega]
  exact atI_nat (by rw [show ((k.toNat : Nat) : Int) = k by omega]; exact row_get S p0 p1 k0 k1)
/-- have[p][k] += a, or -= -/
theorem ds_tst {p k a b : Int} {f : Int → Int → Int} (h : TrAt C CL A W) (S : Shp W.pf.length W.kd W.stock) (p0 : 0 ≤ p) (p1 : p < W.pf.length) (k0 : 0 ≤ k) (k1 : k < W.kd) (hf : f (getM W.stock p k) b = getM W.stock p k + a) (hs : Pu K ts Γ C (.ref A.p)) (hp : Pu K tp Γ C (I p)) (hk : Pu K tk Γ C (I k)) (hv : Pu K te Γ C (I b))
    (kk : ∀ C', Only A.own C C' → TrAt C' CL A { W with stock := addM W.stock p k a } → Ds K An rest E Γ C') : Ds K An (tSeq (tAugS (tOp (rIxL K) ts tp) tk te (rGetL K) (ipI f) rSetL) rest) E Γ C := by
  obtain ⟨r, e1, e2, e3⟩ := h.row p0 (by rw [S.1]; omega)
  refine ds_augix (pu_ixM hs hp h.stock.top e3) hk hv e2 (j := k.toNat) (by omega) (row_get S p0 p1 k0 k1) ?_
  have e : ((rowD (W.stock.getD p.toNat [])).map Ax.dat).set k.toNat (I (getM W.stock p k + a)) = (rowD ((W.stock.getD p.toNat []).set k.toNat (getM W.stock p k + a))).map .dat := by
    rw [← rowD_set, List.map_set]
  rw [hf, e]
  exact kk _ (Only.refl.put (own_ps e1)) (h.setS e1 _)
theorem ds_tfile {p : Int} {e : Ent} (h : TrAt C CL A W) (p0 : 0 ≤ p) (p1 : p.toNat < W.files.length) (hz : (W.file p).length < 100000) (hq : Pu K tq Γ C (.ref A.q)) (hp : Pu K tp Γ C (I p)) (he : Pu K te Γ C (.dat (entD e)))
    (kk : ∀ C', Only A.own C C' → TrAt C' CL A { W with files := addF W.files p e } → Ds K An rest E Γ C') : Ds K An (tSeq (tDrop (tBM K "list" rAppend (tOp (rIxL K) tq tp) (tCons te tNil))) rest) E Γ C := by
  obtain ⟨r, e1, e2, e3⟩ := h.file p0 p1
  refine ds_drop (ev_app (pu_ixM hq hp h.files.top e3) he e2 (by simpa using hz)) fun x C' ⟨_, ec⟩ => ?_
  subst ec
  rw [show [Ax.dat (entD e)] = ([e].map entD).map .dat from rfl, ← List.map_append, ← List.map_append]
  exact kk _ (Only.refl.put (own_qs e1)) (h.setF e1 _)
theorem ds_tev {e : Evt} (h : TrAt C CL A W) (hz : W.events.length < 100000) (ho : Pu K tw Γ C (.ref A.ev)) (he : Pu K te Γ C (.dat (evD e))) (kk : ∀ C', Only A.own C C' → TrAt C' CL A { W with events := W.events ++ [e] } → Ds K An rest E Γ C') :
    Ds K An (tSeq (tDrop (tBM K "list" rAppend tw (tCons te tNil))) rest) E Γ C := by
  refine ds_drop (ev_app ho he h.ev (by simpa using hz)) fun x C' ⟨_, ec⟩ => ?_
  subst ec
  rw [show [Ax.dat (evD e)] = ([e].map evD).map .dat from rfl, ← List.map_append, ← List.map_append]
  exact kk _ (Only.refl.put own_ev) (h.setEv _)
theorem ds_tfd {e : Fnd} (h : TrAt C CL A W) (hz : W.finds.length < 100000) (ho : Pu K tw Γ C (.ref A.fd)) (he : Pu K te Γ C (.dat (fndD e))) (kk : ∀ C', Only A.own C C' → TrAt C' CL A { W with finds := W.finds ++ [e] } → Ds K An rest E Γ C') :
    Ds K An (tSeq (tDrop (tBM K "list" rAppend tw (tCons te tNil))) rest) E Γ C := by
  refine ds_drop (ev_app ho he h.fd (by simpa using hz)) fun x C' ⟨_, ec⟩ => ?_
  subst ec
  rw [show [Ax.dat (fndD e)] = ([e].map fndD).map .dat from rfl, ← List.map_append, ← List.map_append]
  exact kk _ (Only.refl.put own_fd) (h.setFd _)
theorem setK_li (x : Int) (ls : List Int) : setK (liD ls) (Sum.inl x) (B true) = liD (if x ∈ ls then ls else ls ++ [x]) := by
  unfold setK liD
  have e : ((ls.map fun i => ((Sum.inl i : Key), B true)).any fun kv => decide (kv.1 = Sum.inl x)) = decide (x ∈ ls) := by
    rw [Bool.eq_iff_iff, List.any_eq_true, decide_eq_true_iff]
    constructor
    · rintro ⟨kv, hm, hk⟩
      obtain ⟨i, hi, rfl⟩ := List.mem_map.mp hm
      have h2 := of_decide_eq_true hk
      have h3 : i = x := Sum.inl.inj h2
      rw [← h3]
      exact hi
    · intro h
      exact ⟨_, List.mem_map_of_mem h, decide_eq_true rfl⟩
  rw [e]
  by_cases h : x ∈ ls
  · rw [if_pos (decide_eq_true h), if_pos h, List.map_map]
    refine List.map_congr_left fun i _ => ?_
    show (if (Sum.inl i : Key) = Sum.inl x then ((Sum.inl i : Key), B true) else ((Sum.inl i : Key), B true)) = _
    split <;> rfl
  · rw [if_neg (fun z => h (of_decide_eq_true z)), if_neg h, List.map_append]
    rfl
end
/-! ### promises -/
section
def rel_Trail___init__ (CL : Addr) : Rel := fun C xs R => ∃ (a : Addr) (kd : Nat) (pf : List (Bool × Bool)) (x : Ax), xs = [Ax.ref a, I kd, x] ∧ (x = Ls (pf.map pfD) ∨ x = T (pf.map pfD)) ∧ pf.length ≤ 5 ∧ kd ≤ 2 ∧ C a = some (.ins CL []) ∧
  ∀ A C', A.w = a → (∀ b, (C b).isSome = true → b ≠ a → C' b = C b) → TrAt C' CL A (begM kd pf) → (∀ x ∈ A.p :: A.q :: A.fd :: A.ev :: A.li :: (A.ps ++ A.qs), C x = none) → R No C'
structure TrX (C : Cs) (CL : Addr) (A : Wa) (W : Wd) (b : Nat) : Prop where
  at_ : TrAt C CL A W
  ok : WOk b W
  hb : b < 20000
def PIn (W : Wd) (p : Int) : Prop := 0 ≤ p ∧ p < W.pf.length
def KIn (W : Wd) (k : Int) : Prop := 0 ≤ k ∧ k < W.kd
def rel__check_are_two : RelX := fun C xs R EX => ∃ (p o : Int), xs = [I p, I o] ∧ (p = o → EX "same party") ∧ (p ≠ o → R No C)
def rel_Trail__check_makes (CL : Addr) : RelX := fun C xs R EX => ∃ (A : Wa) (W : Wd) (b : Nat) (p : Int), xs = [Ax.ref A.w, I p] ∧ TrX C CL A W b ∧ PIn W p ∧ ((pfAt W.pf p).1 = false → EX "party does not make waste") ∧ ((pfAt W.pf p).1 = true → R No C)
def rel_Trail__take_away (CL : Addr) : RelX := fun C xs R EX => ∃ (A : Wa) (W : Wd) (b : Nat) (p k a : Int), xs = [Ax.ref A.w, I p, I k, I a] ∧ TrX C CL A W b ∧ PIn W p ∧ KIn W k ∧ (getM W.stock p k < a → EX "not enough waste") ∧ (a ≤ getM W.stock p k → AftT C CL A { W with stock := addM W.stock p k (-a) } No R)
def rel_Trail__move (CL : Addr) : RelX := fun C xs R EX => ∃ (A : Wa) (W : Wd) (b : Nat) (g t k a : Int), xs = [Ax.ref A.w, I g, I t, I k, I a] ∧ TrX C CL A W b ∧ PIn W g ∧ PIn W t ∧ KIn W k ∧ (g = t → EX "same party") ∧ (g ≠ t → getM W.stock g k < a → EX "not enough waste") ∧
  (g ≠ t → a ≤ getM W.stock g k → AftT C CL A { W with stock := addM (addM W.stock g k (-a)) t k a } No R)
def rel_Trail__next_number (CL : Addr) : Rel := fun C xs R => ∃ A W, xs = [Ax.ref A.w] ∧ TrAt C CL A W ∧ AftT C CL A { W with last := W.last + 1 } (I (W.last + 1)) R
def entsT : Evt → List (Int × Ent)
  | .own w n p k a => if w ∈ (["made", "treated"] : List Str) then [(p, .own w n k a)] else []
  | .hand n g t k a s => [(g, .cpy "gave" n k a t s), (t, .cpy "took" n k a g s)]
  | _ => []
def peT (x : Int × Ent) : PyData := .tuple [.int x.1, entD x.2]
/-- an open event -/
def OpE : Evt → Prop
  | .own w _ _ _ _ => w ∈ (["made", "treated", "found"] : List Str)
  | .hand _ _ _ _ _ _ => True
  | _ => False
def rel_entries_of : Rel := fun C xs R => ∃ (e : Evt), xs = [.dat (evD e)] ∧ OpE e ∧ R (Ls ((entsT e).map peT)) C
def putT (W : Wd) (x : Int × Ent) : Wd := { W with files := addF W.files x.1 x.2 }
def noteT (W : Wd) (e : Evt) : Wd := (entsT e).foldl putT W
/-- its parties are those of the trail -/
def EvP (W : Wd) (e : Evt) : Prop := ∀ x ∈ entsT e, PIn W x.1
def rel_Trail__note (CL : Addr) : Rel := fun C xs R => ∃ (A : Wa) (W : Wd) (e : Evt), xs = [Ax.ref A.w, .dat (evD e)] ∧ TrAt C CL A W ∧ W.files.length = W.pf.length ∧ (∀ f ∈ W.files, f.length < 90000) ∧ OpE e ∧ EvP W e ∧ AftT C CL A (noteT W e) No R
def openT (W : Wd) (e : Evt) : Wd := noteT { W with last := W.last + 1, events := W.events ++ [e] } e
def rel_Trail__happen_openly (CL : Addr) : Rel := fun C xs R => ∃ (A : Wa) (W : Wd) (w : Str) (ds : List PyData) (e : Evt), xs = [Ax.ref A.w, S w, T ds] ∧ evD e = .tuple (.str w :: .int (W.last + 1) :: ds) ∧ ds.length ≤ 10 ∧ TrAt C CL A W ∧ W.files.length = W.pf.length ∧ (∀ f ∈ W.files, f.length < 90000) ∧ W.events.length < 90000 ∧ OpE e ∧ EvP W e ∧ AftT C CL A (openT W e) (I (W.last + 1)) R
def rel_Trail__are_dishonest (CL : Addr) : Rel := fun C xs R => ∃ (A : Wa) (W : Wd) (ns : List Int), xs = [Ax.ref A.w, T (ns.map .int)] ∧ TrAt C CL A W ∧ W.liars.length + ns.length < 90000 ∧ AftT C CL A (blmM W ns) No R
/-! the deeds -/
def rel_Trail_make (CL : Addr) : RelX := fun C xs R EX => ∃ (A : Wa) (W : Wd) (b : Nat) (p k a : Int), xs = [Ax.ref A.w, I p, I k, I a] ∧ TrX C CL A W b ∧ PIn W p ∧ KIn W k ∧ ((pfAt W.pf p).1 = false → EX "party does not make waste") ∧ ((pfAt W.pf p).1 = true → AftT C CL A (makM W p k a) (I (W.last + 1)) R)
def rel_Trail_treat (CL : Addr) : RelX := fun C xs R EX => ∃ (A : Wa) (W : Wd) (b : Nat) (p k a : Int), xs = [Ax.ref A.w, I p, I k, I a] ∧ TrX C CL A W b ∧ PIn W p ∧ KIn W k ∧ ((pfAt W.pf p).2 = false → EX "party does not treat waste") ∧ ((pfAt W.pf p).2 = true → getM W.stock p k < a → EX "not enough waste") ∧ ((pfAt W.pf p).2 = true → a ≤ getM W.stock p k → AftT C CL A (treM W p k a) (I (W.last + 1)) R)
def rel_Trail_hand (CL : Addr) : RelX := fun C xs R EX => ∃ (A : Wa) (W : Wd) (b : Nat) (g t k a : Int) (s : Bool), xs = [Ax.ref A.w, I g, I t, I k, I a, B s] ∧ TrX C CL A W b ∧ PIn W g ∧ PIn W t ∧ KIn W k ∧ (g = t → EX "same party") ∧ (g ≠ t → getM W.stock g k < a → EX "not enough waste") ∧ (g ≠ t → a ≤ getM W.stock g k → AftT C CL A (hanM W g t k a s) (I (W.last + 1)) R)
def rel_Trail_inspect (CL : Addr) : Rel := fun C xs R => ∃ (A : Wa) (W : Wd) (b : Nat) (p k : Int), xs = [Ax.ref A.w, I p, I k] ∧ TrX C CL A W b ∧ PIn W p ∧ KIn W k ∧ AftT C CL A (insM W p k) (I (getM W.stock p k)) R
def rel_Trail_pass_on (CL : Addr) : RelX := fun C xs R EX => ∃ (A : Wa) (W : Wd) (b : Nat) (g t k a : Int), xs = [Ax.ref A.w, I g, I t, I k, I a] ∧ TrX C CL A W b ∧ PIn W g ∧ PIn W t ∧ KIn W k ∧ (g = t → EX "same party") ∧ (g ≠ t → getM W.stock g k < a → EX "not enough waste") ∧ (g ≠ t → a ≤ getM W.stock g k → AftT C CL A (blmM (pasM W g t k a) [g, t]) No R)
def rel_Trail_dump (CL : Addr) : RelX := fun C xs R EX => ∃ (A : Wa) (W : Wd) (b : Nat) (p k a : Int), xs = [Ax.ref A.w, I p, I k, I a] ∧ TrX C CL A W b ∧ PIn W p ∧ KIn W k ∧ (getM W.stock p k < a → EX "not enough waste") ∧ (a ≤ getM W.stock p k → AftT C CL A (blmM (dumM W p k a) [p]) No R)
def rel_Trail_conjure (CL : Addr) : RelX := fun C xs R EX => ∃ (A : Wa) (W : Wd) (b : Nat) (p k a : Int), xs = [Ax.ref A.w, I p, I k, I a] ∧ TrX C CL A W b ∧ PIn W p ∧ KIn W k ∧ ((pfAt W.pf p).1 = false → EX "party does not make waste") ∧ ((pfAt W.pf p).1 = true → AftT C CL A (blmM (conM W p k a) [p]) No R)
def rel_Trail_sign (CL : Addr) : RelX := fun C xs R EX => ∃ (A : Wa) (W : Wd) (b : Nat) (g t k a : Int) (s : Bool), xs = [Ax.ref A.w, I g, I t, I k, I a, B s] ∧ TrX C CL A W b ∧ PIn W g ∧ PIn W t ∧ (g = t → EX "same party") ∧ (g ≠ t → AftT C CL A (blmM (notM W g t k a s) [g, t]) (I (W.last + 1)) R)
/-- the entry that is written -/
def wrT (n : Int) (w : Str) (o k a : Int) : Ent := if w ∈ (["gave", "took"] : List Str) then .cpy w n k a o false else .own w n k a
def wriT (W : Wd) (p : Int) (w : Str) (o k a : Int) : Wd := { W with last := W.last + 1, files := addF W.files p (wrT (W.last + 1) w o k a) }
def rel_Trail_write (CL : Addr) : RelX := fun C xs R EX => ∃ (A : Wa) (W : Wd) (b : Nat) (p : Int) (w : Str) (k a o : Int), xs = [Ax.ref A.w, I p, S w, I k, I a, I o] ∧ TrX C CL A W b ∧ PIn W p ∧ (w ∈ (["gave", "took"] : List Str) → p = o → EX "same party") ∧
  (¬(w ∈ (["gave", "took"] : List Str) ∧ p = o) → AftT C CL A (blmM (wriT W p w o k a) [p]) (I (W.last + 1)) R)
def omiT (W : Wd) (p : Int) (j : Nat) : Wd := { W with files := W.files.set p.toNat ((W.file p).eraseIdx j) }
def rel_Trail_omit (CL : Addr) : RelX := fun C xs R EX => ∃ (A : Wa) (W : Wd) (b : Nat) (p n : Int), xs = [Ax.ref A.w, I p, I n] ∧ TrX C CL A W b ∧ PIn W p ∧ ((∀ e ∈ W.file p, e.n ≠ n) → EX "no such entry") ∧
  (∀ (j : Nat) e, (W.file p)[j]? = some e → e.n = n → (∀ (m : Nat) x, m < j → (W.file p)[m]? = some x → x.n ≠ n) → AftT C CL A (blmM (omiT W p j) [p]) No R)
def rel_Trail_numbers (CL : Addr) : Rel := fun C xs R => ∃ A W, xs = [Ax.ref A.w] ∧ TrAt C CL A W ∧ R (I W.last) C
def rel_Trail_stock (CL : Addr) : Rel := fun C xs R => ∃ (A : Wa) (W : Wd) (b : Nat) (p k : Int), xs = [Ax.ref A.w, I p, I k] ∧ TrX C CL A W b ∧ PIn W p ∧ KIn W k ∧ R (I (getM W.stock p k)) C
def rel_Trail_dishonest (CL : Addr) : Rel := fun C xs R => ∃ A W, xs = [Ax.ref A.w] ∧ TrAt C CL A W ∧ W.liars.length < 64 ∧ R (T ((srtT W.liars).map .int)) C
def rel_Trail_evidence (CL : Addr) : Rel := fun C xs R => ∃ A W, xs = [Ax.ref A.w] ∧ TrAt C CL A W ∧ W.files.length ≤ 1000 ∧ R (.dat (evidD W.kd W.pf W.files W.finds)) C
def rel_Trail_history (CL : Addr) : Rel := fun C xs R => ∃ A W, xs = [Ax.ref A.w] ∧ TrAt C CL A W ∧ R (Ls (W.events.map evD)) C
/-- entry_at of a list -/
def rel_entry_atL : Rel := fun C xs R => ∃ (r : Addr) (f : List Ent) (n : Int), xs = [.ref r, I n] ∧ C r = some (.lst ((f.map entD).map .dat)) ∧ R (.dat (optE (f.find? fun e => decide (e.n = n)))) C
end
theorem noteT_hand (W : Wd) (n g t k a : Int) (s : Bool) : noteT W (.hand n g t k a s) = { W with files := addF (addF W.files g (.cpy "gave" n k a t s)) t (.cpy "took" n k a g s) } := rfl
end Trl

/-! Trm: what the open events of a trail do. -/
namespace Trl
open PySem PySem.Spec PyProof.Rows L2 Ab Lm Hm Wda
theorem entsT_own (w : Str) (n p k a : Int) : entsT (.own w n p k a) = if w ∈ (["made", "treated"] : List Str) then [(p, .own w n k a)] else [] := rfl
theorem entsT_len (e : Evt) : (entsT e).length ≤ 2 := by
  cases e with
  | own w n p k a =>
    rw [entsT_own]
    split <;> simp
  | hand n g t k a s => simp [entsT]
  | pass g t k a => simp [entsT]
  | sec w p k a => simp [entsT]
theorem foldl_putT : ∀ (xs : List (Int × Ent)) (W : Wd), (xs.foldl putT W).files.length = W.files.length ∧ (xs.foldl putT W).pf = W.pf ∧ ∀ n, (∀ f ∈ W.files, f.length ≤ n) → ∀ f ∈ (xs.foldl putT W).files, f.length ≤ n + xs.length
  | [], W => ⟨rfl, rfl, fun n h f hf => by have := h f hf; simp; omega⟩
  | x :: xs, W => by
    obtain ⟨h1, h2, h3⟩ := foldl_putT xs (putT W x)
    refine ⟨?_, h2, fun n h f hf => ?_⟩
    · rw [List.foldl_cons, h1]
      show (addF W.files x.1 x.2).length = _
      rw [addF_len]
    · rw [List.foldl_cons] at hf
      have := h3 (n + 1) (fun f hf => addF_mem h f hf) f hf
      rw [List.length_cons]
      omega
theorem open_made (W : Wd) (p k a : Int) : openT W (.own "made" (W.last + 1) p k a) = { W with last := W.last + 1, files := addF W.files p (.own "made" (W.last + 1) k a), events := W.events ++ [.own "made" (W.last + 1) p k a] } := by
  have e : entsT (.own "made" (W.last + 1) p k a) = [(p, .own "made" (W.last + 1) k a)] := by rw [entsT_own, if_pos (by simp)]
  unfold openT noteT
  rw [e]
  rfl
theorem open_treated (W : Wd) (p k a : Int) : openT W (.own "treated" (W.last + 1) p k a) = { W with last := W.last + 1, files := addF W.files p (.own "treated" (W.last + 1) k a), events := W.events ++ [.own "treated" (W.last + 1) p k a] } := by
  have e : entsT (.own "treated" (W.last + 1) p k a) = [(p, .own "treated" (W.last + 1) k a)] := by rw [entsT_own, if_pos (by simp)]
  unfold openT noteT
  rw [e]
  rfl
theorem ents_found (n p k a : Int) : entsT (.own "found" n p k a) = [] := by rw [entsT_own, if_neg (by decide)]
theorem open_found (W : Wd) (p k a : Int) : openT W (.own "found" (W.last + 1) p k a) = { W with last := W.last + 1, events := W.events ++ [.own "found" (W.last + 1) p k a] } := by
  unfold openT noteT
  rw [ents_found]
  rfl
theorem evp_own {W : Wd} {w : Str} {n p k a : Int} (h : PIn W p) : EvP W (.own w n p k a) := fun x hx => by
  rw [entsT_own] at hx
  split at hx
  · rw [List.mem_singleton.mp hx]; exact h
  · cases hx
theorem evp_hand {W : Wd} {n g t k a : Int} {s : Bool} (h : PIn W g) (h2 : PIn W t) : EvP W (.hand n g t k a s) := fun x hx => by
  simp only [entsT, List.mem_cons, List.not_mem_nil, or_false] at hx
  rcases hx with rfl | rfl
  · exact h
  · exact h2
theorem TrX.fb {C : Cs} {CL : Addr} {A : Wa} {W : Wd} {b : Nat} (h : TrX C CL A W b) : ∀ f ∈ W.files, f.length < 90000 := fun f hf => by
  have := h.ok.fb f hf
  have := h.hb
  omega
theorem ents_shL {f : List Ent} (h : ∀ e ∈ f, EOk e) : Sh 2 (.list (f.map entD)) := sh_list fun d hd => by
  obtain ⟨e, he, rfl⟩ := List.mem_map.mp hd
  exact ent_sh (h e he)
theorem find_first {n : Int} : ∀ {f : List Ent} {e : Ent}, f.find? (fun e => decide (e.n = n)) = some e → ∃ j : Nat, f[j]? = some e ∧ e.n = n ∧ ∀ (m : Nat) x, m < j → f[m]? = some x → x.n ≠ n
  | [], _, h => by cases h
  | x :: f, e, h => by
    rw [List.find?_cons] at h
    cases hx : decide (x.n = n) with
    | true =>
      rw [hx] at h
      cases h
      exact ⟨0, rfl, of_decide_eq_true hx, fun m y hm => absurd hm (Nat.not_lt_zero _)⟩
    | false =>
      rw [hx] at h
      obtain ⟨j, h1, h2, h3⟩ := find_first h
      refine ⟨j + 1, h1, h2, fun m y hm hy => ?_⟩
      cases m with
      | zero =>
        cases hy
        exact of_decide_eq_false hx
      | succ m => exact h3 m y (Nat.lt_of_succ_lt_succ hm) hy
theorem upd_skip {C : Cs} {a p : Addr} {o o' u : MO} (ne : p ≠ a) : updC (updC (updC C a o) p u) a o' = updC (updC C p u) a o' := by
  funext b
  by_cases h : b = a
  · subst h
    rw [updC_same, updC_same]
  · rw [updC_ne h, updC_ne h]
    by_cases h2 : b = p
    · subst h2
      rw [updC_same, updC_same]
    · rw [updC_ne h2, updC_ne h2, updC_ne h]
theorem flat_one : ∀ n : Nat, (List.replicate n [I 0]).flatten = List.replicate n (Ax.dat (.int 0))
  | 0 => rfl
  | n + 1 => by rw [List.replicate_succ, List.flatten_cons, flat_one n]; rfl
end Trl

/-! Trn: deeds of a trail: why not, what then, what is told. -/
namespace Trl
open PySem PySem.Spec PyProof.Rows L2 Ab Lm Hm Wda
def whyM (W : Wd) (d : Deed) : Option Str :=
  if d.w ∈ (["hand", "pass", "sign"] : List Str) ∧ d.p = d.o then some "same party"
  else if d.w ∈ (["make", "conjure"] : List Str) ∧ (pfAt W.pf d.p).1 = false then some "party does not make waste"
  else if d.w = "treat" ∧ (pfAt W.pf d.p).2 = false then some "party does not treat waste"
  else if d.w ∈ (["treat", "hand", "pass", "dump"] : List Str) ∧ getM W.stock d.p d.k < d.a then some "not enough waste"
  else if d.w = "omit" ∧ d.a ∉ (W.file d.p).map Ent.n then some "no such entry"
  else none
def idxN (f : List Ent) (n : Int) : Nat := (f.map Ent.n).findIdx fun x => decide (x = n)
/-- the deed that is done -/
def didD (W : Wd) (d : Deed) : Deed := if d.w = "omit" then { d with a := (idxN (W.file d.p) d.a : Nat) } else d
def nxtT (W : Wd) (d : Deed) : Wd := stepW W (didD W d)
def ansT (W : Wd) (d : Deed) : PyData := if d.w ∈ (["make", "treat", "hand", "sign", "write"] : List Str) then .int (W.last + 1) else if d.w = "inspect" then .int (getM W.stock d.p d.k) else .none
def wordsT : List Str := ["make", "treat", "hand", "inspect", "pass", "dump", "conjure", "sign", "write", "omit"]
theorem word_in (d : List Int) (l : Int) : wordM d l ∈ wordsT := by
  unfold wordM
  split
  · unfold lwM wordsT
    repeat' split
    all_goals simp
  · unfold hwM wordsT
    repeat' split
    all_goals simp
theorem idx_at {f : List Ent} {n : Int} (h : n ∈ f.map Ent.n) : ∃ e, f[idxN f n]? = some e ∧ e.n = n ∧ ∀ (m : Nat) x, m < idxN f n → f[m]? = some x → x.n ≠ n := by
  unfold idxN
  have hl : (f.map Ent.n).findIdx (fun x => decide (x = n)) < (f.map Ent.n).length := List.findIdx_lt_length.mpr ⟨n, h, decide_eq_true rfl⟩
  have h1 := List.findIdx_getElem (w := hl)
  have hl2 : (f.map Ent.n).findIdx (fun x => decide (x = n)) < f.length := by rw [List.length_map] at hl; exact hl
  refine ⟨f[(f.map Ent.n).findIdx (fun x => decide (x = n))], List.getElem?_eq_getElem hl2, ?_, fun m x hm hx => ?_⟩
  · rw [List.getElem_map] at h1
    exact of_decide_eq_true h1
  · have h2 := List.not_of_lt_findIdx hm
    rw [List.getElem_map] at h2
    have h3 : f[m]'(by omega) = x := (List.getElem?_eq_some_iff.mp hx).2
    rw [h3] at h2
    simpa using h2
section
variable {W : Wd} {p o k a : Int} {s : Bool}
theorem why_make : whyM W ⟨"make", p, o, k, a, s⟩ = if (pfAt W.pf p).1 = false then some ("party does not make waste" : Str) else none := by
  unfold whyM
  rw [if_neg (fun z => absurd z.1 (by dsimp only; decide))]
  by_cases h : (pfAt W.pf p).1 = false
  · rw [if_pos ⟨by dsimp only; decide, h⟩, if_pos h]
  · rw [if_neg (fun z => h z.2), if_neg (fun z => absurd z.1 (by dsimp only; decide)), if_neg (fun z => absurd z.1 (by dsimp only; decide)), if_neg (fun z => absurd z.1 (by dsimp only; decide)), if_neg h]
theorem why_conjure : whyM W ⟨"conjure", p, o, k, a, s⟩ = if (pfAt W.pf p).1 = false then some ("party does not make waste" : Str) else none := by
  unfold whyM
  rw [if_neg (fun z => absurd z.1 (by dsimp only; decide))]
  by_cases h : (pfAt W.pf p).1 = false
  · rw [if_pos ⟨by dsimp only; decide, h⟩, if_pos h]
  · rw [if_neg (fun z => h z.2), if_neg (fun z => absurd z.1 (by dsimp only; decide)), if_neg (fun z => absurd z.1 (by dsimp only; decide)), if_neg (fun z => absurd z.1 (by dsimp only; decide)), if_neg h]
theorem why_treat : whyM W ⟨"treat", p, o, k, a, s⟩ = if (pfAt W.pf p).2 = false then some ("party does not treat waste" : Str) else if getM W.stock p k < a then some ("not enough waste" : Str) else none := by
  unfold whyM
  rw [if_neg (fun z => absurd z.1 (by dsimp only; decide)), if_neg (fun z => absurd z.1 (by dsimp only; decide))]
  by_cases h : (pfAt W.pf p).2 = false
  · rw [if_pos ⟨rfl, h⟩, if_pos h]
  · rw [if_neg (fun z => h z.2), if_neg h]
    by_cases h2 : getM W.stock p k < a
    · rw [if_pos ⟨by dsimp only; decide, h2⟩, if_pos h2]
    · rw [if_neg (fun z => h2 z.2), if_neg (fun z => absurd z.1 (by dsimp only; decide)), if_neg h2]
theorem why_two {w : Str} (hw : w = "hand" ∨ w = "pass") : whyM W ⟨w, p, o, k, a, s⟩ = if p = o then some ("same party" : Str) else if getM W.stock p k < a then some ("not enough waste" : Str) else none := by
  unfold whyM
  by_cases h : p = o
  · rw [if_pos ⟨by rcases hw with rfl | rfl <;> dsimp only <;> decide, h⟩, if_pos h]
  · rw [if_neg (fun z => h z.2), if_neg h]
    by_cases h2 : getM W.stock p k < a
    · rcases hw with rfl | rfl <;> rw [if_neg (fun z => absurd z.1 (by dsimp only; decide)), if_neg (fun z => absurd z.1 (by dsimp only; decide)), if_pos ⟨by dsimp only; decide, h2⟩, if_pos h2]
    · rcases hw with rfl | rfl <;> rw [if_neg (fun z => absurd z.1 (by dsimp only; decide)), if_neg (fun z => absurd z.1 (by dsimp only; decide)), if_neg (fun z => h2 z.2), if_neg (fun z => absurd z.1 (by dsimp only; decide)), if_neg h2]
theorem why_sign : whyM W ⟨"sign", p, o, k, a, s⟩ = if p = o then some ("same party" : Str) else none := by
  unfold whyM
  by_cases h : p = o
  · rw [if_pos ⟨by dsimp only; decide, h⟩, if_pos h]
  · rw [if_neg (fun z => h z.2), if_neg (fun z => absurd z.1 (by dsimp only; decide)), if_neg (fun z => absurd z.1 (by dsimp only; decide)), if_neg (fun z => absurd z.1 (by dsimp only; decide)), if_neg (fun z => absurd z.1 (by dsimp only; decide)), if_neg h]
theorem why_dump : whyM W ⟨"dump", p, o, k, a, s⟩ = if getM W.stock p k < a then some ("not enough waste" : Str) else none := by
  unfold whyM
  rw [if_neg (fun z => absurd z.1 (by dsimp only; decide)), if_neg (fun z => absurd z.1 (by dsimp only; decide)), if_neg (fun z => absurd z.1 (by dsimp only; decide))]
  by_cases h2 : getM W.stock p k < a
  · rw [if_pos ⟨by dsimp only; decide, h2⟩, if_pos h2]
  · rw [if_neg (fun z => h2 z.2), if_neg (fun z => absurd z.1 (by dsimp only; decide)), if_neg h2]
theorem why_inspect : whyM W ⟨"inspect", p, o, k, a, s⟩ = none := by
  unfold whyM
  rw [if_neg (fun z => absurd z.1 (by dsimp only; decide)), if_neg (fun z => absurd z.1 (by dsimp only; decide)), if_neg (fun z => absurd z.1 (by dsimp only; decide)), if_neg (fun z => absurd z.1 (by dsimp only; decide)), if_neg (fun z => absurd z.1 (by dsimp only; decide))]
theorem why_write : whyM W ⟨"write", p, o, k, a, s⟩ = none := by
  unfold whyM
  rw [if_neg (fun z => absurd z.1 (by dsimp only; decide)), if_neg (fun z => absurd z.1 (by dsimp only; decide)), if_neg (fun z => absurd z.1 (by dsimp only; decide)), if_neg (fun z => absurd z.1 (by dsimp only; decide)), if_neg (fun z => absurd z.1 (by dsimp only; decide))]
theorem why_omit : whyM W ⟨"omit", p, o, k, a, s⟩ = if a ∉ (W.file p).map Ent.n then some ("no such entry" : Str) else none := by
  unfold whyM
  rw [if_neg (fun z => absurd z.1 (by dsimp only; decide)), if_neg (fun z => absurd z.1 (by dsimp only; decide)), if_neg (fun z => absurd z.1 (by dsimp only; decide)), if_neg (fun z => absurd z.1 (by dsimp only; decide))]
  by_cases h : a ∉ (W.file p).map Ent.n
  · rw [if_pos ⟨rfl, h⟩, if_pos h]
  · rw [if_neg (fun z => h z.2), if_neg h]
theorem did_same {d : Deed} (h : d.w ≠ "omit") : didD W d = d := if_neg h
theorem nx_make (h : (pfAt W.pf p).1 = true) : nxtT W ⟨"make", p, o, k, a, s⟩ = makM W p k a := by
  unfold nxtT
  rw [did_same (by dsimp only; decide)]
  unfold stepW didM honM
  rw [if_pos (by dsimp only; decide), if_pos ⟨rfl, h⟩]
  rfl
theorem nx_treat (h : (pfAt W.pf p).2 = true) (h2 : a ≤ getM W.stock p k) : nxtT W ⟨"treat", p, o, k, a, s⟩ = treM W p k a := by
  unfold nxtT
  rw [did_same (by dsimp only; decide)]
  unfold stepW didM honM
  rw [if_pos (by dsimp only; decide), if_neg (fun z => absurd z.1 (by dsimp only; decide)), if_pos ⟨rfl, h, h2⟩]
  rfl
theorem nx_hand (h : p ≠ o) (h2 : a ≤ getM W.stock p k) : nxtT W ⟨"hand", p, o, k, a, s⟩ = hanM W p o k a s := by
  unfold nxtT
  rw [did_same (by dsimp only; decide)]
  unfold stepW didM honM
  rw [if_pos (by dsimp only; decide), if_neg (fun z => absurd z.1 (by dsimp only; decide)), if_neg (fun z => absurd z.1 (by dsimp only; decide)), if_pos ⟨rfl, h, h2⟩]
  rfl
theorem nx_inspect : nxtT W ⟨"inspect", p, o, k, a, s⟩ = insM W p k := by
  unfold nxtT
  rw [did_same (by dsimp only; decide)]
  unfold stepW didM honM
  rw [if_pos (by dsimp only; decide), if_neg (fun z => absurd z.1 (by dsimp only; decide)), if_neg (fun z => absurd z.1 (by dsimp only; decide)), if_neg (fun z => absurd z.1 (by dsimp only; decide)), if_pos rfl]
  rfl
theorem nx_pass (h : p ≠ o) (h2 : a ≤ getM W.stock p k) : nxtT W ⟨"pass", p, o, k, a, s⟩ = blmM (pasM W p o k a) [p, o] := by
  unfold nxtT
  rw [did_same (by dsimp only; decide)]
  unfold stepW didM lieM
  rw [if_neg (by dsimp only; decide), if_pos ⟨rfl, h, h2⟩]
  rfl
theorem nx_dump (h2 : a ≤ getM W.stock p k) : nxtT W ⟨"dump", p, o, k, a, s⟩ = blmM (dumM W p k a) [p] := by
  unfold nxtT
  rw [did_same (by dsimp only; decide)]
  unfold stepW didM lieM
  rw [if_neg (by dsimp only; decide), if_neg (fun z => absurd z.1 (by dsimp only; decide)), if_pos ⟨rfl, h2⟩]
  rfl
theorem nx_conjure (h : (pfAt W.pf p).1 = true) : nxtT W ⟨"conjure", p, o, k, a, s⟩ = blmM (conM W p k a) [p] := by
  unfold nxtT
  rw [did_same (by dsimp only; decide)]
  unfold stepW didM lieM
  rw [if_neg (by dsimp only; decide), if_neg (fun z => absurd z.1 (by dsimp only; decide)), if_neg (fun z => absurd z.1 (by dsimp only; decide)), if_pos ⟨rfl, h⟩]
  rfl
theorem nx_sign (h : p ≠ o) : nxtT W ⟨"sign", p, o, k, a, s⟩ = blmM (notM W p o k a s) [p, o] := by
  unfold nxtT
  rw [did_same (by dsimp only; decide)]
  unfold stepW didM lieM
  rw [if_neg (by dsimp only; decide), if_neg (fun z => absurd z.1 (by dsimp only; decide)), if_neg (fun z => absurd z.1 (by dsimp only; decide)), if_neg (fun z => absurd z.1 (by dsimp only; decide)), if_pos ⟨rfl, h⟩]
  rfl
theorem nx_write : nxtT W ⟨"write", p, o, k, a, s⟩ = blmM (wriM W p o k a s) [p] := by
  unfold nxtT
  rw [did_same (by dsimp only; decide)]
  unfold stepW didM lieM
  rw [if_neg (by dsimp only; decide), if_neg (fun z => absurd z.1 (by dsimp only; decide)), if_neg (fun z => absurd z.1 (by dsimp only; decide)), if_neg (fun z => absurd z.1 (by dsimp only; decide)), if_neg (fun z => absurd z.1 (by dsimp only; decide)), if_pos rfl]
  rfl
theorem nx_omit (h : a ∈ (W.file p).map Ent.n) : nxtT W ⟨"omit", p, o, k, a, s⟩ = blmM (omiT W p (idxN (W.file p) a)) [p] := by
  obtain ⟨e, h1, _⟩ := idx_at h
  have hl := (List.getElem?_eq_some_iff.mp h1).1
  unfold nxtT didD
  rw [if_pos rfl]
  unfold stepW didM lieM
  rw [if_neg (by dsimp only; decide), if_neg (fun z => absurd z.1 (by dsimp only; decide)), if_neg (fun z => absurd z.1 (by dsimp only; decide)), if_neg (fun z => absurd z.1 (by dsimp only; decide)), if_neg (fun z => absurd z.1 (by dsimp only; decide)), if_neg (by dsimp only; decide), if_pos ⟨rfl, by show 0 < (W.file p).length; omega⟩]
  show blmM (omiM W p ((idxN (W.file p) a : Nat) : Int)) [p] = _
  unfold omiM omiT
  rw [Int.emod_eq_of_lt (by omega) (by omega)]
  rfl
/-- what is written -/
def claimM (p o : Int) (s : Bool) : Str := if p = o then (if s = true then "treated" else "made") else (if s = true then "took" else "gave")
theorem claim_cp : claimM p o s ∈ (["gave", "took"] : List Str) ↔ p ≠ o := by
  unfold claimM
  by_cases h : p = o
  · rw [if_pos h]
    cases s <;> simp [h] <;> decide
  · rw [if_neg h]
    cases s <;> simp [h]
theorem wri_eq : wriT W p (claimM p o s) o k a = wriM W p o k a s := by
  unfold wriT wriM wrT wrE
  by_cases h : p = o
  · rw [if_neg (fun z => claim_cp.mp z h), if_pos h]
    unfold claimM
    rw [if_pos h]
  · rw [if_pos (claim_cp.mpr h), if_neg h]
    unfold claimM
    rw [if_neg h]
end
/-! ### what holds of a trail -/
structure TOk (W : Wd) : Prop where
  ev : ∀ e ∈ W.events, Sh 1 (evD e)
  nd : W.liars.Nodup
  li : ∀ p ∈ W.liars, 0 ≤ p ∧ p < W.pf.length
theorem sh_own {w : Str} {n p k a : Int} (h : PyData.strOk w = true) : Sh 1 (evD (.own w n p k a)) := sh_tup (sh_cons (sh_str h) (sh_cons sh_int (sh_cons sh_int (sh_cons sh_int (sh_cons sh_int sh_nil)))))
theorem sh_hand {n g t k a : Int} {s : Bool} : Sh 1 (evD (.hand n g t k a s)) := sh_tup (sh_cons (sh_str (by decide +kernel)) (sh_cons sh_int (sh_cons sh_int (sh_cons sh_int (sh_cons sh_int (sh_cons sh_int (sh_cons sh_bool sh_nil)))))))
theorem sh_pass {g t k a : Int} : Sh 1 (evD (.pass g t k a)) := sh_tup (sh_cons (sh_str (by decide +kernel)) (sh_cons sh_int (sh_cons sh_int (sh_cons sh_int (sh_cons sh_int sh_nil)))))
theorem sh_sec {w : Str} {p k a : Int} (h : PyData.strOk w = true) : Sh 1 (evD (.sec w p k a)) := sh_tup (sh_cons (sh_str h) (sh_cons sh_int (sh_cons sh_int (sh_cons sh_int sh_nil))))
theorem blame_okT {m : Nat} {l xs : List Int} (h : l.Nodup ∧ ∀ p ∈ l, 0 ≤ p ∧ p < (m : Int)) (hx : ∀ p ∈ xs, 0 ≤ p ∧ p < (m : Int)) : (blameM l xs).Nodup ∧ ∀ p ∈ blameM l xs, 0 ≤ p ∧ p < (m : Int) := by
  unfold blameM
  induction xs generalizing l with
  | nil => exact h
  | cons x xs ih =>
    rw [List.foldl_cons]
    refine ih ?_ fun p hp => hx p (List.mem_cons_of_mem _ hp)
    split
    · exact h
    · rename_i c
      refine ⟨?_, fun p hp => ?_⟩
      · rw [List.nodup_append]
        exact ⟨h.1, by simp, fun a ha b hb => by rw [List.mem_singleton.mp hb]; intro z; subst z; exact c ha⟩
      · rcases List.mem_append.mp hp with hp | hp
        · exact h.2 p hp
        · rw [List.mem_singleton.mp hp]; exact hx x List.mem_cons_self
theorem TOk.snoc {W W' : Wd} {e : Evt} (h : TOk W) (he : Sh 1 (evD e)) (e1 : W'.events = W.events ++ [e]) (e2 : W'.liars = W.liars) (e3 : W'.pf = W.pf) : TOk W' :=
  ⟨fun x hx => by
    rw [e1] at hx
    rcases List.mem_append.mp hx with hx | hx
    · exact h.ev x hx
    · rw [List.mem_singleton.mp hx]; exact he, by rw [e2]; exact h.nd, by rw [e2, e3]; exact h.li⟩
theorem TOk.blm {W : Wd} {xs : List Int} (h : TOk W) (hx : ∀ p ∈ xs, 0 ≤ p ∧ p < (W.pf.length : Int)) : TOk (blmM W xs) := by
  obtain ⟨h1, h2⟩ := blame_okT ⟨h.nd, h.li⟩ hx
  exact ⟨h.ev, h1, h2⟩
theorem one_in {m : Nat} {p : Int} (h : 0 ≤ p ∧ p < m) : ∀ q ∈ [p], 0 ≤ q ∧ q < (m : Int) := fun q hq => by rw [List.mem_singleton.mp hq]; exact h
theorem two_in {m : Nat} {p o : Int} (h : 0 ≤ p ∧ p < m) (h2 : 0 ≤ o ∧ o < m) : ∀ q ∈ [p, o], 0 ≤ q ∧ q < (m : Int) := fun q hq => by
  rcases List.mem_cons.mp hq with rfl | hq
  · exact h
  · rw [List.mem_singleton.mp hq]; exact h2
theorem TOk.next {W : Wd} {d : Deed} (h : TOk W) (k : DdK W.pf.length W.kd d) (hw : d.w ∈ wordsT) (hy : whyM W d = none) : TOk (nxtT W d) := by
  obtain ⟨w, p, o, kk, a, s⟩ := d
  have p1 : 0 ≤ p ∧ p < (W.pf.length : Int) := ⟨k.p0, k.p1⟩
  have o1 : 0 ≤ o ∧ o < (W.pf.length : Int) := ⟨k.o0, k.o1⟩
  have hw : w ∈ wordsT := hw
  simp only [wordsT, List.mem_cons, List.not_mem_nil, or_false] at hw
  rcases hw with rfl | rfl | rfl | rfl | rfl | rfl | rfl | rfl | rfl | rfl
  · rw [why_make] at hy
    split at hy
    · cases hy
    · rename_i c
      rw [nx_make (by simpa using c)]
      exact h.snoc (sh_own (by decide +kernel)) rfl rfl rfl
  · rw [why_treat] at hy
    split at hy
    · cases hy
    · rename_i c
      split at hy
      · cases hy
      · rename_i c2
        rw [nx_treat (by simpa using c) (by omega)]
        exact h.snoc (sh_own (by decide +kernel)) rfl rfl rfl
  · rw [why_two (.inl rfl)] at hy
    split at hy
    · cases hy
    · rename_i c
      split at hy
      · cases hy
      · rename_i c2
        rw [nx_hand c (by omega)]
        exact h.snoc sh_hand rfl rfl rfl
  · rw [nx_inspect]
    exact h.snoc (sh_own (by decide +kernel)) rfl rfl rfl
  · rw [why_two (.inr rfl)] at hy
    split at hy
    · cases hy
    · rename_i c
      split at hy
      · cases hy
      · rename_i c2
        rw [nx_pass c (by omega)]
        exact (h.snoc (W' := pasM W p o kk a) sh_pass rfl rfl rfl).blm (two_in p1 o1)
  · rw [why_dump] at hy
    split at hy
    · cases hy
    · rename_i c
      rw [nx_dump (by omega)]
      exact (h.snoc (W' := dumM W p kk a) (sh_sec (by decide +kernel)) rfl rfl rfl).blm (one_in p1)
  · rw [why_conjure] at hy
    split at hy
    · cases hy
    · rename_i c
      rw [nx_conjure (by simpa using c)]
      exact (h.snoc (W' := conM W p kk a) (sh_sec (by decide +kernel)) rfl rfl rfl).blm (one_in p1)
  · rw [why_sign] at hy
    split at hy
    · cases hy
    · rename_i c
      rw [nx_sign c]
      exact (show TOk (notM W p o kk a s) from ⟨h.ev, h.nd, h.li⟩).blm (two_in p1 o1)
  · rw [nx_write]
    exact (show TOk (wriM W p o kk a s) from ⟨h.ev, h.nd, h.li⟩).blm (one_in p1)
  · rw [why_omit] at hy
    split at hy
    · cases hy
    · rename_i c
      rw [nx_omit (by simpa using c)]
      exact (show TOk (omiT W p (idxN (W.file p) a)) from ⟨h.ev, h.nd, h.li⟩).blm (one_in p1)
theorem did_k {W : Wd} {d : Deed} (k : DdK W.pf.length W.kd d) : DdK W.pf.length W.kd (didD W d) := by
  unfold didD
  split
  · exact ⟨k.p0, k.p1, k.o0, k.o1, k.k0, k.k1⟩
  · exact k
theorem nxt_ok {b : Nat} {W : Wd} {d : Deed} (h : WOk b W) (k : DdK W.pf.length W.kd d) : WOk (b + 1) (nxtT W d) ∧ (nxtT W d).pf = W.pf ∧ (nxtT W d).kd = W.kd := step_ok h (did_k k)
theorem nodup_ltT : ∀ {m : Nat} {S : List Nat}, S.Nodup → (∀ x ∈ S, x < m) → S.length ≤ m
  | 0, [], _, _ => Nat.le_refl _
  | 0, x :: S, _, h => absurd (h x (by simp)) (by omega)
  | m + 1, S, nd, h => by
    have h1 := nodup_ltT (m := m) (S := S.erase m) (nd.erase m) fun x hx => by
      have := h x (List.mem_of_mem_erase hx)
      have : x ≠ m := fun e => by subst e; exact (List.Nodup.not_mem_erase nd) hx
      omega
    have h2 := List.length_erase (a := m) (l := S)
    split at h2 <;> omega
theorem TOk.len {W : Wd} (h : TOk W) : W.liars.length ≤ W.pf.length := by
  have h1 := nodup_ltT (m := W.pf.length) (S := W.liars.map Int.toNat) (by
    rw [List.Nodup, List.pairwise_map]
    refine h.nd.imp_of_mem fun {a b} ha hb ne e => ne ?_
    have := (h.li a ha).1
    have := (h.li b hb).1
    omega) (fun x hx => by
    obtain ⟨p, hp, rfl⟩ := List.mem_map.mp hx
    have := h.li p hp
    omega)
  rw [List.length_map] at h1
  exact h1
/-! ### apart in the store -/
def allW (A : Wa) : List Addr := A.p :: A.q :: A.own
theorem all_w {A : Wa} : A.w ∈ allW A := by simp [allW, Wa.own]
theorem all_own {A : Wa} {x : Addr} (h : x ∈ A.own) : x ∈ allW A := by simp [allW, h]
theorem grid_only {C C' : Cs} {l : List Addr} {p : Addr} {ps : List Addr} {fs : List (List PyData)} (G : GridA C p ps fs) (o : Only l C C') (hp : p ∉ l) (hs : ∀ r ∈ ps, r ∉ l) : GridA C' p ps fs :=
  ⟨(o p hp).trans G.top, G.len, fun j r hj => (o r (hs r (List.mem_of_getElem? hj))).trans (G.row j r hj), G.nd, G.apart⟩
theorem wd_only {C C' : Cs} {A : Wa} {W : Wd} {l : List Addr} (h : WdAt C A W) (o : Only l C C') (d : ∀ x ∈ allW A, x ∉ l) : WdAt C' A W :=
  ⟨h.six, h.psN, h.qsN, (o _ (d _ all_w)).trans h.dic, grid_only h.stock o (d _ (by simp [allW])) (fun r hr => d r (by simp [allW, Wa.own, hr])), grid_only h.files o (d _ (by simp [allW])) (fun r hr => d r (by simp [allW, Wa.own, hr])), (o _ (d _ (by simp [allW, Wa.own]))).trans h.fd, (o _ (d _ (by simp [allW, Wa.own]))).trans h.ev, (o _ (d _ (by simp [allW, Wa.own]))).trans h.li⟩
theorem tr_only {C C' : Cs} {CL : Addr} {A : Wa} {W : Wd} {l : List Addr} (h : TrAt C CL A W) (o : Only l C C') (d : ∀ x ∈ allW A, x ∉ l) : TrAt C' CL A W :=
  ⟨h.six, h.psN, h.qsN, (o _ (d _ all_w)).trans h.ins, grid_only h.stock o (d _ (by simp [allW])) (fun r hr => d r (by simp [allW, Wa.own, hr])), grid_only h.files o (d _ (by simp [allW])) (fun r hr => d r (by simp [allW, Wa.own, hr])), (o _ (d _ (by simp [allW, Wa.own]))).trans h.fd, (o _ (d _ (by simp [allW, Wa.own]))).trans h.ev, (o _ (d _ (by simp [allW, Wa.own]))).trans h.li⟩
theorem mor_only {C C1 C2 : Cs} {l : List Addr} (m : Mor C C1) (o : Only l C1 C2) (d : ∀ x ∈ l, C x = none) : Mor C C2 := fun a ha => by
  have na : a ∉ l := fun hm => by rw [d a hm] at ha; cases ha
  exact (o a na).trans (m a ha)
theorem wd_some {C : Cs} {A : Wa} {W : Wd} (h : WdAt C A W) : ∀ x ∈ allW A, (C x).isSome = true := fun x hx => by
  have hx : x ∈ A.p :: A.q :: A.w :: A.fd :: A.ev :: A.li :: (A.ps ++ A.qs) := hx
  simp only [List.mem_cons, List.mem_append] at hx
  rcases hx with rfl | rfl | rfl | rfl | rfl | rfl | hx | hx
  · rw [h.stock.top]; rfl
  · rw [h.files.top]; rfl
  · rw [h.dic]; rfl
  · rw [h.fd]; rfl
  · rw [h.ev]; rfl
  · rw [h.li]; rfl
  · obtain ⟨j, hj⟩ := List.getElem?_of_mem hx
    rw [h.stock.row j x hj]; rfl
  · obtain ⟨j, hj⟩ := List.getElem?_of_mem hx
    rw [h.files.row j x hj]; rfl
/-! ### promises of the law's defs -/
def rel__law_told (CL : Addr) : Rel := fun C xs R => ∃ (A : Wa) (W : Wd) (b : Nat) (d : Deed), xs = [Ax.ref A.w, .dat (dedD d)] ∧ TrX C CL A W b ∧ DdK W.pf.length W.kd d ∧ d.w ∈ wordsT ∧ (∀ t, whyM W d = some t → R (S t) C) ∧ (whyM W d = none → AftT C CL A (nxtT W d) (.dat (ansT W d)) R)
def rel__law_why_not : Rel := fun C xs R => ∃ (A : Wa) (W : Wd) (b : Nat) (d : Deed), xs = [Ax.ref A.w, .dat (dedD d)] ∧ WdAt C A W ∧ WOk b W ∧ b < 20000 ∧ DdK W.pf.length W.kd d ∧ R (S ((whyM W d).getD "")) C
def rel__law_modelled : Rel := fun C xs R => ∃ (A : Wa) (W : Wd) (b : Nat) (d : Deed), xs = [Ax.ref A.w, .dat (dedD d)] ∧ WdAt C A W ∧ WOk b W ∧ b < 20000 ∧ DdK W.pf.length W.kd d ∧ d.w ∈ wordsT ∧ whyM W d = none ∧ Aft C A (nxtT W d) (.dat (ansT W d)) R
def rel__law_is_it (CL : Addr) : Rel := fun C xs R => ∃ (A B' : Wa) (W : Wd) (b : Nat), xs = [Ax.ref B'.w, Ax.ref A.w] ∧ TrX C CL B' W b ∧ WdAt C A W ∧ TOk W ∧ R (B true) C
def rel__law_written (CL : Addr) : Rel := fun C xs R => ∃ (A : Wa) (W : Wd) (b : Nat) (w : Str), xs = [Ax.ref A.w, S w] ∧ TrX C CL A W b ∧ w ∈ (["gave", "took"] : List Str) ∧ R (S "same party") C
theorem did_step (W : Wd) (d : Deed) : (optB (didM W d) W).2 = stepW W d := by
  unfold stepW optB
  cases didM W d <;> rfl
theorem nx_last {W : Wd} {d : Deed} (hw : d.w ∈ (["make", "treat", "hand", "sign", "write"] : List Str)) (hy : whyM W d = none) : (nxtT W d).last = W.last + 1 := by
  obtain ⟨w, p, o, kk, a, s⟩ := d
  have hw : w ∈ (["make", "treat", "hand", "sign", "write"] : List Str) := hw
  simp only [List.mem_cons, List.not_mem_nil, or_false] at hw
  rcases hw with rfl | rfl | rfl | rfl | rfl
  · rw [why_make] at hy
    split at hy
    · cases hy
    · rename_i c
      rw [nx_make (by simpa using c)]
      rfl
  · rw [why_treat] at hy
    split at hy
    · cases hy
    · rename_i c
      split at hy
      · cases hy
      · rename_i c2
        rw [nx_treat (by simpa using c) (by omega)]
        rfl
  · rw [why_two (.inl rfl)] at hy
    split at hy
    · cases hy
    · rename_i c
      split at hy
      · cases hy
      · rename_i c2
        rw [nx_hand c (by omega)]
        rfl
  · rw [why_sign] at hy
    split at hy
    · cases hy
    · rename_i c
      rw [nx_sign c]
      rfl
  · rw [nx_write]
    rfl
end Trl
namespace Trl
open PySem PySem.Spec PyProof.Rows L2 Ab Lm Hm Wda
section
variable {W : Wd} {p o k a : Int} {s : Bool} {w : Str}
theorem ans_num (h : w ∈ (["make", "treat", "hand", "sign", "write"] : List Str)) : ansT W ⟨w, p, o, k, a, s⟩ = .int (W.last + 1) := if_pos h
theorem ans_ins : ansT W ⟨"inspect", p, o, k, a, s⟩ = .int (getM W.stock p k) := by
  unfold ansT
  rw [if_neg (by dsimp only; decide), if_pos rfl]
theorem ans_no (h : w ∉ (["make", "treat", "hand", "sign", "write"] : List Str)) (h2 : w ≠ "inspect") : ansT W ⟨w, p, o, k, a, s⟩ = .none := by
  unfold ansT
  rw [if_neg h, if_neg h2]
end
theorem le_w {x y : Ax} {u : Option Ax} : ∀ {Γ : Gm}, Le [some x, some y, u, none] Γ → Le [some x, some y, none, none] Γ
  | [], h => h.elim
  | [_], h => by cases u <;> exact h.2.elim
  | [_, _], h => by cases u <;> exact h.2.2.elim
  | a :: b :: c :: r, h => by
    refine ⟨h.1, h.2.1, ?_⟩
    have h3 := h.2.2
    cases u with
    | none => exact h3
    | some u => exact h3.2
theorem wd_eq {C C' : Cs} {A : Wa} {W : Wd} (h : WdAt C A W) (o : ∀ x ∈ allW A, C' x = C x) : WdAt C' A W :=
  ⟨h.six, h.psN, h.qsN, (o _ all_w).trans h.dic, ⟨(o _ (by simp [allW])).trans h.stock.top, h.stock.len, fun j r hj => (o r (by have := List.mem_of_getElem? hj; simp [allW, Wa.own, this])).trans (h.stock.row j r hj), h.stock.nd, h.stock.apart⟩, ⟨(o _ (by simp [allW])).trans h.files.top, h.files.len, fun j r hj => (o r (by have := List.mem_of_getElem? hj; simp [allW, Wa.own, this])).trans (h.files.row j r hj), h.files.nd, h.files.apart⟩, (o _ (by simp [allW, Wa.own])).trans h.fd, (o _ (by simp [allW, Wa.own])).trans h.ev, (o _ (by simp [allW, Wa.own])).trans h.li⟩
/-- a world beside a new trail -/
theorem make_tr {C C0 C' : Cs} {a : Addr} {o : MO} {A D : Wa} {W : Wd} (n0 : WNew C C0 A W) (ha : C0 a = none) (hD : D.w = a) (o1 : ∀ b, (updC C0 a o b).isSome = true → b ≠ a → C' b = updC C0 a o b) (nw : ∀ x ∈ D.p :: D.q :: D.fd :: D.ev :: D.li :: (D.ps ++ D.qs), updC C0 a o x = none) :
    WdAt C' A W ∧ (∀ x ∈ allW A, x ∉ allW D) ∧ (∀ x ∈ D.own, C x = none) ∧ Mor C C' := by
  have sA := wd_some n0.at_
  have eA : ∀ x ∈ allW A, C' x = C0 x := fun x hx => by
    have na : x ≠ a := fun e => by have := sA x hx; rw [e, ha] at this; cases this
    rw [o1 x (by rw [updC_ne na]; exact sA x hx) na, updC_ne na]
  have nD : ∀ x ∈ allW D, C0 x = none := fun x hx => by
    have hx : x ∈ D.p :: D.q :: D.w :: D.fd :: D.ev :: D.li :: (D.ps ++ D.qs) := hx
    by_cases e : x = a
    · rw [e]; exact ha
    · have h2 : x ∈ D.p :: D.q :: D.fd :: D.ev :: D.li :: (D.ps ++ D.qs) := by
        simp only [List.mem_cons] at hx ⊢
        rcases hx with h | h | h | h | h | h | h
        · exact .inl h
        · exact .inr (.inl h)
        · exact absurd (h.trans hD) e
        · exact .inr (.inr (.inl h))
        · exact .inr (.inr (.inr (.inl h)))
        · exact .inr (.inr (.inr (.inr (.inl h))))
        · exact .inr (.inr (.inr (.inr (.inr h))))
      have := nw x h2
      rw [updC_ne e] at this
      exact this
  refine ⟨wd_eq n0.at_ eA, fun x hx hd => ?_, fun x hx => n0.mor.free (nD x (all_own hx)), fun b hb => ?_⟩
  · have h1 := sA x hx
    rw [nD x hd] at h1
    cases h1
  · have h0 := n0.mor b hb
    have hs : (C0 b).isSome = true := by rw [h0]; exact hb
    have na : b ≠ a := fun e => by rw [e, ha] at hs; cases hs
    rw [o1 b (by rw [updC_ne na]; exact hs) na, updC_ne na, h0]
theorem why_txt {W : Wd} {d : Deed} {t : Str} (h : whyM W d = some t) : t ∈ (["same party", "party does not make waste", "party does not treat waste", "not enough waste", "no such entry"] : List Str) := by
  unfold whyM at h
  split at h
  · cases h; simp
  split at h
  · cases h; simp
  split at h
  · cases h; simp
  split at h
  · cases h; simp
  split at h
  · cases h; simp
  · cases h
theorem txt_sh {t : Str} (h : t ∈ (["same party", "party does not make waste", "party does not treat waste", "not enough waste", "no such entry"] : List Str)) : Sh 0 (.str t) ∧ PyData.eqv (.str t) (.str "") = false := by
  simp only [List.mem_cons, List.not_mem_nil, or_false] at h
  rcases h with rfl | rfl | rfl | rfl | rfl <;> exact ⟨sh_str (by decide +kernel), by decide +kernel⟩
theorem ans_sh {W : Wd} {d : Deed} : Sh 0 (ansT W d) := by
  unfold ansT
  split
  · exact sh_int
  split
  · exact sh_int
  · exact sh_none
end Trl

set_option maxHeartbeats 40000000
namespace K40
open PySem PySem.Spec PyProof.Rows L2 Ab Lm Hm Wda
def topS (i : Nat) : Stmt := PySem.Challenge.pw_notetrail_k40_trails.main.body.getD i (.Pass ⟨0, 0, 0, 0⟩)
def inCls (s : Stmt) : Stmt := match s with
  | .ClassDef _ _ _ body _ _ _ _ _ _ _ => body.getD 0 (.Pass ⟨0, 0, 0, 0⟩)
  | s => s
abbrev s_init : Stmt := inCls (topS 2)
theorem sc_init : FnScope ["self", "what"] ["self", "what"] (defScope s_init) := ⟨rfl, rfl, rfl, by decide +kernel, rfl, by decide +kernel, by decide +kernel⟩
def rel__law_parties : Rel := Wda.rel__law_partiesA
section
variable {K : Kw} {mg : Str → Option Value} {base : Heap}
theorem ok_refInit {RC fI : Addr} {fd : FuncData} (F : Fun K.K "__init__" "Refused.__init__" s_init fI fd) (T : OexC K.K RC) (no : PySem.W.findIn K.K (.ref RC) "what" = some none) : FnOk K.P K.w K.K mg base CX0 1 fI fd ["self", "what"] (spRf RC) := by
  refine F.ok sc_init (fun vs H Q E ⟨a, v, h, _⟩ => by rw [h]; rfl) (fun cdv A outer s H vs Q E hr h => ⟨_, pss_one (ps_ost (pv 0) (pv 1)), ?_⟩)
  obtain ⟨a, v, rfl, ha, q⟩ := h
  exact ⟨_, rfl, _, rfl, a, RC, rfl, T, no, .inl ⟨ha, fun dx h1 h2 => q dx h1 h2⟩⟩
abbrev s__law_cell : Stmt := topS 11
abbrev N__law_cell : List Str := ["script", "k"]
theorem sc__law_cell : FnScope N__law_cell ["script", "k"] (defScope s__law_cell) := ⟨rfl, rfl, rfl, by decide +kernel, rfl, by decide +kernel, by decide +kernel⟩

theorem ok__law_cell {f__law_cell : Addr} {fd__law_cell : FuncData} (F__law_cell : Fun K.K "_law_cell" "_law_cell" s__law_cell f__law_cell fd__law_cell) (z_len : mg "len" = none) : FnOk K.P K.w K.K mg base CX0 1 f__law_cell fd__law_cell ["script", "k"] (SpG K rel__law_cell) := by
  refine ok_def F__law_cell sc__law_cell (fun C xs R h => by obtain ⟨_, _, rfl, _⟩ := h; rfl) (fun cdv A outer s H E hr => ?_)
  refine ⟨_, (pss_cons (ps_if (pt_cmpR op_lt (pv 1) (pe_callB (kx_len K.K rfl) (by rfl) z_len PySem.boot_len (pa_cons (pv 0) pa_nil)) (nomark _)) (pss_one (ps_ret (pe_ix (kx_ixL K.K rfl) (pv 0) (pv 1) (fun _ _ => rfl)))) pss_nil)
  (pss_one (ps_ret pe_int))), ?_⟩
  rintro C xs R cl ⟨ns, k, rfl, h0, q⟩
  refine ds_ifs (ut_test (pu_lt (pu_var rfl) (pu_cb (au_cons (pu_var rfl) au_nil) rc_lenL))) (fun hc => ?_) (fun hc => ?_)
  · exact ds_retseq (ds_ret (pu_ixI (pu_var rfl) (pu_var rfl) h0 (by simpa using of_decide_eq_true hc)) (rt_dat cl Mor.refl q))
  · have e : cellM ns k = 0 := by
      have h := of_decide_eq_false hc
      rw [List.length_map] at h
      unfold cellM
      rw [List.getD_eq_getElem?_getD, List.getElem?_eq_none (by omega)]
      rfl
    rw [e] at q
    exact ds_nextseq (ds_ret pu_int (rt_dat cl Mor.refl q))

abbrev s__law_draws : Stmt := topS 12
abbrev N__law_draws : List Str := ["cell", "count", "found", "is_wide", "k", "mixed"]
theorem sc__law_draws : FnScope N__law_draws ["cell", "count"] (defScope s__law_draws) := ⟨rfl, rfl, rfl, by decide +kernel, rfl, by decide +kernel, by decide +kernel⟩

theorem ok__law_draws {f__law_draws : Addr} {fd__law_draws : FuncData} (F__law_draws : Fun K.K "_law_draws" "_law_draws" s__law_draws f__law_draws fd__law_draws) (z_int : mg "int" = none) (z_range : mg "range" = none) : FnOk K.P K.w K.K mg base CX0 1 f__law_draws fd__law_draws ["cell", "count"] (SpG K rel__law_draws) := by
  refine ok_def F__law_draws sc__law_draws (fun C xs R h => by obtain ⟨_, _, rfl, _⟩ := h; rfl) (fun cdv A outer s H E hr => ?_)
  refine ⟨_, (pss_cons (ps_set (i := 2) sc__law_draws.nd rfl (Or.inl rfl) (pe_lst pa_nil))
  (pss_cons (ps_set (i := 3) sc__law_draws.nd rfl (Or.inl rfl) (pe_cmpR op_ge (pv 0) (pe_op op_pow pe_int pe_int) (nomark _)))
  (pss_cons (ps_for PassesOwn.never rfl (pi_range1 (by rfl) z_range (pa_cons (pv 1) pa_nil)) (pg_name (i := 4) sc__law_draws.nd rfl (Or.inl rfl)) (pss_one (ps_if (pt_val (pv 3)) (pss_cons (ps_expr (pe_bm PySem.F.plainAttrs_list PySem.F.slot_list_append PySem.F.type_list_append mt_append (pv 2) (pa_cons (pe_op op_mod (pe_callTy call_int1 (by rfl) z_int PyProof.Rows.boot_int (pa_cons (pv 0) pa_nil)) pe_int) pa_nil)))
  (pss_one (ps_set (i := 0) sc__law_draws.nd rfl (Or.inl rfl) (pe_op op_fdiv (pv 0) pe_int)))) (pss_cons (ps_set (i := 5) sc__law_draws.nd rfl (Or.inl rfl) (pe_op op_mod (pe_callTy call_int1 (by rfl) z_int PyProof.Rows.boot_int (pa_cons (pe_op op_add (pe_op op_mul (pv 0) pe_int) (pe_op op_mul (pv 4) pe_int)) pa_nil)) pe_int))
  (pss_one (ps_expr (pe_bm PySem.F.plainAttrs_list PySem.F.slot_list_append PySem.F.type_list_append mt_append (pv 2) (pa_cons (pe_op op_mod (pe_callTy call_int1 (by rfl) z_int PyProof.Rows.boot_int (pa_cons (pe_op op_add (pe_op op_add (pe_op op_mul (pv 5) (pv 5)) (pe_op op_mul (pv 0) pe_int)) (pv 4)) pa_nil)) pe_int) pa_nil))))))))
  (pss_one (ps_ret (pv 2)))))), ?_⟩
  rintro C xs R cl ⟨c, n, rfl, h0, h1, q⟩
  refine ds_new (pl_lst au_nil (by decide)) fun p hp => ?_
  refine ds_set (pu_ge (pu_var rfl) (pu_pow pu_int pu_int ⟨by decide, by decide, by decide⟩)) ?_
  refine ds_forS (fun i Δ C' => Δ = [some (I (drawSt c i).1), some (I n), some (.ref p), some (B (decide ((10 : Int) ^ (18 : Int).toNat ≤ c))), none, none] ∧ C' = updC C p (.lst (((drawSt c i).2.map PyData.int).map .dat)))
    (ui_rng1 (au_cons (pu_var rfl) au_nil) (by omega)) ⟨_, Le.refl _, rfl, rfl⟩ (fun _ _ _ _ => trivial) ?_ ?_
  · rintro i x Δ C' hx ⟨rfl, rfl⟩
    obtain ⟨hi, rfl⟩ := rngD_get hx
    have hz : (((drawSt c i).2.map PyData.int).map Ax.dat).length < 100000 := by simp [drawSt_len]; omega
    refine ⟨_, _, tg_name, ?_⟩
    refine ds_if (ut_B (pu_var rfl)) (fun hc => ?_) (fun hc => ?_)
    · have hc := of_decide_eq_true hc
      refine ds_drop (ev_app (pu_var rfl) (pu_mod (pu_cb (au_cons (pu_var rfl) au_nil) rc_int1) pu_int (by decide)) updC_same hz) ?_
      rintro _ _ ⟨rfl, rfl⟩
      refine ds_set1 (pu_fdiv (pu_var rfl) pu_int ⟨by decide, by decide⟩) ⟨_, ?_, rfl, ?_⟩
      · rw [drawSt, if_pos hc]
        exact ⟨rfl, rfl, rfl, rfl, trivial⟩
      · rw [updC_updC, drawSt, if_pos hc, List.map_append, List.map_append]
        rfl
    · have hc := of_decide_eq_false hc
      refine ds_set (pu_mod (pu_cb (au_cons (pu_add (pu_mul (pu_var rfl) pu_int (.inr ⟨by decide, by decide⟩)) (pu_mul (pu_var rfl) pu_int (.inr ⟨by decide, by decide⟩))) au_nil) rc_int1) pu_int (by decide)) ?_
      refine ds_drop1 (ev_app (pu_var rfl) (pu_mod (pu_cb (au_cons (pu_add (pu_add (pu_mul (pu_var rfl) (pu_var rfl) ?_) (pu_mul (pu_var rfl) pu_int (.inr ⟨by decide, by decide⟩))) (pu_var rfl)) au_nil) rc_int1) pu_int (by decide)) updC_same hz) ?_
      · exact .inl (by omega)
      · rintro _ _ ⟨rfl, rfl⟩
        refine ⟨_, ?_, rfl, ?_⟩
        · rw [drawSt, if_neg hc]
          exact ⟨rfl, rfl, rfl, rfl, trivial⟩
        · rw [updC_updC, drawSt, if_neg hc, List.map_append, List.map_append]
          rfl
  · rintro Δ C' ⟨rfl, rfl⟩
    rw [rngD_len]
    exact ds_ret (pu_var rfl) (rt_fz cl (Mor.upd hp) (dz_lst updC_same hp) q)

abbrev s__law_parties : Stmt := topS 14
abbrev N__law_parties : List Str := ["cell", "most", "draws", "rows", "k"]
theorem sc__law_parties : FnScope N__law_parties ["cell", "most"] (defScope s__law_parties) := ⟨rfl, rfl, rfl, by decide +kernel, rfl, by decide +kernel, by decide +kernel⟩

theorem ok__law_parties {f__law_parties : Addr} {fd__law_parties : FuncData} (F__law_parties : Fun K.K "_law_parties" "_law_parties" s__law_parties f__law_parties fd__law_parties) {f__law_draws : Addr} {fd__law_draws : FuncData} (F__law_draws : Fun K.K "_law_draws" "_law_draws" s__law_draws f__law_draws fd__law_draws) (G__law_draws : FnOk K.P K.w K.K mg base CX0 1 f__law_draws fd__law_draws ["cell", "count"] (SpG K rel__law_draws)) (b__law_draws : Binds K.K fd__law_draws ["cell", "count"] []) (g__law_draws : mg "_law_draws" = some (.ref f__law_draws)) (z_int : mg "int" = none) (z_range : mg "range" = none) (z_tuple : mg "tuple" = none) : FnOk K.P K.w K.K mg base CX0 2 f__law_parties fd__law_parties ["cell", "most"] (SpG K rel__law_parties) := by
  refine ok_def F__law_parties sc__law_parties (fun C xs R h => by obtain ⟨_, _, rfl, _⟩ := h; rfl) (fun cdv A outer s H E hr => ?_)
  refine ⟨_, (pss_cons (ps_set (i := 2) sc__law_parties.nd rfl (Or.inr rfl) (pe_call G__law_draws (hr.mono (by decide)) (by rfl) g__law_draws F__law_draws.kp b__law_draws .nil pass0 (pa_cons (pv 0) (pa_cons pe_int pa_nil))))
  (pss_cons (ps_set (i := 3) sc__law_parties.nd rfl (Or.inr rfl) (pe_lst (pa_cons (pe_tup (pa_cons pe_bl (pa_cons pe_bl pa_nil))) (pa_cons (pe_tup (pa_cons pe_bl (pa_cons pe_bl pa_nil))) (pa_cons (pe_tup (pa_cons pe_bl (pa_cons pe_bl pa_nil))) (pa_cons (pe_tup (pa_cons pe_bl (pa_cons pe_bl pa_nil))) pa_nil))))))
  (pss_one (ps_ret (pe_callTy (kx_tuple K.K rfl) (by rfl) z_tuple PyProof.Rows.boot_tuple (pa_cons (pe_lc (own := [("k", 4)]) rfl sc__law_parties.nd (pi_range1 (by rfl) z_range (pa_cons (pe_op op_add pe_int (pe_op op_mod (pe_callTy call_int1 (by rfl) z_int PyProof.Rows.boot_int (pa_cons (pe_ix (kx_ixL K.K rfl) (pv 2) pe_int (fun _ _ => rfl)) pa_nil)) (pv 1))) pa_nil)) (blkOk_by (N := N__law_parties) (sc := defScope s__law_parties) (by decide +kernel)) (fun _ _ _ _ _ => (pg_name (i := 4) sc__law_parties.nd rfl (Or.inl rfl) (Or.inr rfl))) (fun _ _ _ _ _ => pts_nil) (fun _ _ _ _ _ => (pe_ix (kx_ixL K.K rfl) (pv 3) (pe_op op_mod (pe_callTy call_int1 (by rfl) z_int PyProof.Rows.boot_int (pa_cons (pe_ix (kx_ixL K.K rfl) (pv 2) (pe_op op_add pe_int (pv 4)) (fun _ _ => rfl)) pa_nil)) pe_int) (fun _ _ => rfl)))) pa_nil)))))), ?_⟩
  rintro C xs R cl ⟨c, most, rfl, h0, h5, q⟩
  refine ds_set (pu_call (au_cons (pu_var rfl) (au_cons pu_int au_nil)) ⟨c, 10, rfl, by decide, by decide, rfl, rfl⟩) ?_
  have dl : (drawsM c 10).length = 10 := by
    have := drawsM_len (c := c) (n := 10) (by decide)
    omega
  generalize drawsM c 10 = ns at dl q
  refine ds_set (pu_fz (ds := [_, _, _, _]) (pl_lst (au_cons (pu_tup (ds := [_, _]) (au_cons pu_bl (au_cons pu_bl au_nil)) (lk rfl)) (au_cons (pu_tup (ds := [_, _]) (au_cons pu_bl (au_cons pu_bl au_nil)) (lk rfl)) (au_cons (pu_tup (ds := [_, _]) (au_cons pu_bl (au_cons pu_bl au_nil)) (lk rfl)) (au_cons (pu_tup (ds := [_, _]) (au_cons pu_bl (au_cons pu_bl au_nil)) (lk rfl)) au_nil)))) (lk rfl))) ?_
  have f0 : 0 ≤ ns.getD 0 0 % most := Int.emod_nonneg _ (by omega)
  have f1 : ns.getD 0 0 % most < most := Int.emod_lt_of_pos _ h0
  have fe : (partA ns most).map pfD = ((List.range (1 + ns.getD 0 0 % most).toNat).filter fun _ => true).map (fun (k : Nat) => pfD (rowA (ns.getD (1 + (0 + (k : Int))).toNat 0 % 4))) := by
    unfold partA
    rw [List.filter_eq_self.mpr (fun _ _ => rfl), List.map_map]
    rfl
  rw [fe] at q
  have e : (rngD 0 (1 + ns.getD 0 0 % most).toNat).length = (1 + ns.getD 0 0 % most).toNat := rngD_len
  rw [← e] at q
  refine ds_ret (pu_cb (au_cons ?_ au_nil) rc_tupL) (rt_dat cl Mor.refl q)
  refine pu_lc (fun _ => true) _ (ui_rng1 (au_cons (pu_add pu_int (pu_mod (pu_cb (au_cons (pu_ixI (pu_var rfl) pu_int (by decide) (by omega)) au_nil) rc_int1) (pu_var rfl) h0)) au_nil) (by show 1 + ns.getD 0 0 % most ≤ 100000; omega) (by show -100000 ≤ 1 + ns.getD 0 0 % most; omega)) (by rw [e]; omega) (fun _ _ => trivial) ?_
  intro i x C' m hx
  obtain ⟨hi, rfl⟩ := rngD_get hx
  refine ⟨_, [4], by simp, tg_name, ut_yes, fun _ => ?_⟩
  refine pu_ixL (pu_var rfl) (pu_mod (pu_cb (au_cons (pu_ixI (pu_var rfl) (pu_add pu_int (pu_var rfl)) (by omega) (by omega)) au_nil) rc_int1) pu_int (by decide)) ?_
  have g0 : 0 ≤ ns.getD (1 + (0 + (i : Int))).toNat 0 % 4 := Int.emod_nonneg _ (by decide)
  have g1 : ns.getD (1 + (0 + (i : Int))).toNat 0 % 4 < 4 := Int.emod_lt_of_pos _ (by decide)
  generalize ns.getD (1 + (0 + (i : Int))).toNat 0 % 4 = v at g0 g1
  have hv : v = 0 ∨ v = 1 ∨ v = 2 ∨ v = 3 := by omega
  rcases hv with rfl | rfl | rfl | rfl <;> rfl

abbrev s__law_noted : Stmt := topS 15
abbrev N__law_noted : List Str := ["world", "giver", "taker", "kind", "amount", "is_sealed"]
theorem sc__law_noted : FnScope N__law_noted ["world", "giver", "taker", "kind", "amount", "is_sealed"] (defScope s__law_noted) := ⟨rfl, rfl, rfl, by decide +kernel, rfl, by decide +kernel, by decide +kernel⟩

theorem ok__law_noted {f__law_noted : Addr} {fd__law_noted : FuncData} (F__law_noted : Fun K.K "_law_noted" "_law_noted" s__law_noted f__law_noted fd__law_noted) : FnOk K.P K.w K.K mg base CX0 1 f__law_noted fd__law_noted ["world", "giver", "taker", "kind", "amount", "is_sealed"] (SpG K rel__law_noted) := by
  refine ok_def F__law_noted sc__law_noted (fun C xs R h => by obtain ⟨_, _, _, _, _, _, _, _, rfl, _⟩ := h; rfl) (fun cdv A outer s H E hr => ?_)
  refine ⟨_, (pss_cons (ps_dput hr.unit1 (pv 0) pe_str (pe_op op_add (pe_dget hr.unit1 (pv 0) pe_str (fun _ _ => rfl)) pe_int) rfl)
  (pss_cons (ps_expr (pe_bm PySem.F.plainAttrs_list PySem.F.slot_list_append PySem.F.type_list_append mt_append (pe_ix (kx_ixL K.K rfl) (pe_dget hr.unit1 (pv 0) pe_str (fun _ _ => rfl)) (pv 1) (fun _ _ => rfl)) (pa_cons (pe_tup (pa_cons (pe_dget hr.unit1 (pv 0) pe_str (fun _ _ => rfl)) (pa_cons pe_str (pa_cons (pv 3) (pa_cons (pv 4) (pa_cons (pv 2) (pa_cons (pv 5) pa_nil))))))) pa_nil)))
  (pss_one (ps_expr (pe_bm PySem.F.plainAttrs_list PySem.F.slot_list_append PySem.F.type_list_append mt_append (pe_ix (kx_ixL K.K rfl) (pe_dget hr.unit1 (pv 0) pe_str (fun _ _ => rfl)) (pv 2) (fun _ _ => rfl)) (pa_cons (pe_tup (pa_cons (pe_dget hr.unit1 (pv 0) pe_str (fun _ _ => rfl)) (pa_cons pe_str (pa_cons (pv 3) (pa_cons (pv 4) (pa_cons (pv 1) (pa_cons (pv 5) pa_nil))))))) pa_nil)))))), ?_⟩
  rintro C xs R cl ⟨A, W, g, t, k, a, sl, b, rfl, h, ok, hb, g0, g1, t0, t1, q⟩
  have fl := ok.fl
  refine ds_wlast h (pu_add (pu_wlast h (pu_var rfl)) pu_int) (pu_var rfl) fun C1 o1 h1 => ?_
  have z1 : ∀ i : Nat, ((W.files.getD i []).length ≤ b) := fun i => by
    rw [List.getD_eq_getElem?_getD]
    cases e : W.files[i]? with
    | none => exact Nat.zero_le _
    | some f => exact ok.fb f (List.mem_of_getElem? e)
  refine ds_wfile (e := .cpy "gave" (W.last + 1) k a t sl) h1 g0 (by show g.toNat < W.files.length; omega) (by have := z1 g.toNat; show (W.files.getD _ _).length < _; omega) (pu_wfiles h1 (pu_var rfl)) (pu_var rfl) (pu_tup (ds := [_, _, _, _, _, _]) (au_cons (pu_wlast h1 (pu_var rfl)) (au_cons pu_str (au_cons (pu_var rfl) (au_cons (pu_var rfl) (au_cons (pu_var rfl) (au_cons (pu_var rfl) au_nil)))))) (lk rfl)) fun C2 o2 h2 => ?_
  have z2 : ((addF W.files g (.cpy "gave" (W.last + 1) k a t sl)).getD t.toNat []).length ≤ b + 1 := by
    rw [List.getD_eq_getElem?_getD]
    cases e : (addF W.files g (.cpy "gave" (W.last + 1) k a t sl))[t.toNat]? with
    | none => exact Nat.zero_le _
    | some f => exact addF_mem ok.fb f (List.mem_of_getElem? e)
  exact ds_wfile (rest := tNext) (e := .cpy "took" (W.last + 1) k a g sl) h2 t0 (by show t.toNat < (addF W.files g (.cpy "gave" (W.last + 1) k a t sl)).length; rw [addF_len]; omega) (Nat.lt_of_le_of_lt z2 (by omega)) (pu_wfiles h2 (pu_var rfl)) (pu_var rfl) (pu_tup (ds := [_, _, _, _, _, _]) (au_cons (pu_wlast h2 (pu_var rfl)) (au_cons pu_str (au_cons (pu_var rfl) (au_cons (pu_var rfl) (au_cons (pu_var rfl) (au_cons (pu_var rfl) au_nil)))))) (lk rfl)) fun C3 o3 h3 => ds_next (rt_keep (q _ ((o1.trans o2).trans o3) h3))

abbrev s__law_honest : Stmt := topS 16
abbrev N__law_honest : List Str := ["world", "word", "party", "other", "kind", "amount", "is_sealed", "stock"]
theorem sc__law_honest : FnScope N__law_honest ["world", "word", "party", "other", "kind", "amount", "is_sealed"] (defScope s__law_honest) := ⟨rfl, rfl, rfl, by decide +kernel, rfl, by decide +kernel, by decide +kernel⟩

theorem ok__law_honest {f__law_honest : Addr} {fd__law_honest : FuncData} (F__law_honest : Fun K.K "_law_honest" "_law_honest" s__law_honest f__law_honest fd__law_honest) {f__law_noted : Addr} {fd__law_noted : FuncData} (F__law_noted : Fun K.K "_law_noted" "_law_noted" s__law_noted f__law_noted fd__law_noted) (G__law_noted : FnOk K.P K.w K.K mg base CX0 1 f__law_noted fd__law_noted ["world", "giver", "taker", "kind", "amount", "is_sealed"] (SpG K rel__law_noted)) (b__law_noted : Binds K.K fd__law_noted ["world", "giver", "taker", "kind", "amount", "is_sealed"] []) (g__law_noted : mg "_law_noted" = some (.ref f__law_noted)) : FnOk K.P K.w K.K mg base CX0 2 f__law_honest fd__law_honest ["world", "word", "party", "other", "kind", "amount", "is_sealed"] (SpG K rel__law_honest) := by
  refine ok_def F__law_honest sc__law_honest (fun C xs R h => by obtain ⟨_, _, _, _, rfl, _⟩ := h; rfl) (fun cdv A outer s H E hr => ?_)
  refine ⟨_, (pss_cons (ps_set (i := 7) sc__law_honest.nd rfl (Or.inl rfl) (pe_dget hr.unit1 (pv 0) pe_str (fun _ _ => rfl)))
  (pss_cons (ps_if (PW.pt (pw_and (pt_cmpR op_eq (pv 1) pe_str (nomark _)) (pw_and1 (pt_val (pe_ix (kx_ixT K.K rfl) (pe_ix (kx_ixT K.K rfl) (pe_dget hr.unit1 (pv 0) pe_str (fun _ _ => rfl)) (pv 2) (fun _ _ => rfl)) pe_int (fun _ _ => rfl)))))) (pss_cons (ps_dput hr.unit1 (pv 0) pe_str (pe_op op_add (pe_dget hr.unit1 (pv 0) pe_str (fun _ _ => rfl)) pe_int) rfl)
  (pss_cons (ps_asg (pe_op op_add (pe_ix (kx_ixL K.K rfl) (pe_ix (kx_ixL K.K rfl) (pv 7) (pv 2) (fun _ _ => rfl)) (pv 4) (fun _ _ => rfl)) (pv 5)) (pg_sub (pe_ix (kx_ixL K.K rfl) (pv 7) (pv 2) (fun _ _ => rfl)) (pv 4) set_list))
  (pss_cons (ps_expr (pe_bm PySem.F.plainAttrs_list PySem.F.slot_list_append PySem.F.type_list_append mt_append (pe_ix (kx_ixL K.K rfl) (pe_dget hr.unit1 (pv 0) pe_str (fun _ _ => rfl)) (pv 2) (fun _ _ => rfl)) (pa_cons (pe_tup (pa_cons (pe_dget hr.unit1 (pv 0) pe_str (fun _ _ => rfl)) (pa_cons pe_str (pa_cons (pv 4) (pa_cons (pv 5) pa_nil))))) pa_nil)))
  (pss_one (ps_expr (pe_bm PySem.F.plainAttrs_list PySem.F.slot_list_append PySem.F.type_list_append mt_append (pe_dget hr.unit1 (pv 0) pe_str (fun _ _ => rfl)) (pa_cons (pe_tup (pa_cons pe_str (pa_cons (pe_dget hr.unit1 (pv 0) pe_str (fun _ _ => rfl)) (pa_cons (pv 2) (pa_cons (pv 4) (pa_cons (pv 5) pa_nil)))))) pa_nil))))))) (pss_one (ps_if (PW.pt (pw_and (pt_cmpR op_eq (pv 1) pe_str (nomark _)) (pw_and (pt_val (pe_ix (kx_ixT K.K rfl) (pe_ix (kx_ixT K.K rfl) (pe_dget hr.unit1 (pv 0) pe_str (fun _ _ => rfl)) (pv 2) (fun _ _ => rfl)) pe_int (fun _ _ => rfl))) (pw_and1 (pt_cmpR op_ge (pe_ix (kx_ixL K.K rfl) (pe_ix (kx_ixL K.K rfl) (pv 7) (pv 2) (fun _ _ => rfl)) (pv 4) (fun _ _ => rfl)) (pv 5) (nomark _)))))) (pss_cons (ps_dput hr.unit1 (pv 0) pe_str (pe_op op_add (pe_dget hr.unit1 (pv 0) pe_str (fun _ _ => rfl)) pe_int) rfl)
  (pss_cons (ps_asg (pe_op op_sub (pe_ix (kx_ixL K.K rfl) (pe_ix (kx_ixL K.K rfl) (pv 7) (pv 2) (fun _ _ => rfl)) (pv 4) (fun _ _ => rfl)) (pv 5)) (pg_sub (pe_ix (kx_ixL K.K rfl) (pv 7) (pv 2) (fun _ _ => rfl)) (pv 4) set_list))
  (pss_cons (ps_expr (pe_bm PySem.F.plainAttrs_list PySem.F.slot_list_append PySem.F.type_list_append mt_append (pe_ix (kx_ixL K.K rfl) (pe_dget hr.unit1 (pv 0) pe_str (fun _ _ => rfl)) (pv 2) (fun _ _ => rfl)) (pa_cons (pe_tup (pa_cons (pe_dget hr.unit1 (pv 0) pe_str (fun _ _ => rfl)) (pa_cons pe_str (pa_cons (pv 4) (pa_cons (pv 5) pa_nil))))) pa_nil)))
  (pss_one (ps_expr (pe_bm PySem.F.plainAttrs_list PySem.F.slot_list_append PySem.F.type_list_append mt_append (pe_dget hr.unit1 (pv 0) pe_str (fun _ _ => rfl)) (pa_cons (pe_tup (pa_cons pe_str (pa_cons (pe_dget hr.unit1 (pv 0) pe_str (fun _ _ => rfl)) (pa_cons (pv 2) (pa_cons (pv 4) (pa_cons (pv 5) pa_nil)))))) pa_nil))))))) (pss_one (ps_if (PW.pt (pw_and (pt_cmpR op_eq (pv 1) pe_str (nomark _)) (pw_and (pt_cmpR op_ne (pv 2) (pv 3) (nomark _)) (pw_and1 (pt_cmpR op_ge (pe_ix (kx_ixL K.K rfl) (pe_ix (kx_ixL K.K rfl) (pv 7) (pv 2) (fun _ _ => rfl)) (pv 4) (fun _ _ => rfl)) (pv 5) (nomark _)))))) (pss_cons (ps_expr (pe_call G__law_noted (hr.mono (by decide)) (by rfl) g__law_noted F__law_noted.kp b__law_noted .nil pass0 (pa_cons (pv 0) (pa_cons (pv 2) (pa_cons (pv 3) (pa_cons (pv 4) (pa_cons (pv 5) (pa_cons (pv 6) pa_nil))))))))
  (pss_cons (ps_asg (pe_op op_sub (pe_ix (kx_ixL K.K rfl) (pe_ix (kx_ixL K.K rfl) (pv 7) (pv 2) (fun _ _ => rfl)) (pv 4) (fun _ _ => rfl)) (pv 5)) (pg_sub (pe_ix (kx_ixL K.K rfl) (pv 7) (pv 2) (fun _ _ => rfl)) (pv 4) set_list))
  (pss_cons (ps_asg (pe_op op_add (pe_ix (kx_ixL K.K rfl) (pe_ix (kx_ixL K.K rfl) (pv 7) (pv 3) (fun _ _ => rfl)) (pv 4) (fun _ _ => rfl)) (pv 5)) (pg_sub (pe_ix (kx_ixL K.K rfl) (pv 7) (pv 3) (fun _ _ => rfl)) (pv 4) set_list))
  (pss_one (ps_expr (pe_bm PySem.F.plainAttrs_list PySem.F.slot_list_append PySem.F.type_list_append mt_append (pe_dget hr.unit1 (pv 0) pe_str (fun _ _ => rfl)) (pa_cons (pe_tup (pa_cons pe_str (pa_cons (pe_dget hr.unit1 (pv 0) pe_str (fun _ _ => rfl)) (pa_cons (pv 2) (pa_cons (pv 3) (pa_cons (pv 4) (pa_cons (pv 5) (pa_cons (pv 6) pa_nil)))))))) pa_nil))))))) (pss_one (ps_if (pt_cmpR op_eq (pv 1) pe_str (nomark _)) (pss_cons (ps_dput hr.unit1 (pv 0) pe_str (pe_op op_add (pe_dget hr.unit1 (pv 0) pe_str (fun _ _ => rfl)) pe_int) rfl)
  (pss_cons (ps_expr (pe_bm PySem.F.plainAttrs_list PySem.F.slot_list_append PySem.F.type_list_append mt_append (pe_dget hr.unit1 (pv 0) pe_str (fun _ _ => rfl)) (pa_cons (pe_tup (pa_cons (pe_dget hr.unit1 (pv 0) pe_str (fun _ _ => rfl)) (pa_cons (pv 2) (pa_cons (pv 4) (pa_cons (pe_ix (kx_ixL K.K rfl) (pe_ix (kx_ixL K.K rfl) (pv 7) (pv 2) (fun _ _ => rfl)) (pv 4) (fun _ _ => rfl)) pa_nil))))) pa_nil)))
  (pss_one (ps_expr (pe_bm PySem.F.plainAttrs_list PySem.F.slot_list_append PySem.F.type_list_append mt_append (pe_dget hr.unit1 (pv 0) pe_str (fun _ _ => rfl)) (pa_cons (pe_tup (pa_cons pe_str (pa_cons (pe_dget hr.unit1 (pv 0) pe_str (fun _ _ => rfl)) (pa_cons (pv 2) (pa_cons (pv 4) (pa_cons (pe_ix (kx_ixL K.K rfl) (pe_ix (kx_ixL K.K rfl) (pv 7) (pv 2) (fun _ _ => rfl)) (pv 4) (fun _ _ => rfl)) pa_nil)))))) pa_nil)))))) (pss_one (ps_ret pe_bl)))))))))
  (pss_one (ps_ret pe_bl)))), ?_⟩
  rintro C xs R cl ⟨A, W, ⟨w, p, o, k, a, sl⟩, b, rfl, h, ok, hb, ⟨p0, p1, o0, o1, k0, k1⟩, q⟩
  have p0 : 0 ≤ p := p0
  have p1 : p < W.pf.length := p1
  have o0 : 0 ≤ o := o0
  have o1 : o < W.pf.length := o1
  have k0 : 0 ≤ k := k0
  have k1 : k < W.kd := k1
  have fl := ok.fl
  have zf : ∀ i : Nat, ((W.files.getD i []).length ≤ b) := fun i => by
    rw [List.getD_eq_getElem?_getD]
    cases e : W.files[i]? with
    | none => exact Nat.zero_le _
    | some f => exact ok.fb f (List.mem_of_getElem? e)
  have zp := zf p.toNat
  have ze := ok.ev
  have zn := ok.fn
  refine ds_set (pu_dget (pu_var rfl) pu_str h.dic gk_stock) ?_
  refine ds_ifs (ut_and (ut_test (pu_eqStr (pu_var rfl) pu_str)) fun _ => (ut_B (pu_ixT (pu_wpf h p0 p1 (pu_var rfl) (pu_var rfl)) pu_int rfl))) (fun hc => ?_) (fun hc => ?_)
  · rw [Bool.and_eq_true, decide_eq_true_iff] at hc
    have qe : honM W ⟨w, p, o, k, a, sl⟩ = some (makM W p k a) := if_pos hc
    rw [qe] at q
    refine ds_assoc (ds_wlast h (pu_add (pu_wlast h (pu_var rfl)) pu_int) (pu_var rfl) fun C1 s1 h1 => ?_)
    refine ds_assoc (ds_wst h1 ok.st p0 p1 k0 k1 (pu_add (pu_wst h1 ok.st p0 p1 k0 k1 (pu_var rfl) (pu_var rfl) (pu_var rfl)) (pu_var rfl)) (pu_var rfl) (pu_var rfl) (pu_var rfl) fun C2 s2 h2 => ?_)
    refine ds_assoc (ds_wfile (e := .own "made" (W.last + 1) k a) h2 p0 (by show p.toNat < W.files.length; omega) (by show (W.files.getD _ _).length < _; omega) (pu_wfiles h2 (pu_var rfl)) (pu_var rfl) (pu_tup (ds := [_, _, _, _]) (au_cons (pu_wlast h2 (pu_var rfl)) (au_cons pu_str (au_cons (pu_var rfl) (au_cons (pu_var rfl) au_nil)))) (lk rfl)) fun C3 s3 h3 => ?_)
    exact ds_wev (e := .own "made" (W.last + 1) p k a) h3 (by show W.events.length < _; omega) (pu_var rfl) (pu_tup (ds := [_, _, _, _, _]) (au_cons pu_str (au_cons (pu_wlast h3 (pu_var rfl)) (au_cons (pu_var rfl) (au_cons (pu_var rfl) (au_cons (pu_var rfl) au_nil))))) (lk rfl)) fun C4 s4 h4 => ds_ret pu_bl (rt_keep (q _ (((s1.trans s2).trans s3).trans s4) h4))
  have n1 : ¬(w = "make" ∧ (pfAt W.pf p).1 = true) := fun z => by
    rw [decide_eq_true z.1, z.2] at hc
    cases hc
  refine ds_ifs (ut_and (ut_test (pu_eqStr (pu_var rfl) pu_str)) fun _ => (ut_and (ut_B (pu_ixT (pu_wpf h p0 p1 (pu_var rfl) (pu_var rfl)) pu_int rfl)) fun _ => (ut_test (pu_ge (pu_wst h ok.st p0 p1 k0 k1 (pu_var rfl) (pu_var rfl) (pu_var rfl)) (pu_var rfl))))) (fun hc => ?_) (fun hc => ?_)
  · rw [Bool.and_eq_true, Bool.and_eq_true, decide_eq_true_iff, decide_eq_true_iff] at hc
    have qe : honM W ⟨w, p, o, k, a, sl⟩ = some (treM W p k a) := (if_neg n1).trans (if_pos hc)
    rw [qe] at q
    refine ds_assoc (ds_wlast h (pu_add (pu_wlast h (pu_var rfl)) pu_int) (pu_var rfl) fun C1 s1 h1 => ?_)
    refine ds_assoc (ds_wst (a := -a) h1 ok.st p0 p1 k0 k1 (pu_sub (pu_wst h1 ok.st p0 p1 k0 k1 (pu_var rfl) (pu_var rfl) (pu_var rfl)) (pu_var rfl)) (pu_var rfl) (pu_var rfl) (pu_var rfl) fun C2 s2 h2 => ?_)
    refine ds_assoc (ds_wfile (e := .own "treated" (W.last + 1) k a) h2 p0 (by show p.toNat < W.files.length; omega) (by show (W.files.getD _ _).length < _; omega) (pu_wfiles h2 (pu_var rfl)) (pu_var rfl) (pu_tup (ds := [_, _, _, _]) (au_cons (pu_wlast h2 (pu_var rfl)) (au_cons pu_str (au_cons (pu_var rfl) (au_cons (pu_var rfl) au_nil)))) (lk rfl)) fun C3 s3 h3 => ?_)
    exact ds_wev (e := .own "treated" (W.last + 1) p k a) h3 (by show W.events.length < _; omega) (pu_var rfl) (pu_tup (ds := [_, _, _, _, _]) (au_cons pu_str (au_cons (pu_wlast h3 (pu_var rfl)) (au_cons (pu_var rfl) (au_cons (pu_var rfl) (au_cons (pu_var rfl) au_nil))))) (lk rfl)) fun C4 s4 h4 => ds_ret pu_bl (rt_keep (q _ (((s1.trans s2).trans s3).trans s4) h4))
  have n2 : ¬(w = "treat" ∧ (pfAt W.pf p).2 = true ∧ a ≤ getM W.stock p k) := fun z => by
    rw [decide_eq_true z.1, z.2.1, decide_eq_true z.2.2] at hc
    cases hc
  refine ds_ifs (ut_and (ut_test (pu_eqStr (pu_var rfl) pu_str)) fun _ => (ut_and (ut_test (pu_neI (pu_var rfl) (pu_var rfl))) fun _ => (ut_test (pu_ge (pu_wst h ok.st p0 p1 k0 k1 (pu_var rfl) (pu_var rfl) (pu_var rfl)) (pu_var rfl))))) (fun hc => ?_) (fun hc => ?_)
  · have hc : w = "hand" ∧ p ≠ o ∧ a ≤ getM W.stock p k := by simpa using hc
    have qe : honM W ⟨w, p, o, k, a, sl⟩ = some (hanM W p o k a sl) := (if_neg n1).trans ((if_neg n2).trans (if_pos hc))
    rw [qe] at q
    refine ds_assoc (ds_drop (ev_call (P := fun x C' => Only A.own C C' ∧ WdAt C' A (notM W p o k a sl)) (au_cons (pu_var rfl) (au_cons (pu_var rfl) (au_cons (pu_var rfl) (au_cons (pu_var rfl) (au_cons (pu_var rfl) (au_cons (pu_var rfl) au_nil)))))) ⟨A, W, p, o, k, a, sl, b, rfl, h, ok, by omega, p0, p1, o0, o1, fun C' s1 h1 => ⟨s1, h1⟩⟩) ?_)
    rintro _ C1 ⟨s1, h1⟩
    refine ds_assoc (ds_wst (a := -a) h1 ok.st p0 p1 k0 k1 (pu_sub (pu_wst h1 ok.st p0 p1 k0 k1 (pu_var rfl) (pu_var rfl) (pu_var rfl)) (pu_var rfl)) (pu_var rfl) (pu_var rfl) (pu_var rfl) fun C2 s2 h2 => ?_)
    have S2 := ok.st.add (p := p) (k := k) (a := -a) (by omega)
    refine ds_assoc (ds_wst h2 S2 o0 o1 k0 k1 (pu_add (pu_wst h2 S2 o0 o1 k0 k1 (pu_var rfl) (pu_var rfl) (pu_var rfl)) (pu_var rfl)) (pu_var rfl) (pu_var rfl) (pu_var rfl) fun C3 s3 h3 => ?_)
    exact ds_wev (e := .hand (W.last + 1) p o k a sl) h3 (by show W.events.length < _; omega) (pu_var rfl) (pu_tup (ds := [_, _, _, _, _, _, _]) (au_cons pu_str (au_cons (pu_wlast h3 (pu_var rfl)) (au_cons (pu_var rfl) (au_cons (pu_var rfl) (au_cons (pu_var rfl) (au_cons (pu_var rfl) (au_cons (pu_var rfl) au_nil))))))) (lk rfl)) fun C4 s4 h4 => ds_ret pu_bl (rt_keep (q _ (((s1.trans s2).trans s3).trans s4) h4))
  have n3 : ¬(w = "hand" ∧ p ≠ o ∧ a ≤ getM W.stock p k) := fun z => by
    rw [decide_eq_true z.1, decide_eq_false z.2.1, decide_eq_true z.2.2] at hc
    cases hc
  refine ds_ifs (ut_test (pu_eqStr (pu_var rfl) pu_str)) (fun hc => ?_) (fun hc => ?_)
  · have hc : w = "inspect" := of_decide_eq_true hc
    have qe : honM W ⟨w, p, o, k, a, sl⟩ = some (insM W p k) := (if_neg n1).trans ((if_neg n2).trans ((if_neg n3).trans (if_pos hc)))
    rw [qe] at q
    refine ds_assoc (ds_wlast h (pu_add (pu_wlast h (pu_var rfl)) pu_int) (pu_var rfl) fun C1 s1 h1 => ?_)
    refine ds_assoc (ds_wfd (e := ⟨W.last + 1, p, k, getM W.stock p k⟩) h1 (by show W.finds.length < _; omega) (pu_var rfl) (pu_tup (ds := [_, _, _, _]) (au_cons (pu_wlast h1 (pu_var rfl)) (au_cons (pu_var rfl) (au_cons (pu_var rfl) (au_cons (pu_is (pu_wst h1 ok.st p0 p1 k0 k1 (pu_var rfl) (pu_var rfl) (pu_var rfl)) rfl) au_nil)))) (lk rfl)) fun C2 s2 h2 => ?_)
    exact ds_wev (e := .own "found" (W.last + 1) p k (getM W.stock p k)) h2 (by show W.events.length < _; omega) (pu_var rfl) (pu_tup (ds := [_, _, _, _, _]) (au_cons pu_str (au_cons (pu_wlast h2 (pu_var rfl)) (au_cons (pu_var rfl) (au_cons (pu_var rfl) (au_cons (pu_is (pu_wst h2 ok.st p0 p1 k0 k1 (pu_var rfl) (pu_var rfl) (pu_var rfl)) rfl) au_nil))))) (lk rfl)) fun C4 s4 h4 => ds_ret pu_bl (rt_keep (q _ ((s1.trans s2).trans s4) h4))
  · have qe : honM W ⟨w, p, o, k, a, sl⟩ = none := (if_neg n1).trans ((if_neg n2).trans ((if_neg n3).trans (if_neg (of_decide_eq_false hc))))
    rw [qe] at q
    exact ds_retseq (ds_ret pu_bl (rt_keep (q _ Only.refl h)))

end
end K40

set_option maxHeartbeats 40000000
namespace K40
open PySem PySem.Spec PyProof.Rows L2 Ab Lm Hm Wda
section
variable {K : Kw} {mg : Str → Option Value} {base : Heap}
abbrev s__law_lied : Stmt := topS 17
abbrev N__law_lied : List Str := ["world", "word", "party", "other", "kind", "amount", "is_sealed", "stock", "liars", "deed", "more", "liar"]
theorem sc__law_lied : FnScope N__law_lied ["world", "word", "party", "other", "kind", "amount", "is_sealed"] (defScope s__law_lied) := ⟨rfl, rfl, rfl, by decide +kernel, rfl, by decide +kernel, by decide +kernel⟩

theorem ok__law_lied {f__law_lied : Addr} {fd__law_lied : FuncData} (F__law_lied : Fun K.K "_law_lied" "_law_lied" s__law_lied f__law_lied fd__law_lied) {f__law_noted : Addr} {fd__law_noted : FuncData} (F__law_noted : Fun K.K "_law_noted" "_law_noted" s__law_noted f__law_noted fd__law_noted) (G__law_noted : FnOk K.P K.w K.K mg base CX0 1 f__law_noted fd__law_noted ["world", "giver", "taker", "kind", "amount", "is_sealed"] (SpG K rel__law_noted)) (b__law_noted : Binds K.K fd__law_noted ["world", "giver", "taker", "kind", "amount", "is_sealed"] []) (g__law_noted : mg "_law_noted" = some (.ref f__law_noted)) (z_int : mg "int" = none) (z_len : mg "len" = none) : FnOk K.P K.w K.K mg base CX0 2 f__law_lied fd__law_lied ["world", "word", "party", "other", "kind", "amount", "is_sealed"] (SpG K rel__law_lied) := by
  refine ok_def F__law_lied sc__law_lied (fun C xs R h => by obtain ⟨_, _, _, _, rfl, _⟩ := h; rfl) (fun cdv A outer s H E hr => ?_)
  refine ⟨_, (pss_cons (ps_set (i := 7) sc__law_lied.nd rfl (Or.inl rfl) (pe_dget hr.unit1 (pv 0) pe_str (fun _ _ => rfl)))
  (pss_cons (ps_set (i := 8) sc__law_lied.nd rfl (Or.inl rfl) (pe_lst (pa_cons (pv 2) pa_nil)))
  (pss_cons (ps_if (PW.pt (pw_and (pt_cmpR op_eq (pv 1) pe_str (nomark _)) (pw_and (pt_cmpR op_ne (pv 2) (pv 3) (nomark _)) (pw_and1 (pt_cmpR op_ge (pe_ix (kx_ixL K.K rfl) (pe_ix (kx_ixL K.K rfl) (pv 7) (pv 2) (fun _ _ => rfl)) (pv 4) (fun _ _ => rfl)) (pv 5) (nomark _)))))) (pss_cons (ps_asg (pe_op op_sub (pe_ix (kx_ixL K.K rfl) (pe_ix (kx_ixL K.K rfl) (pv 7) (pv 2) (fun _ _ => rfl)) (pv 4) (fun _ _ => rfl)) (pv 5)) (pg_sub (pe_ix (kx_ixL K.K rfl) (pv 7) (pv 2) (fun _ _ => rfl)) (pv 4) set_list))
  (pss_cons (ps_asg (pe_op op_add (pe_ix (kx_ixL K.K rfl) (pe_ix (kx_ixL K.K rfl) (pv 7) (pv 3) (fun _ _ => rfl)) (pv 4) (fun _ _ => rfl)) (pv 5)) (pg_sub (pe_ix (kx_ixL K.K rfl) (pv 7) (pv 3) (fun _ _ => rfl)) (pv 4) set_list))
  (pss_cons (ps_expr (pe_bm PySem.F.plainAttrs_list PySem.F.slot_list_append PySem.F.type_list_append mt_append (pe_dget hr.unit1 (pv 0) pe_str (fun _ _ => rfl)) (pa_cons (pe_tup (pa_cons pe_str (pa_cons (pv 2) (pa_cons (pv 3) (pa_cons (pv 4) (pa_cons (pv 5) pa_nil)))))) pa_nil)))
  (pss_one (ps_set (i := 8) sc__law_lied.nd rfl (Or.inl rfl) (pe_lst (pa_cons (pv 2) (pa_cons (pv 3) pa_nil)))))))) (pss_one (ps_if (PW.pt (pw_and (pt_cmpR op_eq (pv 1) pe_str (nomark _)) (pw_and1 (pt_cmpR op_ge (pe_ix (kx_ixL K.K rfl) (pe_ix (kx_ixL K.K rfl) (pv 7) (pv 2) (fun _ _ => rfl)) (pv 4) (fun _ _ => rfl)) (pv 5) (nomark _))))) (pss_cons (ps_asg (pe_op op_sub (pe_ix (kx_ixL K.K rfl) (pe_ix (kx_ixL K.K rfl) (pv 7) (pv 2) (fun _ _ => rfl)) (pv 4) (fun _ _ => rfl)) (pv 5)) (pg_sub (pe_ix (kx_ixL K.K rfl) (pv 7) (pv 2) (fun _ _ => rfl)) (pv 4) set_list))
  (pss_one (ps_expr (pe_bm PySem.F.plainAttrs_list PySem.F.slot_list_append PySem.F.type_list_append mt_append (pe_dget hr.unit1 (pv 0) pe_str (fun _ _ => rfl)) (pa_cons (pe_tup (pa_cons pe_str (pa_cons (pv 2) (pa_cons (pv 4) (pa_cons (pv 5) pa_nil))))) pa_nil))))) (pss_one (ps_if (PW.pt (pw_and (pt_cmpR op_eq (pv 1) pe_str (nomark _)) (pw_and1 (pt_val (pe_ix (kx_ixT K.K rfl) (pe_ix (kx_ixT K.K rfl) (pe_dget hr.unit1 (pv 0) pe_str (fun _ _ => rfl)) (pv 2) (fun _ _ => rfl)) pe_int (fun _ _ => rfl)))))) (pss_cons (ps_asg (pe_op op_add (pe_ix (kx_ixL K.K rfl) (pe_ix (kx_ixL K.K rfl) (pv 7) (pv 2) (fun _ _ => rfl)) (pv 4) (fun _ _ => rfl)) (pv 5)) (pg_sub (pe_ix (kx_ixL K.K rfl) (pv 7) (pv 2) (fun _ _ => rfl)) (pv 4) set_list))
  (pss_one (ps_expr (pe_bm PySem.F.plainAttrs_list PySem.F.slot_list_append PySem.F.type_list_append mt_append (pe_dget hr.unit1 (pv 0) pe_str (fun _ _ => rfl)) (pa_cons (pe_tup (pa_cons pe_str (pa_cons (pv 2) (pa_cons (pv 4) (pa_cons (pv 5) pa_nil))))) pa_nil))))) (pss_one (ps_if (PW.pt (pw_and (pt_cmpR op_eq (pv 1) pe_str (nomark _)) (pw_and1 (pt_cmpR op_ne (pv 2) (pv 3) (nomark _))))) (pss_cons (ps_expr (pe_call G__law_noted (hr.mono (by decide)) (by rfl) g__law_noted F__law_noted.kp b__law_noted .nil pass0 (pa_cons (pv 0) (pa_cons (pv 2) (pa_cons (pv 3) (pa_cons (pv 4) (pa_cons (pv 5) (pa_cons (pv 6) pa_nil))))))))
  (pss_one (ps_set (i := 8) sc__law_lied.nd rfl (Or.inl rfl) (pe_lst (pa_cons (pv 2) (pa_cons (pv 3) pa_nil)))))) (pss_one (ps_if (pt_cmpR op_eq (pv 1) pe_str (nomark _)) (pss_cons (ps_dput hr.unit1 (pv 0) pe_str (pe_op op_add (pe_dget hr.unit1 (pv 0) pe_str (fun _ _ => rfl)) pe_int) rfl)
  (pss_cons (ps_set (i := 9) sc__law_lied.nd rfl (Or.inl rfl) (pe_ix (kx_ixL K.K rfl) (pe_lst (pa_cons pe_str (pa_cons pe_str (pa_cons pe_str (pa_cons pe_str pa_nil))))) (pe_op op_add (pe_callTy call_int1 (by rfl) z_int PyProof.Rows.boot_int (pa_cons (pv 6) pa_nil)) (pe_op op_mul pe_int (pe_callTy call_int1 (by rfl) z_int PyProof.Rows.boot_int (pa_cons (pe_cmpR op_ne (pv 2) (pv 3) (nomark _)) pa_nil)))) (fun _ _ => rfl)))
  (pss_cons (ps_set (i := 10) sc__law_lied.nd rfl (Or.inl rfl) (pe_ifExp (pt_cmpR (kx_in K.K rfl) (pv 9) (pe_tup (pa_cons pe_str (pa_cons pe_str pa_nil))) (by rfl)) (pe_tup (pa_cons (pv 3) (pa_cons pe_bl pa_nil))) (pe_tup pa_nil)))
  (pss_one (ps_expr (pe_bm PySem.F.plainAttrs_list PySem.F.slot_list_append PySem.F.type_list_append mt_append (pe_ix (kx_ixL K.K rfl) (pe_dget hr.unit1 (pv 0) pe_str (fun _ _ => rfl)) (pv 2) (fun _ _ => rfl)) (pa_cons (pe_op (kx_catA K.K rfl) (pe_tup (pa_cons (pe_dget hr.unit1 (pv 0) pe_str (fun _ _ => rfl)) (pa_cons (pv 9) (pa_cons (pv 4) (pa_cons (pv 5) pa_nil))))) (pv 10)) pa_nil))))))) (pss_one (ps_if (PW.pt (pw_and (pt_cmpR op_eq (pv 1) pe_str (nomark _)) (pw_and1 (pt_cmpR op_gt (pe_callB (kx_len K.K rfl) (by rfl) z_len PySem.boot_len (pa_cons (pe_ix (kx_ixL K.K rfl) (pe_dget hr.unit1 (pv 0) pe_str (fun _ _ => rfl)) (pv 2) (fun _ _ => rfl)) pa_nil)) pe_int (nomark _))))) (pss_one (ps_expr (pe_bm PySem.F.plainAttrs_list PySem.F.slot_list_pop PySem.F.type_list_pop mt_popAt (pe_ix (kx_ixL K.K rfl) (pe_dget hr.unit1 (pv 0) pe_str (fun _ _ => rfl)) (pv 2) (fun _ _ => rfl)) (pa_cons (pe_op op_mod (pe_callTy call_int1 (by rfl) z_int PyProof.Rows.boot_int (pa_cons (pv 5) pa_nil)) (pe_callB (kx_len K.K rfl) (by rfl) z_len PySem.boot_len (pa_cons (pe_ix (kx_ixL K.K rfl) (pe_dget hr.unit1 (pv 0) pe_str (fun _ _ => rfl)) (pv 2) (fun _ _ => rfl)) pa_nil))) pa_nil)))) (pss_one (ps_ret pe_bl)))))))))))))
  (pss_cons (ps_for PassesOwn.never rfl (kx_pList K.K rfl (pv 8)) (pg_name (i := 11) sc__law_lied.nd rfl (Or.inl rfl)) (pss_one (ps_if (pt_cmpR (kx_notIn K.K rfl) (pv 11) (pe_dget hr.unit1 (pv 0) pe_str (fun _ _ => rfl)) (by rfl)) (pss_one (ps_expr (pe_bm PySem.F.plainAttrs_list PySem.F.slot_list_append PySem.F.type_list_append mt_append (pe_dget hr.unit1 (pv 0) pe_str (fun _ _ => rfl)) (pa_cons (pv 11) pa_nil)))) pss_nil)))
  (pss_one (ps_ret pe_bl)))))), ?_⟩
  rintro C xs R cl ⟨A, W, ⟨w, p, o, k, a, sl⟩, b, rfl, h, ok, hb, ⟨p0, p1, o0, o1, k0, k1⟩, q⟩
  have p0 : 0 ≤ p := p0
  have p1 : p < W.pf.length := p1
  have o0 : 0 ≤ o := o0
  have o1 : o < W.pf.length := o1
  have k0 : 0 ≤ k := k0
  have k1 : k < W.kd := k1
  have fl := ok.fl
  have zf : ∀ i : Nat, ((W.files.getD i []).length ≤ b) := fun i => by
    rw [List.getD_eq_getElem?_getD]
    cases e : W.files[i]? with
    | none => exact Nat.zero_le _
    | some f => exact ok.fb f (List.mem_of_getElem? e)
  have zp := zf p.toNat
  have ze := ok.ev
  have zl := ok.li
  refine ds_set (pu_dget (pu_var rfl) pu_str h.dic gk_stock) ?_
  refine ds_set (pu_fz (ds := [.int p]) (pl_lst (au_cons (pu_var rfl) au_nil) (lk rfl))) ?_
  refine ds_ifs (ut_and (ut_test (pu_eqStr (pu_var rfl) pu_str)) fun _ => (ut_and (ut_test (pu_neI (pu_var rfl) (pu_var rfl))) fun _ => (ut_test (pu_ge (pu_wst h ok.st p0 p1 k0 k1 (pu_var rfl) (pu_var rfl) (pu_var rfl)) (pu_var rfl))))) (fun hc => ?_) (fun hc => ?_)
  · have hc : w = "pass" ∧ p ≠ o ∧ a ≤ getM W.stock p k := by simpa using hc
    have qe : lieM W ⟨w, p, o, k, a, sl⟩ = some (blmM (pasM W p o k a) [p, o]) := if_pos hc
    rw [qe] at q
    refine ds_assoc (ds_wst (a := -a) h ok.st p0 p1 k0 k1 (pu_sub (pu_wst h ok.st p0 p1 k0 k1 (pu_var rfl) (pu_var rfl) (pu_var rfl)) (pu_var rfl)) (pu_var rfl) (pu_var rfl) (pu_var rfl) fun C2 s2 h2 => ?_)
    have S2 := ok.st.add (p := p) (k := k) (a := -a) (by omega)
    refine ds_assoc (ds_wst h2 S2 o0 o1 k0 k1 (pu_add (pu_wst h2 S2 o0 o1 k0 k1 (pu_var rfl) (pu_var rfl) (pu_var rfl)) (pu_var rfl)) (pu_var rfl) (pu_var rfl) (pu_var rfl) fun C3 s3 h3 => ?_)
    refine ds_assoc (ds_wev (e := .pass p o k a) h3 (by show W.events.length < _; omega) (pu_var rfl) (pu_tup (ds := [_, _, _, _, _]) (au_cons pu_str (au_cons (pu_var rfl) (au_cons (pu_var rfl) (au_cons (pu_var rfl) (au_cons (pu_var rfl) au_nil))))) (lk rfl)) fun C4 s4 h4 => ?_)
    refine ds_set (pu_fz (ds := [.int p, .int o]) (pl_lst (au_cons (pu_var rfl) (au_cons (pu_var rfl) au_nil)) (lk rfl))) ?_
    exact ds_blame (xs := [p, o]) h4 (by show W.liars.length + 2 < _; omega) rfl rfl (by decide) (by decide) (by show 11 < 12; decide) fun Γ' C5 s5 h5 => ds_ret pu_bl (rt_keep (q _ (((s2.trans s3).trans s4).trans s5) h5))
  have n1 : ¬(w = "pass" ∧ p ≠ o ∧ a ≤ getM W.stock p k) := fun z => by
    rw [decide_eq_true z.1, decide_eq_false z.2.1, decide_eq_true z.2.2] at hc
    cases hc
  refine ds_ifs (ut_and (ut_test (pu_eqStr (pu_var rfl) pu_str)) fun _ => (ut_test (pu_ge (pu_wst h ok.st p0 p1 k0 k1 (pu_var rfl) (pu_var rfl) (pu_var rfl)) (pu_var rfl)))) (fun hc => ?_) (fun hc => ?_)
  · rw [Bool.and_eq_true, decide_eq_true_iff, decide_eq_true_iff] at hc
    have qe : lieM W ⟨w, p, o, k, a, sl⟩ = some (blmM (dumM W p k a) [p]) := (if_neg n1).trans (if_pos hc)
    rw [qe] at q
    refine ds_assoc (ds_wst (a := -a) h ok.st p0 p1 k0 k1 (pu_sub (pu_wst h ok.st p0 p1 k0 k1 (pu_var rfl) (pu_var rfl) (pu_var rfl)) (pu_var rfl)) (pu_var rfl) (pu_var rfl) (pu_var rfl) fun C2 s2 h2 => ?_)
    refine ds_wev (e := .sec "dumped" p k a) h2 (by show W.events.length < _; omega) (pu_var rfl) (pu_tup (ds := [_, _, _, _]) (au_cons pu_str (au_cons (pu_var rfl) (au_cons (pu_var rfl) (au_cons (pu_var rfl) au_nil)))) (lk rfl)) fun C4 s4 h4 => ?_
    exact ds_blame (xs := [p]) h4 (by show W.liars.length + 1 < _; omega) rfl rfl (by decide) (by decide) (by show 11 < 12; decide) fun Γ' C5 s5 h5 => ds_ret pu_bl (rt_keep (q _ ((s2.trans s4).trans s5) h5))
  have n2 : ¬(w = "dump" ∧ a ≤ getM W.stock p k) := fun z => by
    rw [decide_eq_true z.1, decide_eq_true z.2] at hc
    cases hc
  refine ds_ifs (ut_and (ut_test (pu_eqStr (pu_var rfl) pu_str)) fun _ => (ut_B (pu_ixT (pu_wpf h p0 p1 (pu_var rfl) (pu_var rfl)) pu_int rfl))) (fun hc => ?_) (fun hc => ?_)
  · rw [Bool.and_eq_true, decide_eq_true_iff] at hc
    have qe : lieM W ⟨w, p, o, k, a, sl⟩ = some (blmM (conM W p k a) [p]) := (if_neg n1).trans ((if_neg n2).trans (if_pos hc))
    rw [qe] at q
    refine ds_assoc (ds_wst h ok.st p0 p1 k0 k1 (pu_add (pu_wst h ok.st p0 p1 k0 k1 (pu_var rfl) (pu_var rfl) (pu_var rfl)) (pu_var rfl)) (pu_var rfl) (pu_var rfl) (pu_var rfl) fun C2 s2 h2 => ?_)
    refine ds_wev (e := .sec "conjured" p k a) h2 (by show W.events.length < _; omega) (pu_var rfl) (pu_tup (ds := [_, _, _, _]) (au_cons pu_str (au_cons (pu_var rfl) (au_cons (pu_var rfl) (au_cons (pu_var rfl) au_nil)))) (lk rfl)) fun C4 s4 h4 => ?_
    exact ds_blame (xs := [p]) h4 (by show W.liars.length + 1 < _; omega) rfl rfl (by decide) (by decide) (by show 11 < 12; decide) fun Γ' C5 s5 h5 => ds_ret pu_bl (rt_keep (q _ ((s2.trans s4).trans s5) h5))
  have n3 : ¬(w = "conjure" ∧ (pfAt W.pf p).1 = true) := fun z => by
    rw [decide_eq_true z.1, z.2] at hc
    cases hc
  refine ds_ifs (ut_and (ut_test (pu_eqStr (pu_var rfl) pu_str)) fun _ => (ut_test (pu_neI (pu_var rfl) (pu_var rfl)))) (fun hc => ?_) (fun hc => ?_)
  · have hc : w = "sign" ∧ p ≠ o := by simpa using hc
    have qe : lieM W ⟨w, p, o, k, a, sl⟩ = some (blmM (notM W p o k a sl) [p, o]) := (if_neg n1).trans ((if_neg n2).trans ((if_neg n3).trans (if_pos hc)))
    rw [qe] at q
    refine ds_assoc (ds_drop (ev_call (P := fun x C' => Only A.own C C' ∧ WdAt C' A (notM W p o k a sl)) (au_cons (pu_var rfl) (au_cons (pu_var rfl) (au_cons (pu_var rfl) (au_cons (pu_var rfl) (au_cons (pu_var rfl) (au_cons (pu_var rfl) au_nil)))))) ⟨A, W, p, o, k, a, sl, b, rfl, h, ok, by omega, p0, p1, o0, o1, fun C' s1 h1 => ⟨s1, h1⟩⟩) ?_)
    rintro _ C1 ⟨s1, h1⟩
    refine ds_set (pu_fz (ds := [.int p, .int o]) (pl_lst (au_cons (pu_var rfl) (au_cons (pu_var rfl) au_nil)) (lk rfl))) ?_
    exact ds_blame (xs := [p, o]) h1 (by show W.liars.length + 2 < _; omega) rfl rfl (by decide) (by decide) (by show 11 < 12; decide) fun Γ' C5 s5 h5 => ds_ret pu_bl (rt_keep (q _ (s1.trans s5) h5))
  have n4 : ¬(w = "sign" ∧ p ≠ o) := fun z => by
    rw [decide_eq_true z.1, decide_eq_false z.2] at hc
    cases hc
  refine ds_ifs (ut_test (pu_eqStr (pu_var rfl) pu_str)) (fun hc => ?_) (fun hc => ?_)
  · have hc : w = "write" := of_decide_eq_true hc
    have qe : lieM W ⟨w, p, o, k, a, sl⟩ = some (blmM (wriM W p o k a sl) [p]) := (if_neg n1).trans ((if_neg n2).trans ((if_neg n3).trans ((if_neg n4).trans (if_pos hc))))
    rw [qe] at q
    refine ds_assoc (ds_wlast h (pu_add (pu_wlast h (pu_var rfl)) pu_int) (pu_var rfl) fun C1 s1 h1 => ?_)
    have i0 : (0 : Int) ≤ (if sl = true then 1 else 0) + 2 * (if (!decide (p = o)) = true then 1 else 0) ∧ (if sl = true then 1 else 0) + 2 * (if (!decide (p = o)) = true then 1 else 0) < (4 : Int) := by
      cases sl <;> by_cases po : p = o <;> simp [po]
    refine ds_assoc (ds_set (pu_ixL (pu_fz (ds := [_, _, _, _]) (pl_lst (au_cons pu_str (au_cons pu_str (au_cons pu_str (au_cons pu_str au_nil)))) (lk rfl))) (pu_add (pu_cb (au_cons (pu_var rfl) au_nil) rc_intB) (pu_mul pu_int (pu_cb (au_cons (pu_neI (pu_var rfl) (pu_var rfl)) au_nil) rc_intB) (.inl ⟨by decide, by decide⟩))) (at4 i0.1 i0.2)) ?_)
    by_cases po : p = o
    · have e1 : (!decide (p = o)) = false := by simp [po]
      have de : (if (if sl = true then (1 : Int) else 0) + 2 * (if (!decide (p = o)) = true then 1 else 0) = 0 then ("made" : Str) else if (if sl = true then (1 : Int) else 0) + 2 * (if (!decide (p = o)) = true then 1 else 0) = 1 then "treated" else if (if sl = true then (1 : Int) else 0) + 2 * (if (!decide (p = o)) = true then 1 else 0) = 2 then "gave" else "took") = (if sl = true then ("treated" : Str) else ("made" : Str)) := by
        rw [e1]
        cases sl <;> rfl
      rw [de]
      refine ds_assoc (ds_set (x := T []) (pu_if (b := false) (ut_is (ut_test (pu_in (ss := ["gave", "took"]) (pu_var rfl) (pu_tup (ds := [.str "gave", .str "took"]) (au_cons pu_str (au_cons pu_str au_nil)) (lk rfl)))) (by cases sl <;> decide)) (fun h => by cases h) (fun h => (pu_tup (ds := []) au_nil (lk rfl)))) ?_)
      refine ds_wfile (e := wrE (W.last + 1) p o k a sl) h1 p0 (by show p.toNat < W.files.length; omega) (by show (W.files.getD _ _).length < _; omega) (pu_wfiles h1 (pu_var rfl)) (pu_var rfl) (pu_is (pu_catA (pu_tup (ds := [_, _, _, _]) (au_cons (pu_wlast h1 (pu_var rfl)) (au_cons (pu_var rfl) (au_cons (pu_var rfl) (au_cons (pu_var rfl) au_nil)))) (lk rfl)) (pu_var rfl) (lk rfl)) (by unfold wrE; rw [if_pos po]; rfl)) fun C3 s3 h3 => ?_
      exact ds_blame (xs := [p]) h3 (by show W.liars.length + 1 < _; omega) rfl rfl (by decide) (by decide) (by show 11 < 12; decide) fun Γ' C5 s5 h5 => ds_ret pu_bl (rt_keep (q _ ((s1.trans s3).trans s5) h5))
    · have e1 : (!decide (p = o)) = true := by simp [po]
      have de : (if (if sl = true then (1 : Int) else 0) + 2 * (if (!decide (p = o)) = true then 1 else 0) = 0 then ("made" : Str) else if (if sl = true then (1 : Int) else 0) + 2 * (if (!decide (p = o)) = true then 1 else 0) = 1 then "treated" else if (if sl = true then (1 : Int) else 0) + 2 * (if (!decide (p = o)) = true then 1 else 0) = 2 then "gave" else "took") = (if sl = true then ("took" : Str) else ("gave" : Str)) := by
        rw [e1]
        cases sl <;> rfl
      rw [de]
      refine ds_assoc (ds_set (x := T [.int o, .bool false]) (pu_if (b := true) (ut_is (ut_test (pu_in (ss := ["gave", "took"]) (pu_var rfl) (pu_tup (ds := [.str "gave", .str "took"]) (au_cons pu_str (au_cons pu_str au_nil)) (lk rfl)))) (by cases sl <;> decide)) (fun h => (pu_tup (ds := [_, _]) (au_cons (pu_var rfl) (au_cons pu_bl au_nil)) (lk rfl))) (fun h => by cases h)) ?_)
      refine ds_wfile (e := wrE (W.last + 1) p o k a sl) h1 p0 (by show p.toNat < W.files.length; omega) (by show (W.files.getD _ _).length < _; omega) (pu_wfiles h1 (pu_var rfl)) (pu_var rfl) (pu_is (pu_catA (pu_tup (ds := [_, _, _, _]) (au_cons (pu_wlast h1 (pu_var rfl)) (au_cons (pu_var rfl) (au_cons (pu_var rfl) (au_cons (pu_var rfl) au_nil)))) (lk rfl)) (pu_var rfl) (lk rfl)) (by unfold wrE; rw [if_neg po]; rfl)) fun C3 s3 h3 => ?_
      exact ds_blame (xs := [p]) h3 (by show W.liars.length + 1 < _; omega) rfl rfl (by decide) (by decide) (by show 11 < 12; decide) fun Γ' C5 s5 h5 => ds_ret pu_bl (rt_keep (q _ ((s1.trans s3).trans s5) h5))
  have n5 : ¬ w = "write" := of_decide_eq_false hc
  obtain ⟨r, f1, f2, f3⟩ := h.file p0 (by omega)
  have fz : (((W.file p).map entD).map Ax.dat).length = (W.file p).length := by simp
  refine ds_ifs (ut_and (ut_test (pu_eqStr (pu_var rfl) pu_str)) fun _ => (ut_test (pu_gt (pu_cb (au_cons (pu_ixM (pu_wfiles h (pu_var rfl)) (pu_var rfl) h.files.top f3) au_nil) (rc_lenM f2)) pu_int))) (fun hc => ?_) (fun hc => ?_)
  · rw [Bool.and_eq_true, decide_eq_true_iff, decide_eq_true_iff, fz] at hc
    have hl : 0 < (W.file p).length := by omega
    have qe : lieM W ⟨w, p, o, k, a, sl⟩ = some (blmM (omiM W p a) [p]) := (if_neg n1).trans ((if_neg n2).trans ((if_neg n3).trans ((if_neg n4).trans ((if_neg n5).trans (if_pos ⟨hc.1, hl⟩)))))
    rw [qe] at q
    have i0 : 0 ≤ a % ((W.file p).length : Int) := Int.emod_nonneg _ (by omega)
    have i1 : a % ((W.file p).length : Int) < (W.file p).length := Int.emod_lt_of_pos _ (by omega)
    refine ds_drop (ev_popAt (k := (a % ((W.file p).length : Int)).toNat) (pu_ixM (pu_wfiles h (pu_var rfl)) (pu_var rfl) h.files.top f3) (pu_mod (pu_cb (au_cons (pu_var rfl) au_nil) rc_int1) (pu_cb (au_cons (pu_ixM (pu_wfiles h (pu_var rfl)) (pu_var rfl) h.files.top f3) au_nil) (rc_lenM f2)) (by rw [fz]; omega)) f2 (by rw [fz]; exact (Int.toNat_of_nonneg i0).symm) (by rw [fz]; omega) (by rw [fz]; show (W.files.getD _ _).length ≤ _; omega)) ?_
    rintro _ _ ⟨_, rfl⟩
    have h2 := h.setF f1 ((W.file p).eraseIdx (a % ((W.file p).length : Int)).toNat)
    rw [show (((W.file p).map entD).map Ax.dat).eraseIdx (a % ((W.file p).length : Int)).toNat = (((W.file p).eraseIdx (a % ((W.file p).length : Int)).toNat).map entD).map Ax.dat by rw [map_erase, map_erase]]
    exact ds_blame (xs := [p]) h2 (by show W.liars.length + 1 < _; omega) rfl rfl (by decide) (by decide) (by show 11 < 12; decide) fun Γ' C5 s5 h5 => ds_ret pu_bl (rt_keep (q _ ((Only.refl.put (own_qs f1)).trans s5) h5))
  · have n6 : ¬(w = "omit" ∧ 0 < (W.file p).length) := fun z => by
      rw [fz, decide_eq_true z.1, decide_eq_true (by omega)] at hc
      cases hc
    have qe : lieM W ⟨w, p, o, k, a, sl⟩ = none := (if_neg n1).trans ((if_neg n2).trans ((if_neg n3).trans ((if_neg n4).trans ((if_neg n5).trans (if_neg n6)))))
    rw [qe] at q
    exact ds_retseq (ds_ret pu_bl (rt_keep (q _ Only.refl h)))

end
end K40

set_option maxHeartbeats 40000000
namespace K40
open PySem PySem.Spec PyProof.Rows L2 Ab Lm Hm Wda
section
variable {K : Kw} {mg : Str → Option Value} {base : Heap}
abbrev s__law_deed : Stmt := topS 18
abbrev N__law_deed : List Str := ["cell", "world", "lying", "draws", "many", "words", "party", "kind", "word", "amount", "stock"]
theorem sc__law_deed : FnScope N__law_deed ["cell", "world", "lying"] (defScope s__law_deed) := ⟨rfl, rfl, rfl, by decide +kernel, rfl, by decide +kernel, by decide +kernel⟩

theorem ok__law_deed {f__law_deed : Addr} {fd__law_deed : FuncData} (F__law_deed : Fun K.K "_law_deed" "_law_deed" s__law_deed f__law_deed fd__law_deed) {f__law_draws : Addr} {fd__law_draws : FuncData} (F__law_draws : Fun K.K "_law_draws" "_law_draws" s__law_draws f__law_draws fd__law_draws) (G__law_draws : FnOk K.P K.w K.K mg base CX0 1 f__law_draws fd__law_draws ["cell", "count"] (SpG K rel__law_draws)) (b__law_draws : Binds K.K fd__law_draws ["cell", "count"] []) (g__law_draws : mg "_law_draws" = some (.ref f__law_draws)) (z_int : mg "int" = none) (z_len : mg "len" = none) : FnOk K.P K.w K.K mg base CX0 2 f__law_deed fd__law_deed ["cell", "world", "lying"] (SpG K rel__law_deed) := by
  refine ok_def F__law_deed sc__law_deed (fun C xs R h => by obtain ⟨_, _, _, _, _, rfl, _⟩ := h; rfl) (fun cdv A outer s H E hr => ?_)
  refine ⟨_, (pss_cons (ps_set (i := 3) sc__law_deed.nd rfl (Or.inl rfl) (pe_call G__law_draws (hr.mono (by decide)) (by rfl) g__law_draws F__law_draws.kp b__law_draws .nil pass0 (pa_cons (pv 0) (pa_cons pe_int pa_nil))))
  (pss_cons (ps_set (i := 4) sc__law_deed.nd rfl (Or.inl rfl) (pe_callB (kx_len K.K rfl) (by rfl) z_len PySem.boot_len (pa_cons (pe_dget hr.unit1 (pv 1) pe_str (fun _ _ => rfl)) pa_nil)))
  (pss_cons (ps_set (i := 5) sc__law_deed.nd rfl (Or.inl rfl) (pe_lst (pa_cons pe_str (pa_cons pe_str (pa_cons pe_str (pa_cons pe_str (pa_cons pe_str (pa_cons pe_str (pa_cons pe_str pa_nil)))))))))
  (pss_cons (ps_if (pt_cmpR op_lt (pe_op op_mod (pe_callTy call_int1 (by rfl) z_int PyProof.Rows.boot_int (pa_cons (pe_ix (kx_ixL K.K rfl) (pv 3) pe_int (fun _ _ => rfl)) pa_nil)) pe_int) (pv 2) (nomark _)) (pss_one (ps_set (i := 5) sc__law_deed.nd rfl (Or.inl rfl) (pe_lst (pa_cons pe_str (pa_cons pe_str (pa_cons pe_str (pa_cons pe_str (pa_cons pe_str (pa_cons pe_str (pa_cons pe_str pa_nil)))))))))) pss_nil)
  (pss_cons (ps_set (i := 6) sc__law_deed.nd rfl (Or.inl rfl) (pe_op op_mod (pe_callTy call_int1 (by rfl) z_int PyProof.Rows.boot_int (pa_cons (pe_ix (kx_ixL K.K rfl) (pv 3) pe_int (fun _ _ => rfl)) pa_nil)) (pv 4)))
  (pss_cons (ps_set (i := 7) sc__law_deed.nd rfl (Or.inl rfl) (pe_op op_mod (pe_callTy call_int1 (by rfl) z_int PyProof.Rows.boot_int (pa_cons (pe_ix (kx_ixL K.K rfl) (pv 3) pe_int (fun _ _ => rfl)) pa_nil)) (pe_dget hr.unit1 (pv 1) pe_str (fun _ _ => rfl))))
  (pss_cons (ps_set (i := 8) sc__law_deed.nd rfl (Or.inl rfl) (pe_ix (kx_ixL K.K rfl) (pv 5) (pe_op op_mod (pe_callTy call_int1 (by rfl) z_int PyProof.Rows.boot_int (pa_cons (pe_ix (kx_ixL K.K rfl) (pv 3) pe_int (fun _ _ => rfl)) pa_nil)) pe_int) (fun _ _ => rfl)))
  (pss_cons (ps_set (i := 9) sc__law_deed.nd rfl (Or.inl rfl) (pe_op op_add pe_int (pe_op op_mod (pe_callTy call_int1 (by rfl) z_int PyProof.Rows.boot_int (pa_cons (pe_ix (kx_ixL K.K rfl) (pv 3) pe_int (fun _ _ => rfl)) pa_nil)) pe_int)))
  (pss_cons (ps_set (i := 10) sc__law_deed.nd rfl (Or.inl rfl) (pe_ix (kx_ixL K.K rfl) (pe_ix (kx_ixL K.K rfl) (pe_dget hr.unit1 (pv 1) pe_str (fun _ _ => rfl)) (pv 6) (fun _ _ => rfl)) (pv 7) (fun _ _ => rfl)))
  (pss_cons (ps_if (PW.pt (pw_and (pt_cmpR (kx_in K.K rfl) (pv 8) (pe_tup (pa_cons pe_str (pa_cons pe_str (pa_cons pe_str (pa_cons pe_str pa_nil))))) (by rfl)) (pw_and (pt_cmpR op_gt (pv 10) pe_int (nomark _)) (pw_and1 (pt_cmpR op_gt (pe_op op_mod (pe_callTy call_int1 (by rfl) z_int PyProof.Rows.boot_int (pa_cons (pe_ix (kx_ixL K.K rfl) (pv 3) pe_int (fun _ _ => rfl)) pa_nil)) pe_int) pe_int (nomark _)))))) (pss_one (ps_set (i := 9) sc__law_deed.nd rfl (Or.inl rfl) (pe_op op_add pe_int (pe_op op_mod (pe_callTy call_int1 (by rfl) z_int PyProof.Rows.boot_int (pa_cons (pe_ix (kx_ixL K.K rfl) (pv 3) pe_int (fun _ _ => rfl)) pa_nil)) (pv 10))))) pss_nil)
  (pss_one (ps_ret (pe_tup (pa_cons (pv 8) (pa_cons (pv 6) (pa_cons (pe_op op_mod (pe_callTy call_int1 (by rfl) z_int PyProof.Rows.boot_int (pa_cons (pe_ix (kx_ixL K.K rfl) (pv 3) pe_int (fun _ _ => rfl)) pa_nil)) (pv 4)) (pa_cons (pv 7) (pa_cons (pv 9) (pa_cons (pe_cmpR op_eq (pe_op op_mod (pe_callTy call_int1 (by rfl) z_int PyProof.Rows.boot_int (pa_cons (pe_ix (kx_ixL K.K rfl) (pv 3) pe_int (fun _ _ => rfl)) pa_nil)) pe_int) pe_int (nomark _)) pa_nil))))))))))))))))))), ?_⟩
  rintro C xs R cl ⟨A, W, c, lying, b, rfl, h, ok, q⟩
  have m0 := ok.m0
  have m5 := ok.m5
  have k0 := ok.k0
  refine ds_set (pu_call (au_cons (pu_var rfl) (au_cons pu_int au_nil)) ⟨c, 8, rfl, by decide, by decide, rfl, rfl⟩) ?_
  have dl : (drawsM c 8).length = 8 := by
    have := drawsM_len (c := c) (n := 8) (by decide)
    omega
  generalize drawsM c 8 = d at dl q
  refine ds_set (x := I (W.pf.length : Int)) (pu_is (pu_cb (au_cons (pu_dget (pu_var rfl) pu_str h.dic gk_parties) au_nil) rc_lenT) (by rw [List.length_map])) ?_
  refine ds_set (pu_fz (ds := [.str "make", .str "make", .str "hand", .str "hand", .str "hand", .str "treat", .str "inspect"]) (pl_lst (au_cons pu_str (au_cons pu_str (au_cons pu_str (au_cons pu_str (au_cons pu_str (au_cons pu_str (au_cons pu_str au_nil))))))) (lk rfl))) ?_
  refine ds_seq (M := fun Γ' C' => C' = C ∧ ∃ wl : List PyData, atI wl (d.getD 1 0 % 7) = some (.str (wordM d lying)) ∧ Γ' = [some (I c), some (.ref A.w), some (I lying), some (Ls (d.map .int)), some (I (W.pf.length : Int)), some (Ls wl), none, none, none, none, none]) (ds_if (ut_test (pu_lt (pu_mod (pu_cb (au_cons (pu_ixI (pu_var rfl) pu_int (by decide) (by omega)) au_nil) rc_int1) pu_int (by decide)) (pu_var rfl))) (fun hc => ?_) (fun hc => ?_)) ?_
  · have hc : d.getD 0 0 % 10 < lying := of_decide_eq_true hc
    refine ds_set1 (pu_fz (ds := [.str "pass", .str "dump", .str "conjure", .str "sign", .str "write", .str "omit", .str "pass"]) (pl_lst (au_cons pu_str (au_cons pu_str (au_cons pu_str (au_cons pu_str (au_cons pu_str (au_cons pu_str (au_cons pu_str au_nil))))))) (lk rfl))) ⟨rfl, _, ?_, rfl⟩
    unfold wordM
    rw [if_pos hc]
    have g0 : 0 ≤ d.getD 1 0 % 7 := Int.emod_nonneg _ (by decide)
    have g1 : d.getD 1 0 % 7 < 7 := Int.emod_lt_of_pos _ (by decide)
    generalize d.getD 1 0 % 7 = v at g0 g1
    have hv : v = 0 ∨ v = 1 ∨ v = 2 ∨ v = 3 ∨ v = 4 ∨ v = 5 ∨ v = 6 := by omega
    rcases hv with rfl | rfl | rfl | rfl | rfl | rfl | rfl <;> rfl
  · have hc : ¬ d.getD 0 0 % 10 < lying := of_decide_eq_false hc
    refine ds_next ⟨rfl, _, ?_, rfl⟩
    unfold wordM
    rw [if_neg hc]
    have g0 : 0 ≤ d.getD 1 0 % 7 := Int.emod_nonneg _ (by decide)
    have g1 : d.getD 1 0 % 7 < 7 := Int.emod_lt_of_pos _ (by decide)
    generalize d.getD 1 0 % 7 = v at g0 g1
    have hv : v = 0 ∨ v = 1 ∨ v = 2 ∨ v = 3 ∨ v = 4 ∨ v = 5 ∨ v = 6 := by omega
    rcases hv with rfl | rfl | rfl | rfl | rfl | rfl | rfl <;> rfl
  rintro Γ' C' ⟨ec, wl, hw, rfl⟩
  subst ec
  refine ds_set (pu_mod (pu_cb (au_cons (pu_ixI (pu_var rfl) pu_int (by decide) (by omega)) au_nil) rc_int1) (pu_var rfl) (by omega)) ?_
  refine ds_set (pu_mod (pu_cb (au_cons (pu_ixI (pu_var rfl) pu_int (by decide) (by omega)) au_nil) rc_int1) (pu_dget (pu_var rfl) pu_str h.dic gk_kinds) (by omega)) ?_
  refine ds_set (pu_ixL (pu_var rfl) (pu_mod (pu_cb (au_cons (pu_ixI (pu_var rfl) pu_int (by decide) (by omega)) au_nil) rc_int1) pu_int (by decide)) hw) ?_
  refine ds_set (pu_add pu_int (pu_mod (pu_cb (au_cons (pu_ixI (pu_var rfl) pu_int (by decide) (by omega)) au_nil) rc_int1) pu_int (by decide))) ?_
  refine ds_set (pu_wst h ok.st (Int.emod_nonneg _ (by omega)) (Int.emod_lt_of_pos _ (by omega)) (Int.emod_nonneg _ (by omega)) (Int.emod_lt_of_pos _ (by omega)) (pu_dget (pu_var rfl) pu_str h.dic gk_stock) (pu_var rfl) (pu_var rfl)) ?_
  have fin : ∀ am : Int, am = amtM d (wordM d lying) (getM W.stock (d.getD 2 0 % (W.pf.length : Int)) (d.getD 4 0 % (W.kd : Int))) → R (.dat (.tuple [.str (wordM d lying), .int (d.getD 2 0 % (W.pf.length : Int)), .int (d.getD 3 0 % (W.pf.length : Int)), .int (d.getD 4 0 % (W.kd : Int)), .int am, .bool (decide (d.getD 7 0 % 2 = 0))])) C' := by
    rintro _ rfl
    exact q
  refine ds_ifs (ut_and (ut_test (pu_in (ss := ["hand", "treat", "pass", "dump"]) (pu_var rfl) (pu_tup (ds := [.str "hand", .str "treat", .str "pass", .str "dump"]) (au_cons pu_str (au_cons pu_str (au_cons pu_str (au_cons pu_str au_nil)))) (lk rfl)))) fun _ => (ut_and (ut_test (pu_gt (pu_var rfl) pu_int)) fun _ => (ut_test (pu_gt (pu_mod (pu_cb (au_cons (pu_ixI (pu_var rfl) pu_int (by decide) (by omega)) au_nil) rc_int1) pu_int (by decide)) pu_int)))) (fun hc => ?_) (fun hc => ?_)
  · rw [Bool.and_eq_true, Bool.and_eq_true, decide_eq_true_iff, decide_eq_true_iff, decide_eq_true_iff] at hc
    refine ds_set (pu_add pu_int (pu_mod (pu_cb (au_cons (pu_ixI (pu_var rfl) pu_int (by decide) (by omega)) au_nil) rc_int1) (pu_var rfl) hc.2.1)) ?_
    refine ds_ret (pu_tup (ds := [_, _, _, _, _, _]) (au_cons (pu_var rfl) (au_cons (pu_var rfl) (au_cons (pu_mod (pu_cb (au_cons (pu_ixI (pu_var rfl) pu_int (by decide) (by omega)) au_nil) rc_int1) (pu_var rfl) (by omega)) (au_cons (pu_var rfl) (au_cons (pu_var rfl) (au_cons (pu_eqI (pu_mod (pu_cb (au_cons (pu_ixI (pu_var rfl) pu_int (by decide) (by omega)) au_nil) rc_int1) pu_int (by decide)) pu_int) au_nil)))))) (lk rfl)) (rt_keep (fin _ ?_))
    exact (if_pos hc).symm
  · have hc : ¬(wordM d lying ∈ (["hand", "treat", "pass", "dump"] : List Str) ∧ 0 < getM W.stock (d.getD 2 0 % (W.pf.length : Int)) (d.getD 4 0 % (W.kd : Int)) ∧ 0 < d.getD 6 0 % 5) := fun z => by
      have hc := hc
      rw [← Bool.not_eq_true, Bool.and_eq_true, Bool.and_eq_true, decide_eq_true_iff, decide_eq_true_iff, decide_eq_true_iff] at hc
      exact hc z
    refine ds_nextseq (ds_ret (pu_tup (ds := [_, _, _, _, _, _]) (au_cons (pu_var rfl) (au_cons (pu_var rfl) (au_cons (pu_mod (pu_cb (au_cons (pu_ixI (pu_var rfl) pu_int (by decide) (by omega)) au_nil) rc_int1) (pu_var rfl) (by omega)) (au_cons (pu_var rfl) (au_cons (pu_var rfl) (au_cons (pu_eqI (pu_mod (pu_cb (au_cons (pu_ixI (pu_var rfl) pu_int (by decide) (by omega)) au_nil) rc_int1) pu_int (by decide)) pu_int) au_nil)))))) (lk rfl)) (rt_keep (fin _ ?_)))
    exact (if_neg hc).symm

abbrev s__law_did : Stmt := topS 20
abbrev N__law_did : List Str := ["world", "deed", "word", "party", "other", "kind", "amount", "is_sealed"]
theorem sc__law_did : FnScope N__law_did ["world", "deed"] (defScope s__law_did) := ⟨rfl, rfl, rfl, by decide +kernel, rfl, by decide +kernel, by decide +kernel⟩

theorem ok__law_did {f__law_did : Addr} {fd__law_did : FuncData} (F__law_did : Fun K.K "_law_did" "_law_did" s__law_did f__law_did fd__law_did) {f__law_honest : Addr} {fd__law_honest : FuncData} (F__law_honest : Fun K.K "_law_honest" "_law_honest" s__law_honest f__law_honest fd__law_honest) (G__law_honest : FnOk K.P K.w K.K mg base CX0 2 f__law_honest fd__law_honest ["world", "word", "party", "other", "kind", "amount", "is_sealed"] (SpG K rel__law_honest)) (b__law_honest : Binds K.K fd__law_honest ["world", "word", "party", "other", "kind", "amount", "is_sealed"] []) (g__law_honest : mg "_law_honest" = some (.ref f__law_honest)) {f__law_lied : Addr} {fd__law_lied : FuncData} (F__law_lied : Fun K.K "_law_lied" "_law_lied" s__law_lied f__law_lied fd__law_lied) (G__law_lied : FnOk K.P K.w K.K mg base CX0 2 f__law_lied fd__law_lied ["world", "word", "party", "other", "kind", "amount", "is_sealed"] (SpG K rel__law_lied)) (b__law_lied : Binds K.K fd__law_lied ["world", "word", "party", "other", "kind", "amount", "is_sealed"] []) (g__law_lied : mg "_law_lied" = some (.ref f__law_lied)) : FnOk K.P K.w K.K mg base CX0 3 f__law_did fd__law_did ["world", "deed"] (SpG K rel__law_did) := by
  refine ok_def F__law_did sc__law_did (fun C xs R h => by obtain ⟨_, _, _, _, rfl, _⟩ := h; rfl) (fun cdv A outer s H E hr => ?_)
  refine ⟨_, (pss_cons (ps_asg (pv 1) (pg_tup rfl (pgs_cons (pg_name (i := 2) sc__law_did.nd rfl (Or.inl rfl)) (pgs_cons (pg_name (i := 3) sc__law_did.nd rfl (Or.inl rfl)) (pgs_cons (pg_name (i := 4) sc__law_did.nd rfl (Or.inl rfl)) (pgs_cons (pg_name (i := 5) sc__law_did.nd rfl (Or.inl rfl)) (pgs_cons (pg_name (i := 6) sc__law_did.nd rfl (Or.inl rfl)) (pgs_cons (pg_name (i := 7) sc__law_did.nd rfl (Or.inl rfl)) pgs_nil))))))))
  (pss_cons (ps_if (pt_cmpR (kx_in K.K rfl) (pv 2) (pe_tup (pa_cons pe_str (pa_cons pe_str (pa_cons pe_str (pa_cons pe_str pa_nil))))) (by rfl)) (pss_one (ps_ret (pe_call G__law_honest (hr.mono (by decide)) (by rfl) g__law_honest F__law_honest.kp b__law_honest .nil pass0 (pa_cons (pv 0) (pa_cons (pv 2) (pa_cons (pv 3) (pa_cons (pv 4) (pa_cons (pv 5) (pa_cons (pv 6) (pa_cons (pv 7) pa_nil)))))))))) pss_nil)
  (pss_one (ps_ret (pe_call G__law_lied (hr.mono (by decide)) (by rfl) g__law_lied F__law_lied.kp b__law_lied .nil pass0 (pa_cons (pv 0) (pa_cons (pv 2) (pa_cons (pv 3) (pa_cons (pv 4) (pa_cons (pv 5) (pa_cons (pv 6) (pa_cons (pv 7) pa_nil)))))))))))), ?_⟩
  rintro C xs R cl ⟨A, W, d, b, rfl, h, ok, hb, dk, q⟩
  refine ds_tgt (pu_var rfl) (tg_tup (tgl_cons tg_name (tgl_cons tg_name (tgl_cons tg_name (tgl_cons tg_name (tgl_cons tg_name (tgl_cons tg_name tgl_nil)))))) rfl) ?_
  refine ds_ifs (ut_test (pu_in (ss := ["make", "treat", "hand", "inspect"]) (pu_var rfl) (pu_tup (ds := [.str "make", .str "treat", .str "hand", .str "inspect"]) (au_cons pu_str (au_cons pu_str (au_cons pu_str (au_cons pu_str au_nil)))) (lk rfl)))) (fun hc => ?_) (fun hc => ?_)
  · have qe : didM W d = honM W d := if_pos (of_decide_eq_true hc)
    rw [qe] at q
    exact ds_retseq (ds_retE (ev_call (P := Rt C R) (au_cons (pu_var rfl) (au_cons (pu_var rfl) (au_cons (pu_var rfl) (au_cons (pu_var rfl) (au_cons (pu_var rfl) (au_cons (pu_var rfl) (au_cons (pu_var rfl) au_nil))))))) ⟨A, W, d, b, rfl, h, ok, hb, dk, fun C' o' h' => rt_keep (q C' o' h')⟩) (fun x C' h => h))
  · have qe : didM W d = lieM W d := if_neg (of_decide_eq_false hc)
    rw [qe] at q
    exact ds_nextseq (ds_retE (ev_call (P := Rt C R) (au_cons (pu_var rfl) (au_cons (pu_var rfl) (au_cons (pu_var rfl) (au_cons (pu_var rfl) (au_cons (pu_var rfl) (au_cons (pu_var rfl) (au_cons (pu_var rfl) au_nil))))))) ⟨A, W, d, b, rfl, h, ok, hb, dk, fun C' o' h' => rt_keep (q C' o' h')⟩) (fun x C' h => h))

abbrev s__law_evidence : Stmt := topS 22
abbrev N__law_evidence : List Str := ["world", "files", "file"]
theorem sc__law_evidence : FnScope N__law_evidence ["world"] (defScope s__law_evidence) := ⟨rfl, rfl, rfl, by decide +kernel, rfl, by decide +kernel, by decide +kernel⟩

theorem ok__law_evidence {f__law_evidence : Addr} {fd__law_evidence : FuncData} (F__law_evidence : Fun K.K "_law_evidence" "_law_evidence" s__law_evidence f__law_evidence fd__law_evidence) (z_tuple : mg "tuple" = none) : FnOk K.P K.w K.K mg base CX0 1 f__law_evidence fd__law_evidence ["world"] (SpG K rel__law_evidence) := by
  refine ok_def F__law_evidence sc__law_evidence (fun C xs R h => by obtain ⟨_, _, rfl, _⟩ := h; rfl) (fun cdv A outer s H E hr => ?_)
  refine ⟨_, (pss_cons (ps_set (i := 1) sc__law_evidence.nd rfl (Or.inl rfl) (pe_callTy (kx_tuple K.K rfl) (by rfl) z_tuple PyProof.Rows.boot_tuple (pa_cons (pe_lc (own := [("file", 2)]) rfl sc__law_evidence.nd (kx_pList K.K rfl (pe_dget hr.unit1 (pv 0) pe_str (fun _ _ => rfl))) (blkOk_by (N := N__law_evidence) (sc := defScope s__law_evidence) (by decide +kernel)) (fun _ _ _ _ _ => (pg_name (i := 2) sc__law_evidence.nd rfl (Or.inl rfl) (Or.inr rfl))) (fun _ _ _ _ _ => pts_nil) (fun _ _ _ _ _ => (pe_callTy (kx_tuple K.K rfl) (by rfl) z_tuple PyProof.Rows.boot_tuple (pa_cons (pv 2) pa_nil)))) pa_nil)))
  (pss_one (ps_ret (pe_tup (pa_cons (pe_dget hr.unit1 (pv 0) pe_str (fun _ _ => rfl)) (pa_cons (pe_dget hr.unit1 (pv 0) pe_str (fun _ _ => rfl)) (pa_cons (pv 1) (pa_cons (pe_callTy (kx_tuple K.K rfl) (by rfl) z_tuple PyProof.Rows.boot_tuple (pa_cons (pe_dget hr.unit1 (pv 0) pe_str (fun _ _ => rfl)) pa_nil)) pa_nil)))))))), ?_⟩
  rintro C xs R cl ⟨A, W, rfl, h, hz, q⟩
  refine ds_set (pu_cb (au_cons (pu_rowsA h.files (pu_wfiles h (pu_var rfl)) (by unfold filesD; rw [List.length_map]; omega) (by show 2 < 3; decide)) au_nil) rc_tupL) ?_
  exact ds_ret (pu_tup (ds := [_, _, _, _]) (au_cons (pu_dget (pu_var rfl) pu_str h.dic gk_kinds) (au_cons (pu_dget (pu_var rfl) pu_str h.dic gk_parties) (au_cons (pu_var rfl) (au_cons (pu_cb (au_cons (pu_dget (pu_var rfl) pu_str h.dic gk_finds) au_nil) (rc_tupM h.fd)) au_nil)))) (lk rfl)) (rt_keep q)

abbrev s__law_begun : Stmt := topS 19
abbrev N__law_begun : List Str := ["kinds", "parties", "stock", "kind", "party", "world"]
theorem sc__law_begun : FnScope N__law_begun ["kinds", "parties"] (defScope s__law_begun) := ⟨rfl, rfl, rfl, by decide +kernel, rfl, by decide +kernel, by decide +kernel⟩

theorem ok__law_begun {f__law_begun : Addr} {fd__law_begun : FuncData} (F__law_begun : Fun K.K "_law_begun" "_law_begun" s__law_begun f__law_begun fd__law_begun) (z_range : mg "range" = none) : FnOk K.P K.w K.K mg base CX0 1 f__law_begun fd__law_begun ["kinds", "parties"] (SpG K rel__law_begun) := by
  refine ok_def F__law_begun sc__law_begun (fun C xs R h => by obtain ⟨_, _, rfl, _⟩ := h; rfl) (fun cdv A outer s H E hr => ?_)
  refine ⟨_, (pss_cons (ps_setLc (i := 2) (own := [("party", 4)]) rfl sc__law_begun.nd rfl rfl (sw_true rfl rfl rfl (by decide +kernel)) (kx_pTup K.K rfl (pv 1)) (blkOk_by (N := N__law_begun) (sc := defScope s__law_begun) (by decide +kernel)) (fun _ _ _ _ _ => (pg_name (i := 4) sc__law_begun.nd rfl (Or.inl rfl) (Or.inr rfl))) (fun _ _ _ _ _ => pts_nil) (fun _ _ _ _ _ => (pe_lc (own := [("kind", 3)]) rfl sc__law_begun.nd (pi_range1 (by rfl) z_range (pa_cons (pv 0) pa_nil)) (blkOk_by (N := N__law_begun) (sc := ⟨.function, [(".0", .local), ("party", .local), ("range", .globalImplicit), ("kinds", .cell)], false, false, []⟩) (by decide +kernel)) (fun _ _ _ _ _ => (pg_name (i := 3) sc__law_begun.nd rfl (Or.inl rfl) (Or.inr rfl))) (fun _ _ _ _ _ => pts_nil) (fun _ _ _ _ _ => pe_int))))
  (pss_cons (ps_set (i := 5) sc__law_begun.nd rfl (Or.inl rfl) (pe_disp (pps_cons pe_str (pv 0) (pps_cons pe_str (pv 1) (pps_cons pe_str (pv 2) (pps_cons pe_str (pe_lc (own := [("party", 4)]) rfl sc__law_begun.nd (kx_pTup K.K rfl (pv 1)) (blkOk_by (N := N__law_begun) (sc := defScope s__law_begun) (by decide +kernel)) (fun _ _ _ _ _ => (pg_name (i := 4) sc__law_begun.nd rfl (Or.inl rfl) (Or.inr rfl))) (fun _ _ _ _ _ => pts_nil) (fun _ _ _ _ _ => (pe_lst pa_nil))) pps_nil)))) rfl rfl (by decide) (by decide)))
  (pss_cons (ps_dput hr.unit1 (pv 5) pe_str (pe_lst pa_nil) rfl)
  (pss_cons (ps_dput hr.unit1 (pv 5) pe_str (pe_lst pa_nil) rfl)
  (pss_cons (ps_dput hr.unit1 (pv 5) pe_str pe_int rfl)
  (pss_cons (ps_dput hr.unit1 (pv 5) pe_str (pe_lst pa_nil) rfl)
  (pss_one (ps_ret (pv 5))))))))), ?_⟩
  rintro C xs R cl ⟨kd, pf, rfl, hp, hk, kq⟩
  have e0 : (List.replicate kd (PyData.int 0)) = ((List.range (rngD 0 ((kd : Int)).toNat).length).filter fun _ => true).map (fun _ => PyData.int 0) := by
    rw [rngD_len, show ((kd : Int)).toNat = kd by omega, List.filter_eq_self.mpr (fun _ _ => rfl), List.map_const', List.length_range]
  have e1 : List.replicate (pf.map pfD).length (List.replicate kd (PyData.int 0)) = rowsD (st0 pf.length kd) := by
    unfold rowsD st0 rowD
    rw [List.map_replicate, List.map_replicate, List.length_map]
  refine ds_setE (ev_gridE (r := List.replicate kd (.int 0)) (ui_tupD (pu_var rfl)) (by rw [List.length_map, List.length_map]; exact le_len hp) (fun _ _ => trivial) fun i x C' m hx => ⟨_, [4], by simp, tg_name, ?_⟩) ?_
  · rw [e0]
    refine ev_lcN (fun _ => true) (fun _ => .int 0) (ui_rng1 (au_cons (pu_var rfl) au_nil) (by omega)) (by rw [rngD_len]; omega) (fun _ _ => trivial) fun i x C' m hx => ?_
    obtain ⟨hi, rfl⟩ := rngD_get hx
    exact ⟨_, [3], by simp, tg_name, ut_yes, fun _ => pu_int⟩
  rintro _ C1 ⟨p, ps, rfl, G1⟩
  rw [List.length_map, e1] at G1
  have t1 : (C1 p).isSome = true := by rw [G1.top]; rfl
  have r1 : ∀ a ∈ ps, (C1 a).isSome = true := fun a ha => by
    obtain ⟨j, hj⟩ := List.getElem?_of_mem ha
    rw [G1.row j a hj]
    rfl
  refine ds_setE (ev_disp (P := fun w kvs C' => ∃ q qs, kvs = [(kS "kinds", I kd), (kS "parties", T (pf.map pfD)), (kS "stock", .ref p), (kS "files", .ref q)] ∧ Grid (updC C1 w (.dic [])) C' q qs (List.replicate (pf.map pfD).length [])) (fun w hw => ep_cons (k := kS "kinds") pu_str (pu_var rfl) (ep_cons (k := kS "parties") pu_str (pu_var rfl) (ep_cons (k := kS "stock") pu_str (pu_var rfl) (ep_consE (k := kS "files") pu_str (ev_grid (r := []) (ui_tupD (pu_var rfl)) (by rw [List.length_map, List.length_map]; exact le_len hp) (fun _ _ => trivial) fun i x C' m hx => ⟨_, [4], by simp, tg_name, pl_lst au_nil (lk rfl)⟩) ?_)))) ?_) ?_
  · rintro x C' ⟨q, qs, rfl, G2⟩
    rw [List.length_map] at G2
    exact ep_nil ⟨q, qs, rfl, G2⟩
  · rintro w kvs C' ⟨q, qs, rfl, G2⟩
    exact ⟨by show 4 ≤ 15; decide, by show ([kS "kinds", kS "parties", kS "stock", kS "files"] : List Key).Nodup; decide, G2.mor.at_ updC_same⟩
  rintro _ _ ⟨w, _, C2, ⟨q, qs, rfl, G2⟩, hw, rfl, rfl⟩
  have wp : w ≠ p := ne_new hw t1
  have wps : ∀ a ∈ ps, a ≠ w := fun a ha => Ne.symm (ne_new hw (r1 a ha))
  have up1 : ∀ a, (C1 a).isSome = true → (updC C1 w (.dic []) a).isSome = true := fun a ha => updC_sub a ha
  have w1 : (updC C1 w (.dic []) w).isSome = true := by rw [updC_same]; rfl
  have qw : q ≠ w := ne_new G2.new w1
  have qp : q ≠ p := ne_new G2.new (up1 p t1)
  have qps : q ∉ ps := fun hm => ne_new G2.new (up1 q (r1 q hm)) rfl
  have qsw : ∀ a ∈ qs, a ≠ w := fun a ha => ne_new (G2.news a ha) w1
  have qsp : ∀ a ∈ qs, a ≠ p := fun a ha => ne_new (G2.news a ha) (up1 p t1)
  have qsps : ∀ a ∈ qs, a ∉ ps := fun a ha hm => ne_new (G2.news a ha) (up1 a (r1 a hm)) rfl
  have s2 : ∀ a, (C1 a).isSome = true ∨ a = w ∨ a = q ∨ a ∈ qs → (C2 a).isSome = true := by
    rintro a (ha | rfl | rfl | ha)
    · rw [G2.mor a (up1 a ha)]; exact up1 a ha
    · rw [G2.mor a w1]; exact w1
    · rw [G2.top]; rfl
    · obtain ⟨j, hj⟩ := List.getElem?_of_mem ha
      rw [G2.row j a hj]
      rfl
  -- finds
  refine ds_dputE (k := kS "finds") (ev_new (pl_lst au_nil (lk rfl))) (fun x C' h => pu_var rfl) (fun x C' h => pu_str) (kvs := [(kS "kinds", I kd), (kS "parties", T (pf.map pfD)), (kS "stock", .ref p), (kS "files", .ref q)]) ?_ (by show 4 < 100000; decide) ?_
  · rintro x C' ⟨fd, hfd, rfl, rfl⟩
    rw [updC_ne (Ne.symm (ne_new hfd (by rw [updC_same]; rfl))), updC_same]
  rintro _ _ ⟨fd, hfd, rfl, rfl⟩
  have fw : fd ≠ w := ne_new hfd (by rw [updC_same]; rfl)
  rw [updC_ne fw] at hfd
  have fN : ∀ a, (C1 a).isSome = true ∨ a = w ∨ a = q ∨ a ∈ qs → fd ≠ a := fun a ha => ne_new hfd (s2 a ha)
  refine ds_dputE (k := kS "events") (ev_new (pl_lst au_nil (lk rfl))) (fun x C' h => pu_var rfl) (fun x C' h => pu_str) (kvs := [(kS "kinds", I kd), (kS "parties", T (pf.map pfD)), (kS "stock", .ref p), (kS "files", .ref q), (kS "finds", .ref fd)]) ?_ (by show 5 < 100000; decide) ?_
  · rintro x C' ⟨ev, hev, rfl, rfl⟩
    rw [updC_ne (Ne.symm (ne_new hev (by rw [updC_same]; rfl))), updC_same]
    rfl
  rintro _ _ ⟨ev, hev, rfl, rfl⟩
  have ew : ev ≠ w := ne_new hev (by rw [updC_same]; rfl)
  rw [updC_ne ew] at hev
  have ef : ev ≠ fd := ne_new hev (by rw [updC_same]; rfl)
  rw [updC_ne ef, updC_ne ew] at hev
  have eN : ∀ a, (C1 a).isSome = true ∨ a = w ∨ a = q ∨ a ∈ qs → ev ≠ a := fun a ha => ne_new hev (s2 a ha)
  refine ds_dput (k := kS "last") pu_int (pu_var rfl) pu_str (kvs := [(kS "kinds", I kd), (kS "parties", T (pf.map pfD)), (kS "stock", .ref p), (kS "files", .ref q), (kS "finds", .ref fd), (kS "events", .ref ev)]) (by rw [updC_same]; rfl) (by show 6 < 100000; decide) ?_
  refine ds_dputE (k := kS "liars") (ev_new (pl_lst au_nil (lk rfl))) (fun x C' h => pu_var rfl) (fun x C' h => pu_str) (kvs := [(kS "kinds", I kd), (kS "parties", T (pf.map pfD)), (kS "stock", .ref p), (kS "files", .ref q), (kS "finds", .ref fd), (kS "events", .ref ev), (kS "last", I 0)]) ?_ (by show 7 < 100000; decide) ?_
  · rintro x C' ⟨li, hli, rfl, rfl⟩
    rw [updC_ne (Ne.symm (ne_new hli (by rw [updC_same]; rfl))), updC_same]
    rfl
  rintro _ _ ⟨li, hli, rfl, rfl⟩
  have lw : li ≠ w := ne_new hli (by rw [updC_same]; rfl)
  rw [updC_ne lw, updC_ne lw] at hli
  have le : li ≠ ev := ne_new hli (by rw [updC_same]; rfl)
  rw [updC_ne le, updC_ne lw] at hli
  have lf : li ≠ fd := ne_new hli (by rw [updC_same]; rfl)
  rw [updC_ne lf, updC_ne lw] at hli
  have lN : ∀ a, (C1 a).isSome = true ∨ a = w ∨ a = q ∨ a ∈ qs → li ≠ a := fun a ha => ne_new hli (s2 a ha)
  -- what stands in the end
  generalize hD : (setK _ (kS "liars") (Ax.ref li)) = dd
  have base : ∀ (X1 X2 X3 X4 : MO) (a : Addr), a ≠ w → a ≠ fd → a ≠ ev → a ≠ li → updC (updC (updC (updC (updC (updC (updC (updC C2 w X1) fd (.lst [])) w X2) ev (.lst [])) w X3) w X4) li (.lst [])) w (.dic dd) a = C2 a := fun X1 X2 X3 X4 a h1 h2 h3 h4 => by
    rw [updC_ne h1, updC_ne h4, updC_ne h1, updC_ne h1, updC_ne h3, updC_ne h1, updC_ne h2, updC_ne h1]
  have free : ∀ a, C2 a = none → a ≠ w → C a = none := fun a ha hw' => by
    have h1 : updC C1 w (.dic []) a = none := by
      cases e : updC C1 w (.dic []) a with
      | none => rfl
      | some o =>
        have := G2.mor.at_ e
        rw [ha] at this
        cases this
    rw [updC_ne hw'] at h1
    exact G1.mor.free h1
  have cw : C w = none := G1.mor.free hw
  have cq : ∀ a, updC C1 w (.dic []) a = none → C a = none := fun a ha => by
    have : a ≠ w := ne_new ha w1
    rw [updC_ne this] at ha
    exact G1.mor.free ha
  refine ds_ret (pu_var rfl) (rt_keep (kq ⟨w, p, q, fd, ev, li, ps, qs⟩ _ ⟨?_, ?_, ?_⟩))
  · intro a ha
    have g : ∀ b, C b = none → a ≠ b := fun b hb => Ne.symm (ne_new hb ha)
    have h1 : (C1 a).isSome = true := by rw [G1.mor a ha]; exact ha
    have h0 := g w cw
    have h2 := Ne.symm (fN a (.inl h1))
    have h3 := Ne.symm (eN a (.inl h1))
    have h4 := Ne.symm (lN a (.inl h1))
    rw [base _ _ _ _ a h0 h2 h3 h4, G2.mor a (up1 a h1), updC_ne h0, G1.mor a ha]
  · have nf := fN
    have b1 : ∀ (X1 X2 X3 X4 : MO) (a : Addr), (C1 a).isSome = true ∨ a = q ∨ a ∈ qs → updC (updC (updC (updC (updC (updC (updC (updC C2 w X1) fd (.lst [])) w X2) ev (.lst [])) w X3) w X4) li (.lst [])) w (.dic dd) a = C2 a := fun X1 X2 X3 X4 a ha => by
      have ha' : (C1 a).isSome = true ∨ a = w ∨ a = q ∨ a ∈ qs := by
        rcases ha with h | h | h
        · exact .inl h
        · exact .inr (.inr (.inl h))
        · exact .inr (.inr (.inr h))
      refine base X1 X2 X3 X4 a ?_ (Ne.symm (fN a ha')) (Ne.symm (eN a ha')) (Ne.symm (lN a ha'))
      rcases ha with h | rfl | h
      · exact Ne.symm (ne_new hw h)
      · exact qw
      · exact qsw a h
    have c1 : ∀ a, (C1 a).isSome = true → C2 a = C1 a := fun a ha => by
      rw [G2.mor a (up1 a ha), updC_ne (Ne.symm (ne_new hw ha))]
    refine ⟨?_, ?_, ?_, ?_, ?_, ?_, ?_, ?_, ?_⟩
    · have f1 := fN p (.inl t1)
      have f2 := fN q (.inr (.inr (.inl rfl)))
      have e1 := eN p (.inl t1)
      have e2 := eN q (.inr (.inr (.inl rfl)))
      have l1 := lN p (.inl t1)
      have l2 := lN q (.inr (.inr (.inl rfl)))
      show ([w, p, q, fd, ev, li] : List Addr).Nodup
      simp only [List.nodup_cons, List.mem_cons, List.not_mem_nil, or_false, not_or, List.nodup_nil, not_false_eq_true, and_true]
      exact ⟨⟨wp, Ne.symm qw, Ne.symm fw, Ne.symm ew, Ne.symm lw⟩, ⟨Ne.symm qp, Ne.symm f1, Ne.symm e1, Ne.symm l1⟩, ⟨Ne.symm f2, Ne.symm e2, Ne.symm l2⟩, ⟨Ne.symm ef, Ne.symm lf⟩, Ne.symm le⟩
    · intro a ha
      have ha : a ∈ ps := ha
      have h1 := r1 a ha
      refine ⟨?_, fun hm => qsps a hm ha⟩
      show a ∉ ([w, p, q, fd, ev, li] : List Addr)
      simp only [List.mem_cons, List.not_mem_nil, or_false, not_or]
      exact ⟨wps a ha, fun e => G1.apart (e ▸ ha), fun e => qps (e ▸ ha), Ne.symm (fN a (.inl h1)), Ne.symm (eN a (.inl h1)), Ne.symm (lN a (.inl h1))⟩
    · intro a ha
      have ha : a ∈ qs := ha
      show a ∉ ([w, p, q, fd, ev, li] : List Addr)
      simp only [List.mem_cons, List.not_mem_nil, or_false, not_or]
      exact ⟨qsw a ha, qsp a ha, fun e => G2.apart (e ▸ ha), Ne.symm (fN a (.inr (.inr (.inr ha)))), Ne.symm (eN a (.inr (.inr (.inr ha)))), Ne.symm (lN a (.inr (.inr (.inr ha))))⟩
    · show updC _ w _ w = _
      rw [updC_same, ← hD]
      rfl
    · refine ⟨?_, G1.len, fun j r hj => ?_, G1.nd, G1.apart⟩
      · show _ = some (MO.lst (ps.map .ref))
        rw [b1 _ _ _ _ p (.inl t1), c1 p t1]
        exact G1.top
      · have h1 := r1 r (List.mem_of_getElem? hj)
        rw [b1 _ _ _ _ r (.inl h1), c1 r h1]
        exact G1.row j r hj
    · have G2e : filesD (List.replicate pf.length ([] : List Ent)) = List.replicate (pf.map pfD).length [] := by
        unfold filesD
        rw [List.map_replicate, List.length_map]
        rfl
      refine ⟨?_, ?_, fun j r hj => ?_, G2.nd, G2.apart⟩
      · show _ = some (MO.lst (qs.map .ref))
        rw [b1 _ _ _ _ q (.inr (.inl rfl))]
        exact G2.top
      · show qs.length = (filesD (List.replicate pf.length ([] : List Ent))).length
        rw [G2e]
        exact G2.len
      · show _ = some (MO.lst (((filesD (List.replicate pf.length ([] : List Ent))).getD j []).map .dat))
        rw [b1 _ _ _ _ r (.inr (.inr (List.mem_of_getElem? hj))), G2e]
        exact G2.row j r hj
    · show updC _ w _ fd = _
      rw [updC_ne fw, updC_ne (Ne.symm lf), updC_ne fw, updC_ne fw, updC_ne (Ne.symm ef), updC_ne fw, updC_same]
      rfl
    · show updC _ w _ ev = _
      rw [updC_ne ew, updC_ne (Ne.symm le), updC_ne ew, updC_ne ew, updC_same]
      rfl
    · show updC _ w _ li = _
      rw [updC_ne lw, updC_same]
      rfl
  · intro a ha
    have ha : a ∈ p :: q :: w :: fd :: ev :: li :: (ps ++ qs) := ha
    simp only [List.mem_cons, List.mem_append] at ha
    rcases ha with rfl | rfl | rfl | rfl | rfl | rfl | ha | ha
    · exact G1.new
    · exact cq _ G2.new
    · exact cw
    · exact free _ hfd fw
    · exact free _ hev ew
    · exact free _ hli lw
    · exact G1.news a ha
    · exact cq _ (G2.news a ha)

end
end K40

set_option maxHeartbeats 40000000
namespace K40
open PySem PySem.Spec PyProof.Rows L2 Ab Lm Hm Wda
open Trl
section
variable {K : Kw} {mg : Str → Option Value} {base : Heap}
abbrev s_entries_of : Stmt := topS 6
abbrev N_entries_of : List Str := ["event", "deed", "number", "party", "kind", "amount", "giver", "taker", "sealed", "gave", "took"]
theorem sc_entries_of : FnScope N_entries_of ["event"] (defScope s_entries_of) := ⟨rfl, rfl, rfl, by decide +kernel, rfl, by decide +kernel, by decide +kernel⟩

theorem ok_entries_of {f_entries_of : Addr} {fd_entries_of : FuncData} (F_entries_of : Fun K.K "entries_of" "entries_of" s_entries_of f_entries_of fd_entries_of) : FnOk K.P K.w K.K mg base CX0 1 f_entries_of fd_entries_of ["event"] (SpG K rel_entries_of) := by
  refine ok_def F_entries_of sc_entries_of (fun C xs R h => by obtain ⟨_, rfl, _⟩ := h; rfl) (fun cdv A outer s H E hr => ?_)
  refine ⟨_, (pss_cons (ps_if (pt_cmpR (kx_in K.K rfl) (pe_ix (kx_ixT K.K rfl) (pv 0) pe_int (fun _ _ => rfl)) (pe_tup (pa_cons pe_str (pa_cons pe_str pa_nil))) (by rfl)) (pss_cons (ps_asg (pv 0) (pg_tup rfl (pgs_cons (pg_name (i := 1) sc_entries_of.nd rfl (Or.inl rfl)) (pgs_cons (pg_name (i := 2) sc_entries_of.nd rfl (Or.inl rfl)) (pgs_cons (pg_name (i := 3) sc_entries_of.nd rfl (Or.inl rfl)) (pgs_cons (pg_name (i := 4) sc_entries_of.nd rfl (Or.inl rfl)) (pgs_cons (pg_name (i := 5) sc_entries_of.nd rfl (Or.inl rfl)) pgs_nil)))))))
  (pss_one (ps_ret (pe_lst (pa_cons (pe_tup (pa_cons (pv 3) (pa_cons (pe_tup (pa_cons (pv 2) (pa_cons (pv 1) (pa_cons (pv 4) (pa_cons (pv 5) pa_nil))))) pa_nil))) pa_nil))))) pss_nil)
  (pss_cons (ps_if (pt_cmpR op_eq (pe_ix (kx_ixT K.K rfl) (pv 0) pe_int (fun _ _ => rfl)) pe_str (nomark _)) (pss_cons (ps_asg (pe_slice (kx_slA K.K rfl) (pv 0) (po_some pe_int) po_none) (pg_tup rfl (pgs_cons (pg_name (i := 2) sc_entries_of.nd rfl (Or.inl rfl)) (pgs_cons (pg_name (i := 6) sc_entries_of.nd rfl (Or.inl rfl)) (pgs_cons (pg_name (i := 7) sc_entries_of.nd rfl (Or.inl rfl)) (pgs_cons (pg_name (i := 4) sc_entries_of.nd rfl (Or.inl rfl)) (pgs_cons (pg_name (i := 5) sc_entries_of.nd rfl (Or.inl rfl)) (pgs_cons (pg_name (i := 8) sc_entries_of.nd rfl (Or.inl rfl)) pgs_nil))))))))
  (pss_cons (ps_set (i := 9) sc_entries_of.nd rfl (Or.inl rfl) (pe_tup (pa_cons (pv 2) (pa_cons pe_str (pa_cons (pv 4) (pa_cons (pv 5) (pa_cons (pv 7) (pa_cons (pv 8) pa_nil))))))))
  (pss_cons (ps_set (i := 10) sc_entries_of.nd rfl (Or.inl rfl) (pe_tup (pa_cons (pv 2) (pa_cons pe_str (pa_cons (pv 4) (pa_cons (pv 5) (pa_cons (pv 6) (pa_cons (pv 8) pa_nil))))))))
  (pss_one (ps_ret (pe_lst (pa_cons (pe_tup (pa_cons (pv 6) (pa_cons (pv 9) pa_nil))) (pa_cons (pe_tup (pa_cons (pv 7) (pa_cons (pv 10) pa_nil))) pa_nil)))))))) pss_nil)
  (pss_one (ps_ret (pe_lst pa_nil))))), ?_⟩
  rintro C xs R cl ⟨e, rfl, ok, q⟩
  cases e with
  | own w n p k a =>
    simp only [entsT] at q
    refine ds_ifs (ut_test (pu_in (ss := ["made", "treated"]) (pu_ixT (ds := [.str w, .int n, .int p, .int k, .int a]) (pu_var rfl) pu_int rfl) (pu_tup (ds := [.str "made", .str "treated"]) (au_cons pu_str (au_cons pu_str au_nil)) (lk rfl)))) (fun hc => ?_) (fun hc => ?_)
    · rw [if_pos (of_decide_eq_true hc)] at q
      refine ds_tgt (pu_var rfl) (tg_tup (ds := [.str w, .int n, .int p, .int k, .int a]) (tgl_cons tg_name (tgl_cons tg_name (tgl_cons tg_name (tgl_cons tg_name (tgl_cons tg_name tgl_nil))))) rfl) ?_
      exact ds_retseq (ds_ret (pu_fz (ds := [peT (p, .own w n k a)]) (pl_lst (au_cons (pu_tup (ds := [_, _]) (au_cons (pu_var rfl) (au_cons (pu_tup (ds := [_, _, _, _]) (au_cons (pu_var rfl) (au_cons (pu_var rfl) (au_cons (pu_var rfl) (au_cons (pu_var rfl) au_nil)))) (lk rfl)) au_nil)) (lk rfl)) au_nil) (lk rfl))) (rt_dat cl Mor.refl q))
    · have hc := of_decide_eq_false hc
      rw [if_neg hc] at q
      have hw : decide (w = ("handed" : Str)) = false := by
        have h : w ∈ (["made", "treated", "found"] : List Str) := ok
        simp only [List.mem_cons, List.not_mem_nil, or_false, not_or] at h hc
        rcases h with rfl | rfl | rfl
        · exact absurd rfl hc.1
        · exact absurd rfl hc.2
        · decide
      refine ds_nextseq (ds_ifs (ut_test (pu_eqStr (pu_ixT (ds := [.str w, .int n, .int p, .int k, .int a]) (pu_var rfl) pu_int rfl) pu_str)) (fun hc => ?_) (fun hc => ?_))
      · rw [hw] at hc
        cases hc
      · exact ds_nextseq (ds_ret (pu_fz (ds := []) (pl_lst au_nil (lk rfl))) (rt_dat cl Mor.refl q))
  | hand n g t k a b =>
    refine ds_ifs (ut_test (pu_in (ss := ["made", "treated"]) (pu_ixT (ds := [.str "handed", .int n, .int g, .int t, .int k, .int a, .bool b]) (pu_var rfl) pu_int rfl) (pu_tup (ds := [.str "made", .str "treated"]) (au_cons pu_str (au_cons pu_str au_nil)) (lk rfl)))) (fun hc => ?_) (fun hc => ?_)
    · exact absurd hc (by decide)
    refine ds_nextseq (ds_ifs (ut_test (pu_eqStr (pu_ixT (ds := [.str "handed", .int n, .int g, .int t, .int k, .int a, .bool b]) (pu_var rfl) pu_int rfl) pu_str)) (fun hc => ?_) (fun hc => ?_))
    · refine ds_tgt (pu_slA (ds := [.str "handed", .int n, .int g, .int t, .int k, .int a, .bool b]) (es := [.int n, .int g, .int t, .int k, .int a, .bool b]) (pu_var rfl) (uo_some pu_int) uo_none rfl) (tg_tup (ds := [.int n, .int g, .int t, .int k, .int a, .bool b]) (tgl_cons tg_name (tgl_cons tg_name (tgl_cons tg_name (tgl_cons tg_name (tgl_cons tg_name (tgl_cons tg_name tgl_nil)))))) rfl) ?_
      refine ds_set (pu_tup (ds := [_, _, _, _, _, _]) (au_cons (pu_var rfl) (au_cons pu_str (au_cons (pu_var rfl) (au_cons (pu_var rfl) (au_cons (pu_var rfl) (au_cons (pu_var rfl) au_nil)))))) (lk rfl)) ?_
      refine ds_set (pu_tup (ds := [_, _, _, _, _, _]) (au_cons (pu_var rfl) (au_cons pu_str (au_cons (pu_var rfl) (au_cons (pu_var rfl) (au_cons (pu_var rfl) (au_cons (pu_var rfl) au_nil)))))) (lk rfl)) ?_
      exact ds_retseq (ds_ret (pu_fz (ds := [peT (g, .cpy "gave" n k a t b), peT (t, .cpy "took" n k a g b)]) (pl_lst (au_cons (pu_tup (ds := [_, _]) (au_cons (pu_var rfl) (au_cons (pu_var rfl) au_nil)) (lk rfl)) (au_cons (pu_tup (ds := [_, _]) (au_cons (pu_var rfl) (au_cons (pu_var rfl) au_nil)) (lk rfl)) au_nil)) (lk rfl))) (rt_dat cl Mor.refl q))
    · exact absurd hc (by decide)
  | pass g t k a => exact ok.elim
  | sec w p k a => exact ok.elim

abbrev s_entry_at : Stmt := topS 4
abbrev N_entry_at : List Str := ["file", "number", "entry"]
theorem sc_entry_at : FnScope N_entry_at ["file", "number"] (defScope s_entry_at) := ⟨rfl, rfl, rfl, by decide +kernel, rfl, by decide +kernel, by decide +kernel⟩

theorem ok_entry_at {f_entry_at : Addr} {fd_entry_at : FuncData} (F_entry_at : Fun K.K "entry_at" "entry_at" s_entry_at f_entry_at fd_entry_at) : FnOk K.P K.w K.K mg base CX0 1 f_entry_at fd_entry_at ["file", "number"] (SpG K rel_entry_atL) := by
  refine ok_def F_entry_at sc_entry_at (fun C xs R h => by obtain ⟨_, _, _, rfl, _⟩ := h; rfl) (fun cdv A outer s H E hr => ?_)
  refine ⟨_, (pss_cons (ps_for PassesOwn.never rfl (kx_pList K.K rfl (pv 0)) (pg_name (i := 2) sc_entry_at.nd rfl (Or.inl rfl)) (pss_one (ps_if (pt_cmpR op_eq (pe_ix (kx_ixT K.K rfl) (pv 2) pe_int (fun _ _ => rfl)) (pv 1) (nomark _)) (pss_one (ps_ret (pv 2))) pss_nil)))
  (pss_one (ps_ret pe_non))), ?_⟩
  rintro C xs R cl ⟨r, f, n, rfl, hr0, q⟩
  refine ds_forS (fun i Δ C' => Δ = [some (Ax.ref r), some (I n), none] ∧ C' = C ∧ (f.take i).find? (fun e => decide (e.n = n)) = none) (ui_listM (pu_var rfl) hr0) ⟨_, Le.refl _, rfl, rfl, rfl⟩ (fun i Γ' C' h => by rw [h.2.1]; exact hr0) ?_ ?_
  · rintro i x Δ C' hx ⟨rfl, rfl, hn⟩
    obtain ⟨d, hd, rfl⟩ := datget hx
    obtain ⟨e, he, rfl⟩ := mapget hd
    obtain ⟨ds, hds, e0, e1, e2, e3⟩ := ent_0 e
    refine ⟨_, _, tg_name, ?_⟩
    refine ds_if (ut_test (pu_eqI (pu_ixT (pu_is (pu_var rfl) (by rw [hds])) pu_int e0) (pu_var rfl))) (fun hc => ?_) (fun hc => ?_)
    · refine ds_ret (pu_var rfl) (rt_keep ?_)
      have : f.find? (fun e => decide (e.n = n)) = some e := by
        have h1 : f = f.take i ++ (e :: f.drop (i + 1)) := by
          have := List.take_append_drop i f
          rw [List.drop_eq_getElem_cons (List.getElem?_eq_some_iff.mp he).1, (List.getElem?_eq_some_iff.mp he).2] at this
          exact this.symm
        rw [h1, List.find?_append, hn]
        simp only [Option.none_or, List.find?_cons]
        rw [hc]
      rw [this] at q
      exact q
    · refine ds_next ⟨[some (Ax.ref r), some (I n), none], ?_, rfl, rfl, ?_⟩
      · exact ⟨rfl, rfl, trivial⟩
      · rw [List.take_add_one, he, List.find?_append, hn]
        simp only [Option.none_or, Option.toList_some, List.find?_cons, List.find?_nil]
        rw [hc]
  · rintro Δ C' ⟨rfl, rfl, hn⟩
    rw [List.length_map, List.length_map, List.take_length] at hn
    rw [hn] at q
    exact ds_ret pu_no (rt_keep q)

abbrev s__check_are_two : Stmt := topS 9
abbrev N__check_are_two : List Str := ["party", "other"]
theorem sc__check_are_two : FnScope N__check_are_two ["party", "other"] (defScope s__check_are_two) := ⟨rfl, rfl, rfl, by decide +kernel, rfl, by decide +kernel, by decide +kernel⟩

theorem ok__check_are_two {RC fI : Addr} {fdI : FuncData} (RT : RefT K mg base RC fI fdI) {f__check_are_two : Addr} {fd__check_are_two : FuncData} (F__check_are_two : Fun K.K "_check_are_two" "_check_are_two" s__check_are_two f__check_are_two fd__check_are_two) : FnOk K.P K.w K.K mg base (L2.CX K.P K.w) 3 f__check_are_two fd__check_are_two ["party", "other"] (SpX K RC rel__check_are_two) := by
  refine ok_defX F__check_are_two sc__check_are_two (fun C xs R EX h => by obtain ⟨_, _, rfl, _⟩ := h; rfl) (fun cdv A outer s H E hr => ?_)
  refine ⟨_, (pss_one (ps_if (pt_cmpR op_eq (pv 0) (pv 1) (nomark _)) (pss_one (ps_raise rfl (takes_of rfl rfl rfl rfl) (pmk_oex RT.T RT.iC RT.tI RT.F1 (hr.mono (by decide)) RT.hb .nil pass0 (by rfl) RT.gC (pa_cons pe_str pa_nil)))) pss_nil)), ?_⟩
  rintro C xs R EX cl ⟨p, o, rfl, qe, q⟩
  refine ds_if (ut_test (pu_eqI (pu_var rfl) (pu_var rfl))) (fun hc => ?_) (fun hc => ds_next (rt_keep (q (of_decide_eq_false hc))))
  exact ds_raise (fun _ h => h) cl (fun _ _ h => h) pu_str (qe (of_decide_eq_true hc))

abbrev s_Trail___init__ : Stmt := inClass (topS 8) 0
abbrev N_Trail___init__ : List Str := ["self", "kinds", "parties", "_"]
theorem sc_Trail___init__ : FnScope N_Trail___init__ ["self", "kinds", "parties"] (defScope s_Trail___init__) := ⟨rfl, rfl, rfl, by decide +kernel, rfl, by decide +kernel, by decide +kernel⟩

theorem ok_Trail___init__ {CL_Trail : Addr} (CT_Trail : ClsT K mg CL_Trail "Trail" ["_kinds", "_parties", "_have", "_files", "_finds", "_events", "_given", "_liars"]) {f_Trail___init__ : Addr} {fd_Trail___init__ : FuncData} (F_Trail___init__ : Fun K.K "__init__" "Trail.__init__" s_Trail___init__ f_Trail___init__ fd_Trail___init__) (z_tuple : mg "tuple" = none) : FnOk K.P K.w K.K mg base CX0 1 f_Trail___init__ fd_Trail___init__ ["self", "kinds", "parties"] (SpG K (rel_Trail___init__ CL_Trail)) := by
  refine ok_def F_Trail___init__ sc_Trail___init__ (fun C xs R h => by obtain ⟨_, _, _, _, rfl, _⟩ := h; rfl) (fun cdv A outer s H E hr => ?_)
  refine ⟨_, (pss_cons (kx_sfld K.K rfl (pv 0) (pv 1) rfl)
  (pss_cons (kx_sfld K.K rfl (pv 0) (pe_callTy (kx_tuple K.K rfl) (by rfl) z_tuple PyProof.Rows.boot_tuple (pa_cons (pv 2) pa_nil)) rfl)
  (pss_cons (kx_sfld K.K rfl (pv 0) (pe_lc (own := [("_", 3)]) rfl sc_Trail___init__.nd (kx_pTup K.K rfl (kx_fld K.K rfl (pv 0) rfl)) (blkOk_by (N := N_Trail___init__) (sc := defScope s_Trail___init__) (by decide +kernel)) (fun _ _ _ _ _ => (pg_name (i := 3) sc_Trail___init__.nd rfl (Or.inl rfl) (Or.inr rfl))) (fun _ _ _ _ _ => pts_nil) (fun _ _ _ _ _ => (pe_op op_rep (pe_lst (pa_cons pe_int pa_nil)) (pv 1)))) rfl)
  (pss_cons (kx_sfld K.K rfl (pv 0) (pe_lc (own := [("_", 3)]) rfl sc_Trail___init__.nd (kx_pTup K.K rfl (kx_fld K.K rfl (pv 0) rfl)) (blkOk_by (N := N_Trail___init__) (sc := defScope s_Trail___init__) (by decide +kernel)) (fun _ _ _ _ _ => (pg_name (i := 3) sc_Trail___init__.nd rfl (Or.inl rfl) (Or.inr rfl))) (fun _ _ _ _ _ => pts_nil) (fun _ _ _ _ _ => (pe_lst pa_nil))) rfl)
  (pss_cons (kx_sfld K.K rfl (pv 0) (pe_lst pa_nil) rfl)
  (pss_cons (kx_sfld K.K rfl (pv 0) (pe_lst pa_nil) rfl)
  (pss_cons (kx_sfld K.K rfl (pv 0) pe_int rfl)
  (pss_one (kx_sfld K.K rfl (pv 0) pe_dnewK rfl))))))))), ?_⟩
  rintro C xs R cl ⟨a, kd, pf, x, rfl, hx, hp, hk, hc, kq⟩
  refine ds_sfld (pu_var rfl) (pu_var rfl) hc CT_Trail.cl (CT_Trail.no _ (by simp)) (show 0 < 1000 by decide) ?_
  refine ds_sfld (y := T (pf.map pfD)) (by rcases hx with rfl | rfl <;> first | exact pu_cb (au_cons (pu_var rfl) au_nil) rc_tupL | exact pu_cb (au_cons (pu_var rfl) au_nil) rc_tupT) (pu_var rfl) updC_same CT_Trail.cl (CT_Trail.no _ (by simp)) (show 1 < 1000 by decide) ?_
  rw [updC_updC]
  have l5 : (pf.map pfD).length < 100000 := by rw [List.length_map]; omega
  have e1 : List.replicate (pf.map pfD).length (List.replicate kd (PyData.int 0)) = rowsD (st0 pf.length kd) := by
    unfold rowsD st0 rowD
    rw [List.map_replicate, List.map_replicate, List.length_map]
  have e2 : filesD (List.replicate pf.length ([] : List Ent)) = List.replicate (pf.map pfD).length [] := by
    unfold filesD
    rw [List.map_replicate, List.length_map]
    rfl
  generalize hC2 : updC C a (MO.ins CL_Trail (putA "_parties" (T (pf.map pfD)) (putA "_kinds" (I kd) []))) = C2
  have a2 : C2 a = some (.ins CL_Trail (putA "_parties" (T (pf.map pfD)) (putA "_kinds" (I kd) []))) := by rw [← hC2, updC_same]
  have n2 : ∀ b, b ≠ a → C2 b = C b := fun b nb => by rw [← hC2, updC_ne nb]
  refine ds_sfldE (P := fun x C' => ∃ p ps, x = .ref p ∧ Grid C2 C' p ps (List.replicate (pf.map pfD).length (List.replicate kd (PyData.int 0)))) ((ev_grid (r := List.replicate kd (.int 0)) (ui_tupD (pu_fld (pu_var rfl) a2 CT_Trail.cl (CT_Trail.no _ (by simp)) (x := T (pf.map pfD)) (by rfl))) (by rw [List.length_map]; exact l5) (fun _ _ => trivial) fun i x C' m hx => ⟨_, [3], by simp, tg_name, pl_eqL (pl_rep (pl_lst (au_cons pu_int au_nil) (lk rfl)) (pu_var rfl) (by omega) (by omega) (by show 1 ≤ 100; decide)) (by rw [show ((kd : Int)).toNat = kd by omega, List.map_replicate]; exact flat_one kd)⟩).imp fun x C' ⟨p, ps, h1, h2⟩ => ⟨p, ps, h1, by rw [List.length_map] at h2; exact h2⟩) CT_Trail.cl (CT_Trail.no _ (by simp)) ?_
  rintro _ C3 ⟨p, ps, rfl, G1⟩
  rw [e1] at G1
  refine ⟨a, _, (pu_var rfl), G1.mor.at_ a2, (show 2 < 1000 by decide), ?_⟩
  generalize hC4 : updC C3 a (MO.ins CL_Trail (putA "_have" (.ref p) (putA "_parties" (T (pf.map pfD)) (putA "_kinds" (I kd) [])))) = C4
  have a4 : C4 a = some (.ins CL_Trail (putA "_have" (.ref p) (putA "_parties" (T (pf.map pfD)) (putA "_kinds" (I kd) [])))) := by rw [← hC4, updC_same]
  have n4 : ∀ b, b ≠ a → C4 b = C3 b := fun b nb => by rw [← hC4, updC_ne nb]
  refine ds_sfldE (P := fun x C' => ∃ p ps, x = .ref p ∧ Grid C4 C' p ps (List.replicate (pf.map pfD).length [])) ((ev_grid (r := []) (ui_tupD (pu_fld (pu_var rfl) a4 CT_Trail.cl (CT_Trail.no _ (by simp)) (x := T (pf.map pfD)) (by rfl))) (by rw [List.length_map]; exact l5) (fun _ _ => trivial) fun i x C' m hx => ⟨_, [3], by simp, tg_name, pl_lst au_nil (lk rfl)⟩).imp fun x C' ⟨p, ps, h1, h2⟩ => ⟨p, ps, h1, by rw [List.length_map] at h2; exact h2⟩) CT_Trail.cl (CT_Trail.no _ (by simp)) ?_
  rintro _ C5 ⟨q, qs, rfl, G2⟩
  refine ⟨a, _, (pu_var rfl), G2.mor.at_ a4, (show 3 < 1000 by decide), ?_⟩
  refine ds_sfldL (pl_lst au_nil (lk rfl)) (fun C' m => (pu_var rfl)) updC_same CT_Trail.cl (CT_Trail.no _ (by simp)) (show 4 < 1000 by decide) fun fd hfd => ?_
  have fa : fd ≠ a := fun e => by rw [e, updC_same] at hfd; cases hfd
  rw [updC_ne fa] at hfd
  rw [upd_skip fa]
  refine ds_sfldL (pl_lst au_nil (lk rfl)) (fun C' m => (pu_var rfl)) updC_same CT_Trail.cl (CT_Trail.no _ (by simp)) (show 5 < 1000 by decide) fun ev hev => ?_
  have ea : ev ≠ a := fun e => by rw [e, updC_same] at hev; cases hev
  rw [updC_ne ea] at hev
  rw [upd_skip ea]
  have ef : ev ≠ fd := fun e => by rw [e, updC_same] at hev; cases hev
  rw [updC_ne ef] at hev
  refine ds_sfld pu_int (pu_var rfl) updC_same CT_Trail.cl (CT_Trail.no _ (by simp)) (show 6 < 1000 by decide) ?_
  rw [updC_updC]
  refine ds_sfldE (rest := tNext) ev_dnewK CT_Trail.cl (CT_Trail.no _ (by simp)) ?_
  rintro _ _ ⟨li, hli, rfl, rfl⟩
  have la : li ≠ a := fun e => by rw [e, updC_same] at hli; cases hli
  rw [updC_ne la] at hli
  have le : li ≠ ev := fun e => by rw [e, updC_same] at hli; cases hli
  rw [updC_ne le] at hli
  have lf : li ≠ fd := fun e => by rw [e, updC_same] at hli; cases hli
  rw [updC_ne lf] at hli
  refine ⟨a, _, (pu_var rfl), (updC_ne la.symm).trans updC_same, (show 7 < 1000 by decide), ds_next (rt_keep ?_)⟩
  -- what stands in the end
  have c3 : ∀ b, b ≠ a → (C b).isSome = true → C3 b = C b := fun b nb hb => by rw [G1.mor b (by rw [n2 b nb]; exact hb), n2 b nb]
  have c5 : ∀ b, b ≠ a → (C3 b).isSome = true → C5 b = C3 b := fun b nb hb => by rw [G2.mor b (by rw [n4 b nb]; exact hb), n4 b nb]
  have i2 : (C2 a).isSome = true := by rw [a2]; rfl
  have i4 : (C4 a).isSome = true := by rw [a4]; rfl
  have pa : p ≠ a := ne_new G1.new i2
  have psa : ∀ r ∈ ps, r ≠ a := fun r hr => ne_new (G1.news r hr) i2
  have qa : q ≠ a := ne_new G2.new i4
  have qsa : ∀ r ∈ qs, r ≠ a := fun r hr => ne_new (G2.news r hr) i4
  have t3p : (C3 p).isSome = true := by rw [G1.top]; rfl
  have t3r : ∀ r ∈ ps, (C3 r).isSome = true := fun r hr => by
    obtain ⟨j, hj⟩ := List.getElem?_of_mem hr
    rw [G1.row j r hj]
    rfl
  have q3 : C3 q = none := (n4 q qa).symm.trans G2.new
  have qs3 : ∀ r ∈ qs, C3 r = none := fun r hr => (n4 r (qsa r hr)).symm.trans (G2.news r hr)
  have qp : q ≠ p := ne_new q3 t3p
  have qps : q ∉ ps := fun hm => ne_new q3 (t3r q hm) rfl
  have qsp : ∀ r ∈ qs, r ≠ p := fun r hr => ne_new (qs3 r hr) t3p
  have qsps : ∀ r ∈ qs, r ∉ ps := fun r hr hm => ne_new (qs3 r hr) (t3r r hm) rfl
  have t5q : (C5 q).isSome = true := by rw [G2.top]; rfl
  have t5qs : ∀ r ∈ qs, (C5 r).isSome = true := fun r hr => by
    obtain ⟨j, hj⟩ := List.getElem?_of_mem hr
    rw [G2.row j r hj]
    rfl
  have t5p : (C5 p).isSome = true := by rw [c5 p pa t3p]; exact t3p
  have t5ps : ∀ r ∈ ps, (C5 r).isSome = true := fun r hr => by rw [c5 r (psa r hr) (t3r r hr)]; exact t3r r hr
  have free : ∀ b, b ≠ a → C3 b = none → C b = none := fun b nb hb => by
    cases e : C b with
    | none => rfl
    | some o =>
      have := c3 b nb (by rw [e]; rfl)
      rw [hb, e] at this
      cases this
  have free5 : ∀ b, b ≠ a → C5 b = none → C3 b = none := fun b nb hb => by
    cases e : C3 b with
    | none => rfl
    | some o =>
      have := c5 b nb (by rw [e]; rfl)
      rw [hb, e] at this
      cases this
  have base : ∀ (X : MO) (b : Addr), b ≠ a → b ≠ fd → b ≠ ev → b ≠ li → updC (updC (updC (updC (updC C5 fd (.lst [])) ev (.lst [])) a X) li (.dic [])) a (.ins CL_Trail (trF ⟨a, p, q, fd, ev, li, ps, qs⟩ (begM kd pf))) b = C5 b := fun X b h1 h2 h3 h4 => by
    rw [updC_ne h1, updC_ne h4, updC_ne h1, updC_ne h3, updC_ne h2]
  refine kq ⟨a, p, q, fd, ev, li, ps, qs⟩ _ rfl (fun b hb nb => ?_) ⟨?_, ?_, ?_, ?_, ?_, ?_, ?_, ?_, ?_⟩ ?_
  · have h3 := c3 b nb hb
    have h5 : C5 b = C b := by rw [c5 b nb (by rw [h3]; exact hb), h3]
    have i5 : (C5 b).isSome = true := by rw [h5]; exact hb
    exact (base _ b nb (ne_new hfd i5).symm (ne_new hev i5).symm (ne_new hli i5).symm).trans h5
  · show ([a, p, q, fd, ev, li] : List Addr).Nodup
    simp only [List.nodup_cons, List.mem_cons, List.not_mem_nil, or_false, not_or, List.nodup_nil, not_false_eq_true, and_true]
    exact ⟨⟨pa.symm, qa.symm, fa.symm, ea.symm, la.symm⟩, ⟨qp.symm, (ne_new hfd t5p).symm, (ne_new hev t5p).symm, (ne_new hli t5p).symm⟩, ⟨(ne_new hfd t5q).symm, (ne_new hev t5q).symm, (ne_new hli t5q).symm⟩, ⟨ef.symm, lf.symm⟩, le.symm⟩
  · intro r hr
    have hr : r ∈ ps := hr
    refine ⟨?_, fun hm => qsps r hm hr⟩
    show r ∉ ([a, p, q, fd, ev, li] : List Addr)
    simp only [List.mem_cons, List.not_mem_nil, or_false, not_or]
    exact ⟨psa r hr, fun e => G1.apart (e ▸ hr), fun e => qps (e ▸ hr), (ne_new hfd (t5ps r hr)).symm, (ne_new hev (t5ps r hr)).symm, (ne_new hli (t5ps r hr)).symm⟩
  · intro r hr
    have hr : r ∈ qs := hr
    show r ∉ ([a, p, q, fd, ev, li] : List Addr)
    simp only [List.mem_cons, List.not_mem_nil, or_false, not_or]
    exact ⟨qsa r hr, qsp r hr, fun e => G2.apart (e ▸ hr), (ne_new hfd (t5qs r hr)).symm, (ne_new hev (t5qs r hr)).symm, (ne_new hli (t5qs r hr)).symm⟩
  · show updC _ a _ a = _
    rw [updC_same]
    rfl
  · refine ⟨?_, G1.len, fun j r hj => ?_, G1.nd, G1.apart⟩
    · exact (base _ p pa (ne_new hfd t5p).symm (ne_new hev t5p).symm (ne_new hli t5p).symm).trans ((c5 p pa t3p).trans G1.top)
    · have hr := List.mem_of_getElem? hj
      exact (base _ r (psa r hr) (ne_new hfd (t5ps r hr)).symm (ne_new hev (t5ps r hr)).symm (ne_new hli (t5ps r hr)).symm).trans ((c5 r (psa r hr) (t3r r hr)).trans (G1.row j r hj))
  · show GridA _ q qs (filesD (List.replicate pf.length []))
    rw [e2]
    refine ⟨?_, G2.len, fun j r hj => ?_, G2.nd, G2.apart⟩
    · exact (base _ q qa (ne_new hfd t5q).symm (ne_new hev t5q).symm (ne_new hli t5q).symm).trans G2.top
    · have hr := List.mem_of_getElem? hj
      exact (base _ r (qsa r hr) (ne_new hfd (t5qs r hr)).symm (ne_new hev (t5qs r hr)).symm (ne_new hli (t5qs r hr)).symm).trans (G2.row j r hj)
  · show updC _ a _ fd = _
    rw [updC_ne fa, updC_ne lf.symm, updC_ne fa, updC_ne ef.symm, updC_same]
    rfl
  · show updC _ a _ ev = _
    rw [updC_ne ea, updC_ne le.symm, updC_ne ea, updC_same]
    rfl
  · show updC _ a _ li = _
    rw [updC_ne la, updC_same]
    rfl
  · intro b hb
    have hb : b ∈ p :: q :: fd :: ev :: li :: (ps ++ qs) := hb
    simp only [List.mem_cons, List.mem_append] at hb
    rcases hb with rfl | rfl | rfl | rfl | rfl | hb | hb
    · exact (n2 _ pa).symm.trans G1.new
    · exact free _ qa q3
    · exact free _ fa (free5 _ fa hfd)
    · exact free _ ea (free5 _ ea hev)
    · exact free _ la (free5 _ la hli)
    · exact (n2 _ (psa _ hb)).symm.trans (G1.news _ hb)
    · exact free _ (qsa _ hb) (qs3 _ hb)

end
end K40

set_option maxHeartbeats 40000000
namespace K40
open PySem PySem.Spec PyProof.Rows L2 Ab Lm Hm Wda
open Trl
section
variable {K : Kw} {mg : Str → Option Value} {base : Heap}
abbrev s_Trail__check_makes : Stmt := inClass (topS 8) 16
abbrev N_Trail__check_makes : List Str := ["self", "party"]
theorem sc_Trail__check_makes : FnScope N_Trail__check_makes ["self", "party"] (defScope s_Trail__check_makes) := ⟨rfl, rfl, rfl, by decide +kernel, rfl, by decide +kernel, by decide +kernel⟩

theorem ok_Trail__check_makes {RC fI : Addr} {fdI : FuncData} (RT : RefT K mg base RC fI fdI) {CL_Trail : Addr} (CT_Trail : ClsT K mg CL_Trail "Trail" ["_kinds", "_parties", "_have", "_files", "_finds", "_events", "_given", "_liars"]) {f_Trail__check_makes : Addr} {fd_Trail__check_makes : FuncData} (F_Trail__check_makes : Fun K.K "_check_makes" "Trail._check_makes" s_Trail__check_makes f_Trail__check_makes fd_Trail__check_makes) : FnOk K.P K.w K.K mg base (L2.CX K.P K.w) 3 f_Trail__check_makes fd_Trail__check_makes ["self", "party"] (SpX K RC (rel_Trail__check_makes CL_Trail)) := by
  refine ok_defX F_Trail__check_makes sc_Trail__check_makes (fun C xs R EX h => by obtain ⟨_, _, _, _, rfl, _⟩ := h; rfl) (fun cdv A outer s H E hr => ?_)
  refine ⟨_, (pss_one (ps_if (pt_not (pt_val (pe_ix (kx_ixT K.K rfl) (pe_ix (kx_ixT K.K rfl) (kx_fld K.K rfl (pv 0) rfl) (pv 1) (fun _ _ => rfl)) pe_int (fun _ _ => rfl)))) (pss_one (ps_raise rfl (takes_of rfl rfl rfl rfl) (pmk_oex RT.T RT.iC RT.tI RT.F1 (hr.mono (by decide)) RT.hb .nil pass0 (by rfl) RT.gC (pa_cons pe_str pa_nil)))) pss_nil)), ?_⟩
  rintro C xs R EX cl ⟨A, W, b, p, rfl, ⟨h, ok, hb⟩, ⟨p0, p1⟩, qe, q⟩
  refine ds_if (b := !(pfAt W.pf p).1) (ut_not (ut_B (pu_ixT (ds := [.bool (pfAt W.pf p).1, .bool (pfAt W.pf p).2]) (pu_ixT (pu_fld (pu_var rfl) h.ins CT_Trail.cl (CT_Trail.no _ (by simp)) tr_parties) (pu_var rfl) (pf_get p0 p1)) pu_int rfl))) (fun hc => ?_) (fun hc => ds_next (rt_keep (q (by simpa using hc))))
  exact ds_raise (fun _ h => h) cl (fun _ _ h => h) pu_str (qe (by simpa using hc))

abbrev s_Trail__take_away : Stmt := inClass (topS 8) 18
abbrev N_Trail__take_away : List Str := ["self", "party", "kind", "amount"]
theorem sc_Trail__take_away : FnScope N_Trail__take_away ["self", "party", "kind", "amount"] (defScope s_Trail__take_away) := ⟨rfl, rfl, rfl, by decide +kernel, rfl, by decide +kernel, by decide +kernel⟩

theorem ok_Trail__take_away {RC fI : Addr} {fdI : FuncData} (RT : RefT K mg base RC fI fdI) {CL_Trail : Addr} (CT_Trail : ClsT K mg CL_Trail "Trail" ["_kinds", "_parties", "_have", "_files", "_finds", "_events", "_given", "_liars"]) {f_Trail__take_away : Addr} {fd_Trail__take_away : FuncData} (F_Trail__take_away : Fun K.K "_take_away" "Trail._take_away" s_Trail__take_away f_Trail__take_away fd_Trail__take_away) : FnOk K.P K.w K.K mg base (L2.CX K.P K.w) 3 f_Trail__take_away fd_Trail__take_away ["self", "party", "kind", "amount"] (SpX K RC (rel_Trail__take_away CL_Trail)) := by
  refine ok_defX F_Trail__take_away sc_Trail__take_away (fun C xs R EX h => by obtain ⟨_, _, _, _, _, _, rfl, _⟩ := h; rfl) (fun cdv A outer s H E hr => ?_)
  refine ⟨_, (pss_cons (ps_if (pt_cmpR op_lt (pe_ix (kx_ixL K.K rfl) (pe_ix (kx_ixL K.K rfl) (kx_fld K.K rfl (pv 0) rfl) (pv 1) (fun _ _ => rfl)) (pv 2) (fun _ _ => rfl)) (pv 3) (nomark _)) (pss_one (ps_raise rfl (takes_of rfl rfl rfl rfl) (pmk_oex RT.T RT.iC RT.tI RT.F1 (hr.mono (by decide)) RT.hb .nil pass0 (by rfl) RT.gC (pa_cons pe_str pa_nil)))) pss_nil)
  (pss_one (ps_augS (pe_ix (kx_ixL K.K rfl) (kx_fld K.K rfl (pv 0) rfl) (pv 1) (fun _ _ => rfl)) (pv 2) (kx_getL K.K rfl) (pv 3) ip_sub set_list))), ?_⟩
  rintro C xs R EX cl ⟨A, W, b, p, k, a, rfl, ⟨h, ok, hb⟩, ⟨p0, p1⟩, ⟨k0, k1⟩, qe, q⟩
  refine ds_ifs (ut_test (pu_lt (pu_tst h ok.st p0 p1 k0 k1 (pu_fld (pu_var rfl) h.ins CT_Trail.cl (CT_Trail.no _ (by simp)) tr_have) (pu_var rfl) (pu_var rfl)) (pu_var rfl))) (fun hc => ds_raiseS (fun _ h => h) cl (fun _ _ h => h) pu_str (qe (of_decide_eq_true hc))) (fun hc => ds_nextseq ?_)
  exact ds_tst (rest := tNext) (a := -a) h ok.st p0 p1 k0 k1 (by show getM W.stock p k - a = getM W.stock p k + -a; omega) (pu_fld (pu_var rfl) h.ins CT_Trail.cl (CT_Trail.no _ (by simp)) tr_have) (pu_var rfl) (pu_var rfl) (pu_var rfl) fun C' o h' => ds_next (rt_keep (q (by have := of_decide_eq_false hc; omega) C' o h'))

abbrev s_Trail__next_number : Stmt := inClass (topS 8) 19
abbrev N_Trail__next_number : List Str := ["self"]
theorem sc_Trail__next_number : FnScope N_Trail__next_number ["self"] (defScope s_Trail__next_number) := ⟨rfl, rfl, rfl, by decide +kernel, rfl, by decide +kernel, by decide +kernel⟩

theorem ok_Trail__next_number {CL_Trail : Addr} (CT_Trail : ClsT K mg CL_Trail "Trail" ["_kinds", "_parties", "_have", "_files", "_finds", "_events", "_given", "_liars"]) {f_Trail__next_number : Addr} {fd_Trail__next_number : FuncData} (F_Trail__next_number : Fun K.K "_next_number" "Trail._next_number" s_Trail__next_number f_Trail__next_number fd_Trail__next_number) : FnOk K.P K.w K.K mg base CX0 1 f_Trail__next_number fd_Trail__next_number ["self"] (SpG K (rel_Trail__next_number CL_Trail)) := by
  refine ok_def F_Trail__next_number sc_Trail__next_number (fun C xs R h => by obtain ⟨_, _, rfl, _⟩ := h; rfl) (fun cdv A outer s H E hr => ?_)
  refine ⟨_, (pss_cons (kx_fldaug K.K rfl (pv 0) pe_int in_add)
  (pss_one (ps_ret (kx_fld K.K rfl (pv 0) rfl)))), ?_⟩
  rintro C xs R cl ⟨A, W, rfl, h, q⟩
  refine ds_fldaug (pu_var rfl) pu_int h.ins CT_Trail.cl (CT_Trail.no _ (by simp)) tr_given tr_len ?_
  rw [Trl.tr_put]
  have h1 := h.setLast (W.last + 1)
  exact ds_ret (pu_fld (pu_var rfl) h1.ins CT_Trail.cl (CT_Trail.no _ (by simp)) tr_given) (rt_keep (q _ (Only.refl.put own_w) h1))

abbrev s_Trail__note : Stmt := inClass (topS 8) 21
abbrev N_Trail__note : List Str := ["self", "event", "party", "entry"]
theorem sc_Trail__note : FnScope N_Trail__note ["self", "event"] (defScope s_Trail__note) := ⟨rfl, rfl, rfl, by decide +kernel, rfl, by decide +kernel, by decide +kernel⟩

theorem ok_Trail__note {CL_Trail : Addr} (CT_Trail : ClsT K mg CL_Trail "Trail" ["_kinds", "_parties", "_have", "_files", "_finds", "_events", "_given", "_liars"]) {f_Trail__note : Addr} {fd_Trail__note : FuncData} (F_Trail__note : Fun K.K "_note" "Trail._note" s_Trail__note f_Trail__note fd_Trail__note) {f_entries_of : Addr} {fd_entries_of : FuncData} (F_entries_of : Fun K.K "entries_of" "entries_of" s_entries_of f_entries_of fd_entries_of) (G_entries_of : FnOk K.P K.w K.K mg base CX0 1 f_entries_of fd_entries_of ["event"] (SpG K rel_entries_of)) (b_entries_of : Binds K.K fd_entries_of ["event"] []) (g_entries_of : mg "entries_of" = some (.ref f_entries_of)) : FnOk K.P K.w K.K mg base CX0 2 f_Trail__note fd_Trail__note ["self", "event"] (SpG K (rel_Trail__note CL_Trail)) := by
  refine ok_def F_Trail__note sc_Trail__note (fun C xs R h => by obtain ⟨_, _, _, rfl, _⟩ := h; rfl) (fun cdv A outer s H E hr => ?_)
  refine ⟨_, (pss_one (ps_for PassesOwn.never rfl (kx_pList K.K rfl (pe_call G_entries_of (hr.mono (by decide)) (by rfl) g_entries_of F_entries_of.kp b_entries_of .nil pass0 (pa_cons (pv 1) pa_nil))) (pg_tup rfl (pgs_cons (pg_name (i := 2) sc_Trail__note.nd rfl (Or.inl rfl)) (pgs_cons (pg_name (i := 3) sc_Trail__note.nd rfl (Or.inl rfl)) pgs_nil))) (pss_one (ps_expr (pe_bm PySem.F.plainAttrs_list PySem.F.slot_list_append PySem.F.type_list_append mt_append (pe_ix (kx_ixL K.K rfl) (kx_fld K.K rfl (pv 0) rfl) (pv 2) (fun _ _ => rfl)) (pa_cons (pv 3) pa_nil)))))), ?_⟩
  rintro C xs R cl ⟨A, W, e, rfl, h, fl, fb, op, ep, q⟩
  refine ds_for1 (fun i Δ C' => Δ = [some (Ax.ref A.w), some (.dat (evD e)), none, none] ∧ Only A.own C C' ∧ TrAt C' CL_Trail A (((entsT e).take i).foldl putT W)) (ui_listD (pu_call (au_cons (pu_var rfl) au_nil) ⟨e, rfl, op, rfl, rfl⟩)) ⟨_, ?_, rfl, Only.refl, h⟩ (fun _ _ _ _ => trivial) ?_ ?_
  · exact ⟨rfl, rfl, trivial⟩
  · rintro i x Δ C' hx ⟨rfl, o1, h1⟩
    obtain ⟨d, hd, rfl⟩ := datget hx
    obtain ⟨⟨p, en⟩, he, rfl⟩ := mapget hd
    have pin := ep _ (List.mem_of_getElem? he)
    have p0 : 0 ≤ p := pin.1
    have p1 : p < W.pf.length := pin.2
    obtain ⟨f1, f2, f3⟩ := foldl_putT ((entsT e).take i) W
    have el : (entsT e).length ≤ 2 := entsT_len e
    refine ⟨_, _, tg_tup (ds := [.int p, entD en]) (tgl_cons tg_name (tgl_cons tg_name tgl_nil)) rfl, ?_⟩
    refine ds_tfile (rest := tNext) (e := en) h1 p0 (by rw [f1]; omega) ?_ (pu_fld (pu_var rfl) h1.ins CT_Trail.cl (CT_Trail.no _ (by simp)) tr_files) (pu_var rfl) (pu_var rfl) fun C2 o2 h2 => ds_next ⟨_, ?_, rfl, o1.trans o2, ?_⟩
    · have f4 := f3 90000 (fun f hf => Nat.le_of_lt (fb f hf))
      have f5 : (((entsT e).take i).foldl putT W).file p ∈ (((entsT e).take i).foldl putT W).files := by
        unfold Wd.file
        rw [List.getD_eq_getElem?_getD, List.getElem?_eq_getElem (by rw [f1]; omega)]
        exact List.getElem_mem _
      have f6 := f4 _ f5
      rw [List.length_take] at f6
      omega
    · exact ⟨rfl, rfl, trivial⟩
    · rw [List.take_add_one, he, Option.toList_some, List.foldl_append]
      exact h2
  · rintro Γ' Δ C' l ⟨rfl, o1, h1⟩
    rw [List.length_map, List.length_map, List.take_length] at h1
    exact rt_keep (q _ o1 h1)

abbrev s_Trail__happen_openly : Stmt := inClass (topS 8) 20
abbrev N_Trail__happen_openly : List Str := ["self", "word", "parts", "number", "event"]
theorem sc_Trail__happen_openly : FnScope N_Trail__happen_openly ["self", "word", "parts"] (defScope s_Trail__happen_openly) := ⟨rfl, rfl, rfl, by decide +kernel, rfl, by decide +kernel, by decide +kernel⟩

theorem ok_Trail__happen_openly {CL_Trail : Addr} (CT_Trail : ClsT K mg CL_Trail "Trail" ["_kinds", "_parties", "_have", "_files", "_finds", "_events", "_given", "_liars"]) {f_Trail__happen_openly : Addr} {fd_Trail__happen_openly : FuncData} (F_Trail__happen_openly : Fun K.K "_happen_openly" "Trail._happen_openly" s_Trail__happen_openly f_Trail__happen_openly fd_Trail__happen_openly) {f_Trail__next_number : Addr} {fd_Trail__next_number : FuncData} (F_Trail__next_number : Fun K.K "_next_number" "Trail._next_number" s_Trail__next_number f_Trail__next_number fd_Trail__next_number) (G_Trail__next_number : FnOk K.P K.w K.K mg base CX0 1 f_Trail__next_number fd_Trail__next_number ["self"] (SpG K (rel_Trail__next_number CL_Trail))) (b_Trail__next_number : Binds K.K fd_Trail__next_number ["self"] []) (M_Trail__next_number : Meth K.K CL_Trail "_next_number" f_Trail__next_number) {f_Trail__note : Addr} {fd_Trail__note : FuncData} (F_Trail__note : Fun K.K "_note" "Trail._note" s_Trail__note f_Trail__note fd_Trail__note) (G_Trail__note : FnOk K.P K.w K.K mg base CX0 2 f_Trail__note fd_Trail__note ["self", "event"] (SpG K (rel_Trail__note CL_Trail))) (b_Trail__note : Binds K.K fd_Trail__note ["self", "event"] []) (M_Trail__note : Meth K.K CL_Trail "_note" f_Trail__note) : FnR K.P K.w K.K mg base CX0 3 f_Trail__happen_openly (SpG K (starR 2 (rel_Trail__happen_openly CL_Trail))) := by
  refine ok_defS (ps := ["self", "word"]) (pv := "parts") F_Trail__happen_openly sc_Trail__happen_openly (fun kV doc pm an cdv ct => StX.bind_star2 (B := fun us => bindArgs (PySem.W.fnOf "_happen_openly" "Trail._happen_openly" (defArgs s_Trail__happen_openly) (defBody s_Trail__happen_openly) (defScope s_Trail__happen_openly) .none kV doc pm an cdv ct) ⟨us, []⟩) (p1 := "self") (p2 := "word") (pv := "parts") (fun _ _ => rfl) (fun _ _ _ _ => rfl)) (fun cdv A outer s H E hr => ?_)
  refine ⟨_, (pss_cons (ps_set (i := 3) sc_Trail__happen_openly.nd rfl (Or.inl rfl) (pe_meth0 (pv 0) CT_Trail.cl M_Trail__next_number G_Trail__next_number (hr.mono (by decide)) b_Trail__next_number .nil pass0))
  (pss_cons (ps_set (i := 4) sc_Trail__happen_openly.nd rfl (Or.inl rfl) (pe_tup (pa_cons (pv 1) (pa_cons (pv 3) (StX.pa_star (pv 2) pa_nil)))))
  (pss_cons (ps_expr (pe_bm PySem.F.plainAttrs_list PySem.F.slot_list_append PySem.F.type_list_append mt_append (kx_fld K.K rfl (pv 0) rfl) (pa_cons (pv 4) pa_nil)))
  (pss_cons (ps_expr (pe_meth (pv 0) CT_Trail.cl M_Trail__note G_Trail__note (hr.mono (by decide)) b_Trail__note .nil pass0 (pa_cons (pv 4) pa_nil)))
  (pss_one (ps_ret (pv 3))))))), ?_⟩
  rintro C xs R cl ⟨A, W, w, ds, e, rfl, he, hds, h, fl, fb, hev, op, ep, q⟩
  refine ds_setE (ev_meth (P := fun x C' => x = I (W.last + 1) ∧ Only A.own C C' ∧ TrAt C' CL_Trail A { W with last := W.last + 1 }) (pu_var rfl) h.ins (by rfl) au_nil ⟨A, W, rfl, h, fun C' o h' => ⟨rfl, o, h'⟩⟩) ?_
  rintro _ C1 ⟨rfl, o1, h1⟩
  refine ds_set (x := .dat (evD e)) (pu_is (pu_tup (ds := .str w :: .int (W.last + 1) :: ds) (au_is (au_cons (pu_var rfl) (au_cons (pu_var rfl) (au_star (pu_var rfl) au_nil))) (by simp)) (by show ds.length + 2 ≤ _; omega)) (by rw [he])) ?_
  refine ds_tev h1 (by show W.events.length < _; omega) (pu_fld (pu_var rfl) h1.ins CT_Trail.cl (CT_Trail.no _ (by simp)) tr_events) (pu_var rfl) fun C2 o2 h2 => ?_
  refine ds_drop (ev_meth (P := fun x C' => Only A.own C2 C' ∧ TrAt C' CL_Trail A (openT W e)) (pu_var rfl) h2.ins (by rfl) (au_cons (pu_var rfl) au_nil) ⟨A, _, e, rfl, h2, fl, fb, op, ep, fun C' o h' => ⟨o, h'⟩⟩) ?_
  rintro _ C3 ⟨o3, h3⟩
  exact ds_ret (pu_var rfl) (rt_keep (q _ ((o1.trans o2).trans o3) h3))

abbrev s_Trail__are_dishonest : Stmt := inClass (topS 8) 22
abbrev N_Trail__are_dishonest : List Str := ["self", "parties", "party"]
theorem sc_Trail__are_dishonest : FnScope N_Trail__are_dishonest ["self", "parties"] (defScope s_Trail__are_dishonest) := ⟨rfl, rfl, rfl, by decide +kernel, rfl, by decide +kernel, by decide +kernel⟩

theorem ok_Trail__are_dishonest {CL_Trail : Addr} (CT_Trail : ClsT K mg CL_Trail "Trail" ["_kinds", "_parties", "_have", "_files", "_finds", "_events", "_given", "_liars"]) {f_Trail__are_dishonest : Addr} {fd_Trail__are_dishonest : FuncData} (F_Trail__are_dishonest : Fun K.K "_are_dishonest" "Trail._are_dishonest" s_Trail__are_dishonest f_Trail__are_dishonest fd_Trail__are_dishonest) : FnR K.P K.w K.K mg base CX0 1 f_Trail__are_dishonest (SpG K (starR 1 (rel_Trail__are_dishonest CL_Trail))) := by
  refine ok_defS (ps := ["self"]) (pv := "parties") F_Trail__are_dishonest sc_Trail__are_dishonest (fun kV doc pm an cdv ct => StX.bind_star1 (B := fun us => bindArgs (PySem.W.fnOf "_are_dishonest" "Trail._are_dishonest" (defArgs s_Trail__are_dishonest) (defBody s_Trail__are_dishonest) (defScope s_Trail__are_dishonest) .none kV doc pm an cdv ct) ⟨us, []⟩) (p1 := "self") (pv := "parties") (fun _ => rfl) (fun _ _ _ => rfl)) (fun cdv A outer s H E hr => ?_)
  refine ⟨_, (pss_one (ps_for PassesOwn.never rfl (kx_pTup K.K rfl (pv 1)) (pg_name (i := 2) sc_Trail__are_dishonest.nd rfl (Or.inl rfl)) (pss_one (ps_dput hr.unit1 (kx_fld K.K rfl (pv 0) rfl) (pv 2) pe_bl rfl)))), ?_⟩
  rintro C xs R cl ⟨A, W, ns, rfl, h, hz, q⟩
  refine ds_for1 (fun i Δ C' => Δ = [some (Ax.ref A.w), some (T (ns.map .int)), none] ∧ Only A.own C C' ∧ TrAt C' CL_Trail A (blmM W (ns.take i))) (ui_tupD (pu_var rfl)) ⟨_, ?_, rfl, Only.refl, h⟩ (fun _ _ _ _ => trivial) ?_ ?_
  · exact ⟨rfl, rfl, trivial⟩
  · rintro i x Δ C' hx ⟨rfl, o1, h1⟩
    obtain ⟨d, hd, rfl⟩ := datget hx
    obtain ⟨v, hv, rfl⟩ := mapget hd
    have il := (List.getElem?_eq_some_iff.mp hv).1
    have bl := blame_len (ns.take i) W.liars
    rw [List.length_take] at bl
    refine ⟨_, _, tg_name, ?_⟩
    refine ds_dput (rest := tNext) (k := .inl v) pu_bl (pu_fld (pu_var rfl) h1.ins CT_Trail.cl (CT_Trail.no _ (by simp)) tr_liars) (pu_var rfl) h1.li ?_ (ds_next ⟨_, ?_, rfl, o1.put own_li, ?_⟩)
    · show (liD (blameM W.liars (ns.take i))).length < 100000
      unfold liD
      rw [List.length_map]
      omega
    · exact ⟨rfl, rfl, trivial⟩
    · rw [setK_li]
      have h2 := h1.setLi (blameM W.liars (ns.take (i + 1)))
      have e1 : blameM W.liars (ns.take (i + 1)) = if v ∈ blameM W.liars (ns.take i) then blameM W.liars (ns.take i) else blameM W.liars (ns.take i) ++ [v] := by
        rw [List.take_add_one, hv]
        exact blame_snoc _ _ _
      have e2 : (blmM W (ns.take i)).liars = blameM W.liars (ns.take i) := rfl
      rw [e2, ← e1]
      exact h2
  · rintro Γ' Δ C' l ⟨rfl, o1, h1⟩
    rw [List.length_map, List.length_map, List.take_length] at h1
    exact rt_keep (q _ o1 h1)

abbrev s_Trail__move : Stmt := inClass (topS 8) 17
abbrev N_Trail__move : List Str := ["self", "giver", "taker", "kind", "amount"]
theorem sc_Trail__move : FnScope N_Trail__move ["self", "giver", "taker", "kind", "amount"] (defScope s_Trail__move) := ⟨rfl, rfl, rfl, by decide +kernel, rfl, by decide +kernel, by decide +kernel⟩

theorem ok_Trail__move {RC fI : Addr} {fdI : FuncData} (RT : RefT K mg base RC fI fdI) {CL_Trail : Addr} (CT_Trail : ClsT K mg CL_Trail "Trail" ["_kinds", "_parties", "_have", "_files", "_finds", "_events", "_given", "_liars"]) {f_Trail__move : Addr} {fd_Trail__move : FuncData} (F_Trail__move : Fun K.K "_move" "Trail._move" s_Trail__move f_Trail__move fd_Trail__move) {f_Trail__take_away : Addr} {fd_Trail__take_away : FuncData} (F_Trail__take_away : Fun K.K "_take_away" "Trail._take_away" s_Trail__take_away f_Trail__take_away fd_Trail__take_away) (G_Trail__take_away : FnOk K.P K.w K.K mg base (L2.CX K.P K.w) 3 f_Trail__take_away fd_Trail__take_away ["self", "party", "kind", "amount"] (SpX K RC (rel_Trail__take_away CL_Trail))) (b_Trail__take_away : Binds K.K fd_Trail__take_away ["self", "party", "kind", "amount"] []) (M_Trail__take_away : Meth K.K CL_Trail "_take_away" f_Trail__take_away) {f__check_are_two : Addr} {fd__check_are_two : FuncData} (F__check_are_two : Fun K.K "_check_are_two" "_check_are_two" s__check_are_two f__check_are_two fd__check_are_two) (G__check_are_two : FnOk K.P K.w K.K mg base (L2.CX K.P K.w) 3 f__check_are_two fd__check_are_two ["party", "other"] (SpX K RC rel__check_are_two)) (b__check_are_two : Binds K.K fd__check_are_two ["party", "other"] []) (g__check_are_two : mg "_check_are_two" = some (.ref f__check_are_two)) : FnOk K.P K.w K.K mg base (L2.CX K.P K.w) 4 f_Trail__move fd_Trail__move ["self", "giver", "taker", "kind", "amount"] (SpX K RC (rel_Trail__move CL_Trail)) := by
  refine ok_defX F_Trail__move sc_Trail__move (fun C xs R EX h => by obtain ⟨_, _, _, _, _, _, _, rfl, _⟩ := h; rfl) (fun cdv A outer s H E hr => ?_)
  refine ⟨_, (pss_cons (ps_expr (pe_callS G__check_are_two (hr.mono (by decide)) (by rfl) g__check_are_two F__check_are_two.kp b__check_are_two (fun σ => passAt (takes_of rfl rfl rfl rfl) σ) (pa_cons (pv 1) (pa_cons (pv 2) pa_nil))))
  (pss_cons (ps_expr (pe_methX (pv 0) CT_Trail.cl M_Trail__take_away G_Trail__take_away (hr.mono (by decide)) b_Trail__take_away (fun σ => passAt (takes_of rfl rfl rfl rfl) σ) (pa_cons (pv 1) (pa_cons (pv 3) (pa_cons (pv 4) pa_nil)))))
  (pss_one (ps_augS (pe_ix (kx_ixL K.K rfl) (kx_fld K.K rfl (pv 0) rfl) (pv 2) (fun _ _ => rfl)) (pv 3) (kx_getL K.K rfl) (pv 4) ip_add set_list)))), ?_⟩
  rintro C xs R EX cl ⟨A, W, b, g, t, k, a, rfl, ⟨h, ok, hb⟩, ⟨g0, g1⟩, ⟨t0, t1⟩, ⟨k0, k1⟩, q1, q2, q⟩
  refine ds_dropX (P := fun x C' => g ≠ t ∧ C' = C) (EX := fun s => g = t ∧ s = "same party") (fun _ h => rsN h) cl (fun _ _ h => h) (au_cons (pu_var rfl) (au_cons (pu_var rfl) au_nil)) ⟨g, t, rfl, fun e => ⟨e, rfl⟩, fun e => ⟨e, rfl⟩⟩ (fun s hs => by rw [hs.2]; exact q1 hs.1) ?_
  rintro _ C0 ⟨ne, e0⟩
  rw [e0]
  clear e0 C0
  refine ds_dropM (ex_meth (P := fun x C' => a ≤ getM W.stock g k ∧ Only A.own C C' ∧ TrAt C' CL_Trail A { W with stock := addM W.stock g k (-a) }) (EX := fun s => getM W.stock g k < a ∧ s = "not enough waste") (fun _ h => rsN h) cl (fun _ _ h => h) (pu_var rfl) h.ins (by rfl) (au_cons (pu_var rfl) (au_cons (pu_var rfl) (au_cons (pu_var rfl) au_nil))) ⟨A, W, b, g, k, a, rfl, ⟨h, ok, hb⟩, ⟨g0, g1⟩, ⟨k0, k1⟩, fun e => ⟨e, rfl⟩, fun e C' o h' => ⟨e, o, h'⟩⟩ (fun s hs => by rw [hs.2]; exact q2 ne hs.1)) ?_
  rintro _ C1 ⟨hle, o1, h1⟩
  have S2 := ok.st.add (p := g) (k := k) (a := -a) (by omega)
  exact ds_tst (rest := tNext) (a := a) h1 S2 t0 t1 k0 k1 rfl (pu_fld (pu_var rfl) h1.ins CT_Trail.cl (CT_Trail.no _ (by simp)) tr_have) (pu_var rfl) (pu_var rfl) (pu_var rfl) fun C' o h' => ds_next (rt_keep (q ne hle C' (o1.trans o) h'))

end
end K40

set_option maxHeartbeats 40000000
namespace K40
open PySem PySem.Spec PyProof.Rows L2 Ab Lm Hm Wda
open Trl
section
variable {K : Kw} {mg : Str → Option Value} {base : Heap}
abbrev s_Trail_make : Stmt := inClass (topS 8) 1
abbrev N_Trail_make : List Str := ["self", "party", "kind", "amount"]
theorem sc_Trail_make : FnScope N_Trail_make ["self", "party", "kind", "amount"] (defScope s_Trail_make) := ⟨rfl, rfl, rfl, by decide +kernel, rfl, by decide +kernel, by decide +kernel⟩

theorem ok_Trail_make {RC fI : Addr} {fdI : FuncData} (RT : RefT K mg base RC fI fdI) {CL_Trail : Addr} (CT_Trail : ClsT K mg CL_Trail "Trail" ["_kinds", "_parties", "_have", "_files", "_finds", "_events", "_given", "_liars"]) {f_Trail_make : Addr} {fd_Trail_make : FuncData} (F_Trail_make : Fun K.K "make" "Trail.make" s_Trail_make f_Trail_make fd_Trail_make) {f_Trail__check_makes : Addr} {fd_Trail__check_makes : FuncData} (F_Trail__check_makes : Fun K.K "_check_makes" "Trail._check_makes" s_Trail__check_makes f_Trail__check_makes fd_Trail__check_makes) (G_Trail__check_makes : FnOk K.P K.w K.K mg base (L2.CX K.P K.w) 3 f_Trail__check_makes fd_Trail__check_makes ["self", "party"] (SpX K RC (rel_Trail__check_makes CL_Trail))) (b_Trail__check_makes : Binds K.K fd_Trail__check_makes ["self", "party"] []) (M_Trail__check_makes : Meth K.K CL_Trail "_check_makes" f_Trail__check_makes) {f_Trail__happen_openly : Addr} {fd_Trail__happen_openly : FuncData} (F_Trail__happen_openly : Fun K.K "_happen_openly" "Trail._happen_openly" s_Trail__happen_openly f_Trail__happen_openly fd_Trail__happen_openly) (G_Trail__happen_openly : FnR K.P K.w K.K mg base CX0 3 f_Trail__happen_openly (SpG K (starR 2 (rel_Trail__happen_openly CL_Trail)))) (M_Trail__happen_openly : Meth K.K CL_Trail "_happen_openly" f_Trail__happen_openly) : FnOk K.P K.w K.K mg base (L2.CX K.P K.w) 4 f_Trail_make fd_Trail_make ["self", "party", "kind", "amount"] (SpX K RC (rel_Trail_make CL_Trail)) := by
  refine ok_defX F_Trail_make sc_Trail_make (fun C xs R EX h => by obtain ⟨_, _, _, _, _, _, rfl, _⟩ := h; rfl) (fun cdv A outer s H E hr => ?_)
  refine ⟨_, (pss_cons (ps_expr (pe_methX (pv 0) CT_Trail.cl M_Trail__check_makes G_Trail__check_makes (hr.mono (by decide)) b_Trail__check_makes (fun σ => passAt (takes_of rfl rfl rfl rfl) σ) (pa_cons (pv 1) pa_nil)))
  (pss_cons (ps_augS (pe_ix (kx_ixL K.K rfl) (kx_fld K.K rfl (pv 0) rfl) (pv 1) (fun _ _ => rfl)) (pv 2) (kx_getL K.K rfl) (pv 3) ip_add set_list)
  (pss_one (ps_ret (kx_methR (pv 0) CT_Trail.cl M_Trail__happen_openly G_Trail__happen_openly (hr.mono (by decide)) pass0 (pa_cons pe_str (pa_cons (pv 1) (pa_cons (pv 2) (pa_cons (pv 3) pa_nil))))))))), ?_⟩
  rintro C xs R EX cl ⟨A, W, b, p, k, a, rfl, X, ⟨p0, p1⟩, ⟨k0, k1⟩, qe, q⟩
  obtain ⟨h, ok, hb⟩ := id X
  have evl : W.events.length < 90000 := by have := ok.ev; omega
  refine ds_dropM (ex_meth (P := fun x C' => (pfAt W.pf p).1 = true ∧ C' = C) (EX := fun s => (pfAt W.pf p).1 = false ∧ s = "party does not make waste") (fun _ h => rsN h) cl (fun _ _ h => h) (pu_var rfl) h.ins (by rfl) (au_cons (pu_var rfl) au_nil) ⟨A, W, b, p, rfl, X, ⟨p0, p1⟩, fun e => ⟨e, rfl⟩, fun e => ⟨e, rfl⟩⟩ (fun s hs => by rw [hs.2]; exact qe hs.1)) ?_
  rintro _ C0 ⟨mk, e0⟩
  rw [e0]
  clear e0 C0
  refine ds_tst (a := a) h ok.st p0 p1 k0 k1 rfl (pu_fld (pu_var rfl) h.ins CT_Trail.cl (CT_Trail.no _ (by simp)) tr_have) (pu_var rfl) (pu_var rfl) (pu_var rfl) fun C1 o1 h1 => ?_
  exact ds_retE (ev_methR (P := fun x C' => x = I (W.last + 1) ∧ Only A.own C1 C' ∧ TrAt C' CL_Trail A (makM W p k a)) (pu_var rfl) h1.ins (by rfl) (au_cons pu_str (au_cons (pu_var rfl) (au_cons (pu_var rfl) (au_cons (pu_var rfl) au_nil)))) ⟨[Ax.ref A.w, S "made"], [.int p, .int k, .int a], rfl, rfl, by simp, A, { W with stock := addM W.stock p k a }, "made", [.int p, .int k, .int a], (.own "made" (W.last + 1) p k a), rfl, rfl, by simp, h1, ok.fl, X.fb, evl, (show ("made" : Str) ∈ (["made", "treated", "found"] : List Str) by simp), evp_own ⟨p0, p1⟩, fun C' o h' => ⟨rfl, o, Eq.mp (congrArg (TrAt C' CL_Trail A) (open_made { W with stock := addM W.stock p k a } p k a)) h'⟩⟩) fun x C' ⟨e, o, h'⟩ => by
    subst e
    exact rt_keep (q mk C' (o1.trans o) h')

abbrev s_Trail_treat : Stmt := inClass (topS 8) 2
abbrev N_Trail_treat : List Str := ["self", "party", "kind", "amount"]
theorem sc_Trail_treat : FnScope N_Trail_treat ["self", "party", "kind", "amount"] (defScope s_Trail_treat) := ⟨rfl, rfl, rfl, by decide +kernel, rfl, by decide +kernel, by decide +kernel⟩

theorem ok_Trail_treat {RC fI : Addr} {fdI : FuncData} (RT : RefT K mg base RC fI fdI) {CL_Trail : Addr} (CT_Trail : ClsT K mg CL_Trail "Trail" ["_kinds", "_parties", "_have", "_files", "_finds", "_events", "_given", "_liars"]) {f_Trail_treat : Addr} {fd_Trail_treat : FuncData} (F_Trail_treat : Fun K.K "treat" "Trail.treat" s_Trail_treat f_Trail_treat fd_Trail_treat) {f_Trail__happen_openly : Addr} {fd_Trail__happen_openly : FuncData} (F_Trail__happen_openly : Fun K.K "_happen_openly" "Trail._happen_openly" s_Trail__happen_openly f_Trail__happen_openly fd_Trail__happen_openly) (G_Trail__happen_openly : FnR K.P K.w K.K mg base CX0 3 f_Trail__happen_openly (SpG K (starR 2 (rel_Trail__happen_openly CL_Trail)))) (M_Trail__happen_openly : Meth K.K CL_Trail "_happen_openly" f_Trail__happen_openly) {f_Trail__take_away : Addr} {fd_Trail__take_away : FuncData} (F_Trail__take_away : Fun K.K "_take_away" "Trail._take_away" s_Trail__take_away f_Trail__take_away fd_Trail__take_away) (G_Trail__take_away : FnOk K.P K.w K.K mg base (L2.CX K.P K.w) 3 f_Trail__take_away fd_Trail__take_away ["self", "party", "kind", "amount"] (SpX K RC (rel_Trail__take_away CL_Trail))) (b_Trail__take_away : Binds K.K fd_Trail__take_away ["self", "party", "kind", "amount"] []) (M_Trail__take_away : Meth K.K CL_Trail "_take_away" f_Trail__take_away) : FnOk K.P K.w K.K mg base (L2.CX K.P K.w) 4 f_Trail_treat fd_Trail_treat ["self", "party", "kind", "amount"] (SpX K RC (rel_Trail_treat CL_Trail)) := by
  refine ok_defX F_Trail_treat sc_Trail_treat (fun C xs R EX h => by obtain ⟨_, _, _, _, _, _, rfl, _⟩ := h; rfl) (fun cdv A outer s H E hr => ?_)
  refine ⟨_, (pss_cons (ps_if (pt_not (pt_val (pe_ix (kx_ixT K.K rfl) (pe_ix (kx_ixT K.K rfl) (kx_fld K.K rfl (pv 0) rfl) (pv 1) (fun _ _ => rfl)) pe_int (fun _ _ => rfl)))) (pss_one (ps_raise rfl (takes_of rfl rfl rfl rfl) (pmk_oex RT.T RT.iC RT.tI RT.F1 (hr.mono (by decide)) RT.hb .nil pass0 (by rfl) RT.gC (pa_cons pe_str pa_nil)))) pss_nil)
  (pss_cons (ps_expr (pe_methX (pv 0) CT_Trail.cl M_Trail__take_away G_Trail__take_away (hr.mono (by decide)) b_Trail__take_away (fun σ => passAt (takes_of rfl rfl rfl rfl) σ) (pa_cons (pv 1) (pa_cons (pv 2) (pa_cons (pv 3) pa_nil)))))
  (pss_one (ps_ret (kx_methR (pv 0) CT_Trail.cl M_Trail__happen_openly G_Trail__happen_openly (hr.mono (by decide)) pass0 (pa_cons pe_str (pa_cons (pv 1) (pa_cons (pv 2) (pa_cons (pv 3) pa_nil))))))))), ?_⟩
  rintro C xs R EX cl ⟨A, W, b, p, k, a, rfl, X, ⟨p0, p1⟩, ⟨k0, k1⟩, qe, qe2, q⟩
  obtain ⟨h, ok, hb⟩ := id X
  have evl : W.events.length < 90000 := by have := ok.ev; omega
  refine ds_ifs (b := !(pfAt W.pf p).2) (ut_not (ut_B (pu_ixT (ds := [.bool (pfAt W.pf p).1, .bool (pfAt W.pf p).2]) (pu_ixT (pu_fld (pu_var rfl) h.ins CT_Trail.cl (CT_Trail.no _ (by simp)) tr_parties) (pu_var rfl) (pf_get p0 p1)) pu_int rfl))) (fun hc => ds_raiseS (fun _ h => h) cl (fun _ _ h => h) pu_str (qe (by simpa using hc))) (fun hc => ds_nextseq ?_)
  have mk : (pfAt W.pf p).2 = true := by simpa using hc
  refine ds_dropM (ex_meth (P := fun x C' => a ≤ getM W.stock p k ∧ Only A.own C C' ∧ TrAt C' CL_Trail A { W with stock := addM W.stock p k (-a) }) (EX := fun s => getM W.stock p k < a ∧ s = "not enough waste") (fun _ h => rsN h) cl (fun _ _ h => h) (pu_var rfl) h.ins (by rfl) (au_cons (pu_var rfl) (au_cons (pu_var rfl) (au_cons (pu_var rfl) au_nil))) ⟨A, W, b, p, k, a, rfl, X, ⟨p0, p1⟩, ⟨k0, k1⟩, fun e => ⟨e, rfl⟩, fun e C' o h' => ⟨e, o, h'⟩⟩ (fun s hs => by rw [hs.2]; exact qe2 mk hs.1)) ?_
  rintro _ C1 ⟨hle, o1, h1⟩
  exact ds_retE (ev_methR (P := fun x C' => x = I (W.last + 1) ∧ Only A.own C1 C' ∧ TrAt C' CL_Trail A (treM W p k a)) (pu_var rfl) h1.ins (by rfl) (au_cons pu_str (au_cons (pu_var rfl) (au_cons (pu_var rfl) (au_cons (pu_var rfl) au_nil)))) ⟨[Ax.ref A.w, S "treated"], [.int p, .int k, .int a], rfl, rfl, by simp, A, { W with stock := addM W.stock p k (-a) }, "treated", [.int p, .int k, .int a], (.own "treated" (W.last + 1) p k a), rfl, rfl, by simp, h1, ok.fl, X.fb, evl, (show ("treated" : Str) ∈ (["made", "treated", "found"] : List Str) by simp), evp_own ⟨p0, p1⟩, fun C' o h' => ⟨rfl, o, Eq.mp (congrArg (TrAt C' CL_Trail A) (open_treated { W with stock := addM W.stock p k (-a) } p k a)) h'⟩⟩) fun x C' ⟨e, o, h'⟩ => by
    subst e
    exact rt_keep (q mk hle C' (o1.trans o) h')

abbrev s_Trail_hand : Stmt := inClass (topS 8) 3
abbrev N_Trail_hand : List Str := ["self", "giver", "taker", "kind", "amount", "sealed"]
theorem sc_Trail_hand : FnScope N_Trail_hand ["self", "giver", "taker", "kind", "amount", "sealed"] (defScope s_Trail_hand) := ⟨rfl, rfl, rfl, by decide +kernel, rfl, by decide +kernel, by decide +kernel⟩

theorem ok_Trail_hand {RC fI : Addr} {fdI : FuncData} (RT : RefT K mg base RC fI fdI) {CL_Trail : Addr} (CT_Trail : ClsT K mg CL_Trail "Trail" ["_kinds", "_parties", "_have", "_files", "_finds", "_events", "_given", "_liars"]) {f_Trail_hand : Addr} {fd_Trail_hand : FuncData} (F_Trail_hand : Fun K.K "hand" "Trail.hand" s_Trail_hand f_Trail_hand fd_Trail_hand) {f_Trail__happen_openly : Addr} {fd_Trail__happen_openly : FuncData} (F_Trail__happen_openly : Fun K.K "_happen_openly" "Trail._happen_openly" s_Trail__happen_openly f_Trail__happen_openly fd_Trail__happen_openly) (G_Trail__happen_openly : FnR K.P K.w K.K mg base CX0 3 f_Trail__happen_openly (SpG K (starR 2 (rel_Trail__happen_openly CL_Trail)))) (M_Trail__happen_openly : Meth K.K CL_Trail "_happen_openly" f_Trail__happen_openly) {f_Trail__move : Addr} {fd_Trail__move : FuncData} (F_Trail__move : Fun K.K "_move" "Trail._move" s_Trail__move f_Trail__move fd_Trail__move) (G_Trail__move : FnOk K.P K.w K.K mg base (L2.CX K.P K.w) 4 f_Trail__move fd_Trail__move ["self", "giver", "taker", "kind", "amount"] (SpX K RC (rel_Trail__move CL_Trail))) (b_Trail__move : Binds K.K fd_Trail__move ["self", "giver", "taker", "kind", "amount"] []) (M_Trail__move : Meth K.K CL_Trail "_move" f_Trail__move) : FnOk K.P K.w K.K mg base (L2.CX K.P K.w) 5 f_Trail_hand fd_Trail_hand ["self", "giver", "taker", "kind", "amount", "sealed"] (SpX K RC (rel_Trail_hand CL_Trail)) := by
  refine ok_defX F_Trail_hand sc_Trail_hand (fun C xs R EX h => by obtain ⟨_, _, _, _, _, _, _, _, rfl, _⟩ := h; rfl) (fun cdv A outer s H E hr => ?_)
  refine ⟨_, (pss_cons (ps_expr (pe_methX (pv 0) CT_Trail.cl M_Trail__move G_Trail__move (hr.mono (by decide)) b_Trail__move (fun σ => passAt (takes_of rfl rfl rfl rfl) σ) (pa_cons (pv 1) (pa_cons (pv 2) (pa_cons (pv 3) (pa_cons (pv 4) pa_nil))))))
  (pss_one (ps_ret (kx_methR (pv 0) CT_Trail.cl M_Trail__happen_openly G_Trail__happen_openly (hr.mono (by decide)) pass0 (pa_cons pe_str (pa_cons (pv 1) (pa_cons (pv 2) (pa_cons (pv 3) (pa_cons (pv 4) (pa_cons (pv 5) pa_nil)))))))))), ?_⟩
  rintro C xs R EX cl ⟨A, W, b, g, t, k, a, sl, rfl, X, ⟨g0, g1⟩, ⟨t0, t1⟩, ⟨k0, k1⟩, q1, q2, q⟩
  obtain ⟨h, ok, hb⟩ := id X
  have evl : W.events.length < 90000 := by have := ok.ev; omega
  refine ds_dropM (ex_meth (P := fun x C' => g ≠ t ∧ a ≤ getM W.stock g k ∧ Only A.own C C' ∧ TrAt C' CL_Trail A { W with stock := addM (addM W.stock g k (-a)) t k a }) (EX := fun s => (g = t ∧ s = "same party") ∨ (g ≠ t ∧ getM W.stock g k < a ∧ s = "not enough waste")) (fun _ h => rsN h) cl (fun _ _ h => h) (pu_var rfl) h.ins (by rfl) (au_cons (pu_var rfl) (au_cons (pu_var rfl) (au_cons (pu_var rfl) (au_cons (pu_var rfl) au_nil)))) ⟨A, W, b, g, t, k, a, rfl, X, ⟨g0, g1⟩, ⟨t0, t1⟩, ⟨k0, k1⟩, fun e => .inl ⟨e, rfl⟩, fun e e' => .inr ⟨e, e', rfl⟩, fun e e' C' o h' => ⟨e, e', o, h'⟩⟩ (fun s hs => by
    rcases hs with ⟨h1, h2⟩ | ⟨h1, h2, h3⟩
    · rw [h2]; exact q1 h1
    · rw [h3]; exact q2 h1 h2)) ?_
  rintro _ C1 ⟨ne, hle, o1, h1⟩
  exact ds_retE (ev_methR (P := fun x C' => x = I (W.last + 1) ∧ Only A.own C1 C' ∧ TrAt C' CL_Trail A (hanM W g t k a sl)) (pu_var rfl) h1.ins (by rfl) (au_cons pu_str (au_cons (pu_var rfl) (au_cons (pu_var rfl) (au_cons (pu_var rfl) (au_cons (pu_var rfl) (au_cons (pu_var rfl) au_nil)))))) ⟨[Ax.ref A.w, S "handed"], [.int g, .int t, .int k, .int a, .bool sl], rfl, rfl, by simp, A, { W with stock := addM (addM W.stock g k (-a)) t k a }, "handed", [.int g, .int t, .int k, .int a, .bool sl], (.hand (W.last + 1) g t k a sl), rfl, rfl, by simp, h1, ok.fl, X.fb, evl, trivial, evp_hand ⟨g0, g1⟩ ⟨t0, t1⟩, fun C' o h' => ⟨rfl, o, h'⟩⟩) fun x C' ⟨e, o, h'⟩ => by
    subst e
    exact rt_keep (q ne hle C' (o1.trans o) h')

abbrev s_Trail_inspect : Stmt := inClass (topS 8) 4
abbrev N_Trail_inspect : List Str := ["self", "party", "kind", "amount", "number"]
theorem sc_Trail_inspect : FnScope N_Trail_inspect ["self", "party", "kind"] (defScope s_Trail_inspect) := ⟨rfl, rfl, rfl, by decide +kernel, rfl, by decide +kernel, by decide +kernel⟩

theorem ok_Trail_inspect {CL_Trail : Addr} (CT_Trail : ClsT K mg CL_Trail "Trail" ["_kinds", "_parties", "_have", "_files", "_finds", "_events", "_given", "_liars"]) {f_Trail_inspect : Addr} {fd_Trail_inspect : FuncData} (F_Trail_inspect : Fun K.K "inspect" "Trail.inspect" s_Trail_inspect f_Trail_inspect fd_Trail_inspect) {f_Trail__happen_openly : Addr} {fd_Trail__happen_openly : FuncData} (F_Trail__happen_openly : Fun K.K "_happen_openly" "Trail._happen_openly" s_Trail__happen_openly f_Trail__happen_openly fd_Trail__happen_openly) (G_Trail__happen_openly : FnR K.P K.w K.K mg base CX0 3 f_Trail__happen_openly (SpG K (starR 2 (rel_Trail__happen_openly CL_Trail)))) (M_Trail__happen_openly : Meth K.K CL_Trail "_happen_openly" f_Trail__happen_openly) : FnOk K.P K.w K.K mg base CX0 4 f_Trail_inspect fd_Trail_inspect ["self", "party", "kind"] (SpG K (rel_Trail_inspect CL_Trail)) := by
  refine ok_def F_Trail_inspect sc_Trail_inspect (fun C xs R h => by obtain ⟨_, _, _, _, _, rfl, _⟩ := h; rfl) (fun cdv A outer s H E hr => ?_)
  refine ⟨_, (pss_cons (ps_set (i := 3) sc_Trail_inspect.nd rfl (Or.inl rfl) (pe_ix (kx_ixL K.K rfl) (pe_ix (kx_ixL K.K rfl) (kx_fld K.K rfl (pv 0) rfl) (pv 1) (fun _ _ => rfl)) (pv 2) (fun _ _ => rfl)))
  (pss_cons (ps_set (i := 4) sc_Trail_inspect.nd rfl (Or.inl rfl) (kx_methR (pv 0) CT_Trail.cl M_Trail__happen_openly G_Trail__happen_openly (hr.mono (by decide)) pass0 (pa_cons pe_str (pa_cons (pv 1) (pa_cons (pv 2) (pa_cons (pv 3) pa_nil))))))
  (pss_cons (ps_expr (pe_bm PySem.F.plainAttrs_list PySem.F.slot_list_append PySem.F.type_list_append mt_append (kx_fld K.K rfl (pv 0) rfl) (pa_cons (pe_tup (pa_cons (pv 4) (pa_cons (pv 1) (pa_cons (pv 2) (pa_cons (pv 3) pa_nil))))) pa_nil)))
  (pss_one (ps_ret (pv 3)))))), ?_⟩
  rintro C xs R cl ⟨A, W, b, p, k, rfl, X, ⟨p0, p1⟩, ⟨k0, k1⟩, q⟩
  obtain ⟨h, ok, hb⟩ := id X
  have evl : W.events.length < 90000 := by have := ok.ev; omega
  refine ds_set (pu_tst h ok.st p0 p1 k0 k1 (pu_fld (pu_var rfl) h.ins CT_Trail.cl (CT_Trail.no _ (by simp)) tr_have) (pu_var rfl) (pu_var rfl)) ?_
  refine ds_setE (ev_methR (P := fun x C' => x = I (W.last + 1) ∧ Only A.own C C' ∧ TrAt C' CL_Trail A { W with last := W.last + 1, events := W.events ++ [.own "found" (W.last + 1) p k (getM W.stock p k)] }) (pu_var rfl) h.ins (by rfl) (au_cons pu_str (au_cons (pu_var rfl) (au_cons (pu_var rfl) (au_cons (pu_var rfl) au_nil)))) ⟨[Ax.ref A.w, S "found"], [.int p, .int k, .int (getM W.stock p k)], rfl, rfl, by simp, A, W, "found", [.int p, .int k, .int (getM W.stock p k)], .own "found" (W.last + 1) p k (getM W.stock p k), rfl, rfl, by simp, h, ok.fl, X.fb, evl, (show ("found" : Str) ∈ (["made", "treated", "found"] : List Str) by simp), evp_own ⟨p0, p1⟩, fun C' o h' => ⟨rfl, o, Eq.mp (congrArg (TrAt C' CL_Trail A) (open_found W p k (getM W.stock p k))) h'⟩⟩) ?_
  rintro _ C1 ⟨rfl, o1, h1⟩
  refine ds_tfd (e := ⟨W.last + 1, p, k, getM W.stock p k⟩) h1 (by have := ok.fn; show W.finds.length < _; omega) (pu_fld (pu_var rfl) h1.ins CT_Trail.cl (CT_Trail.no _ (by simp)) tr_finds) (pu_tup (ds := [.int (W.last + 1), .int p, .int k, .int (getM W.stock p k)]) (au_cons (pu_var rfl) (au_cons (pu_var rfl) (au_cons (pu_var rfl) (au_cons (pu_var rfl) au_nil)))) (lk rfl)) fun C2 o2 h2 => ?_
  exact ds_ret (pu_var rfl) (rt_keep (q C2 (o1.trans o2) h2))

abbrev s_Trail_pass_on : Stmt := inClass (topS 8) 5
abbrev N_Trail_pass_on : List Str := ["self", "giver", "taker", "kind", "amount"]
theorem sc_Trail_pass_on : FnScope N_Trail_pass_on ["self", "giver", "taker", "kind", "amount"] (defScope s_Trail_pass_on) := ⟨rfl, rfl, rfl, by decide +kernel, rfl, by decide +kernel, by decide +kernel⟩

theorem ok_Trail_pass_on {RC fI : Addr} {fdI : FuncData} (RT : RefT K mg base RC fI fdI) {CL_Trail : Addr} (CT_Trail : ClsT K mg CL_Trail "Trail" ["_kinds", "_parties", "_have", "_files", "_finds", "_events", "_given", "_liars"]) {f_Trail_pass_on : Addr} {fd_Trail_pass_on : FuncData} (F_Trail_pass_on : Fun K.K "pass_on" "Trail.pass_on" s_Trail_pass_on f_Trail_pass_on fd_Trail_pass_on) {f_Trail__are_dishonest : Addr} {fd_Trail__are_dishonest : FuncData} (F_Trail__are_dishonest : Fun K.K "_are_dishonest" "Trail._are_dishonest" s_Trail__are_dishonest f_Trail__are_dishonest fd_Trail__are_dishonest) (G_Trail__are_dishonest : FnR K.P K.w K.K mg base CX0 1 f_Trail__are_dishonest (SpG K (starR 1 (rel_Trail__are_dishonest CL_Trail)))) (M_Trail__are_dishonest : Meth K.K CL_Trail "_are_dishonest" f_Trail__are_dishonest) {f_Trail__move : Addr} {fd_Trail__move : FuncData} (F_Trail__move : Fun K.K "_move" "Trail._move" s_Trail__move f_Trail__move fd_Trail__move) (G_Trail__move : FnOk K.P K.w K.K mg base (L2.CX K.P K.w) 4 f_Trail__move fd_Trail__move ["self", "giver", "taker", "kind", "amount"] (SpX K RC (rel_Trail__move CL_Trail))) (b_Trail__move : Binds K.K fd_Trail__move ["self", "giver", "taker", "kind", "amount"] []) (M_Trail__move : Meth K.K CL_Trail "_move" f_Trail__move) : FnOk K.P K.w K.K mg base (L2.CX K.P K.w) 5 f_Trail_pass_on fd_Trail_pass_on ["self", "giver", "taker", "kind", "amount"] (SpX K RC (rel_Trail_pass_on CL_Trail)) := by
  refine ok_defX F_Trail_pass_on sc_Trail_pass_on (fun C xs R EX h => by obtain ⟨_, _, _, _, _, _, _, rfl, _⟩ := h; rfl) (fun cdv A outer s H E hr => ?_)
  refine ⟨_, (pss_cons (ps_expr (pe_methX (pv 0) CT_Trail.cl M_Trail__move G_Trail__move (hr.mono (by decide)) b_Trail__move (fun σ => passAt (takes_of rfl rfl rfl rfl) σ) (pa_cons (pv 1) (pa_cons (pv 2) (pa_cons (pv 3) (pa_cons (pv 4) pa_nil))))))
  (pss_cons (ps_expr (kx_methR (pv 0) CT_Trail.cl M_Trail__are_dishonest G_Trail__are_dishonest (hr.mono (by decide)) pass0 (pa_cons (pv 1) (pa_cons (pv 2) pa_nil))))
  (pss_one (ps_expr (pe_bm PySem.F.plainAttrs_list PySem.F.slot_list_append PySem.F.type_list_append mt_append (kx_fld K.K rfl (pv 0) rfl) (pa_cons (pe_tup (pa_cons pe_str (pa_cons (pv 1) (pa_cons (pv 2) (pa_cons (pv 3) (pa_cons (pv 4) pa_nil)))))) pa_nil)))))), ?_⟩
  rintro C xs R EX cl ⟨A, W, b, g, t, k, a, rfl, X, ⟨g0, g1⟩, ⟨t0, t1⟩, ⟨k0, k1⟩, q1, q2, q⟩
  obtain ⟨h, ok, hb⟩ := id X
  have evl : W.events.length < 90000 := by have := ok.ev; omega
  refine ds_dropM (ex_meth (P := fun x C' => g ≠ t ∧ a ≤ getM W.stock g k ∧ Only A.own C C' ∧ TrAt C' CL_Trail A { W with stock := addM (addM W.stock g k (-a)) t k a }) (EX := fun s => (g = t ∧ s = "same party") ∨ (g ≠ t ∧ getM W.stock g k < a ∧ s = "not enough waste")) (fun _ h => rsN h) cl (fun _ _ h => h) (pu_var rfl) h.ins (by rfl) (au_cons (pu_var rfl) (au_cons (pu_var rfl) (au_cons (pu_var rfl) (au_cons (pu_var rfl) au_nil)))) ⟨A, W, b, g, t, k, a, rfl, X, ⟨g0, g1⟩, ⟨t0, t1⟩, ⟨k0, k1⟩, fun e => .inl ⟨e, rfl⟩, fun e e' => .inr ⟨e, e', rfl⟩, fun e e' C' o h' => ⟨e, e', o, h'⟩⟩ (fun s hs => by
    rcases hs with ⟨h1, h2⟩ | ⟨h1, h2, h3⟩
    · rw [h2]; exact q1 h1
    · rw [h3]; exact q2 h1 h2)) ?_
  rintro _ C1 ⟨ne, hle, o1, h1⟩
  refine ds_drop (ev_methR (P := fun x C' => Only A.own C1 C' ∧ TrAt C' CL_Trail A (blmM { W with stock := addM (addM W.stock g k (-a)) t k a } [g, t])) (pu_var rfl) h1.ins (by rfl) (au_cons (pu_var rfl) (au_cons (pu_var rfl) au_nil)) ⟨[Ax.ref A.w], [.int g, .int t], rfl, rfl, by simp, A, { W with stock := addM (addM W.stock g k (-a)) t k a }, [g, t], rfl, h1, by have := ok.li; show W.liars.length + 2 < 90000; omega, fun C' o h' => ⟨o, h'⟩⟩) ?_
  rintro _ C2 ⟨o2, h2⟩
  exact ds_tev (rest := tNext) (e := .pass g t k a) h2 (by show W.events.length < _; omega) (pu_fld (pu_var rfl) h2.ins CT_Trail.cl (CT_Trail.no _ (by simp)) tr_events) (pu_tup (ds := [.str "passed", .int g, .int t, .int k, .int a]) (au_cons pu_str (au_cons (pu_var rfl) (au_cons (pu_var rfl) (au_cons (pu_var rfl) (au_cons (pu_var rfl) au_nil))))) (lk rfl)) fun C3 o3 h3 => ds_next (rt_keep (q ne hle C3 ((o1.trans o2).trans o3) h3))

abbrev s_Trail_dump : Stmt := inClass (topS 8) 6
abbrev N_Trail_dump : List Str := ["self", "party", "kind", "amount"]
theorem sc_Trail_dump : FnScope N_Trail_dump ["self", "party", "kind", "amount"] (defScope s_Trail_dump) := ⟨rfl, rfl, rfl, by decide +kernel, rfl, by decide +kernel, by decide +kernel⟩

theorem ok_Trail_dump {RC fI : Addr} {fdI : FuncData} (RT : RefT K mg base RC fI fdI) {CL_Trail : Addr} (CT_Trail : ClsT K mg CL_Trail "Trail" ["_kinds", "_parties", "_have", "_files", "_finds", "_events", "_given", "_liars"]) {f_Trail_dump : Addr} {fd_Trail_dump : FuncData} (F_Trail_dump : Fun K.K "dump" "Trail.dump" s_Trail_dump f_Trail_dump fd_Trail_dump) {f_Trail__are_dishonest : Addr} {fd_Trail__are_dishonest : FuncData} (F_Trail__are_dishonest : Fun K.K "_are_dishonest" "Trail._are_dishonest" s_Trail__are_dishonest f_Trail__are_dishonest fd_Trail__are_dishonest) (G_Trail__are_dishonest : FnR K.P K.w K.K mg base CX0 1 f_Trail__are_dishonest (SpG K (starR 1 (rel_Trail__are_dishonest CL_Trail)))) (M_Trail__are_dishonest : Meth K.K CL_Trail "_are_dishonest" f_Trail__are_dishonest) {f_Trail__take_away : Addr} {fd_Trail__take_away : FuncData} (F_Trail__take_away : Fun K.K "_take_away" "Trail._take_away" s_Trail__take_away f_Trail__take_away fd_Trail__take_away) (G_Trail__take_away : FnOk K.P K.w K.K mg base (L2.CX K.P K.w) 3 f_Trail__take_away fd_Trail__take_away ["self", "party", "kind", "amount"] (SpX K RC (rel_Trail__take_away CL_Trail))) (b_Trail__take_away : Binds K.K fd_Trail__take_away ["self", "party", "kind", "amount"] []) (M_Trail__take_away : Meth K.K CL_Trail "_take_away" f_Trail__take_away) : FnOk K.P K.w K.K mg base (L2.CX K.P K.w) 4 f_Trail_dump fd_Trail_dump ["self", "party", "kind", "amount"] (SpX K RC (rel_Trail_dump CL_Trail)) := by
  refine ok_defX F_Trail_dump sc_Trail_dump (fun C xs R EX h => by obtain ⟨_, _, _, _, _, _, rfl, _⟩ := h; rfl) (fun cdv A outer s H E hr => ?_)
  refine ⟨_, (pss_cons (ps_expr (pe_methX (pv 0) CT_Trail.cl M_Trail__take_away G_Trail__take_away (hr.mono (by decide)) b_Trail__take_away (fun σ => passAt (takes_of rfl rfl rfl rfl) σ) (pa_cons (pv 1) (pa_cons (pv 2) (pa_cons (pv 3) pa_nil)))))
  (pss_cons (ps_expr (kx_methR (pv 0) CT_Trail.cl M_Trail__are_dishonest G_Trail__are_dishonest (hr.mono (by decide)) pass0 (pa_cons (pv 1) pa_nil)))
  (pss_one (ps_expr (pe_bm PySem.F.plainAttrs_list PySem.F.slot_list_append PySem.F.type_list_append mt_append (kx_fld K.K rfl (pv 0) rfl) (pa_cons (pe_tup (pa_cons pe_str (pa_cons (pv 1) (pa_cons (pv 2) (pa_cons (pv 3) pa_nil))))) pa_nil)))))), ?_⟩
  rintro C xs R EX cl ⟨A, W, b, p, k, a, rfl, X, ⟨p0, p1⟩, ⟨k0, k1⟩, qe2, q⟩
  obtain ⟨h, ok, hb⟩ := id X
  have evl : W.events.length < 90000 := by have := ok.ev; omega
  refine ds_dropM (ex_meth (P := fun x C' => a ≤ getM W.stock p k ∧ Only A.own C C' ∧ TrAt C' CL_Trail A { W with stock := addM W.stock p k (-a) }) (EX := fun s => getM W.stock p k < a ∧ s = "not enough waste") (fun _ h => rsN h) cl (fun _ _ h => h) (pu_var rfl) h.ins (by rfl) (au_cons (pu_var rfl) (au_cons (pu_var rfl) (au_cons (pu_var rfl) au_nil))) ⟨A, W, b, p, k, a, rfl, X, ⟨p0, p1⟩, ⟨k0, k1⟩, fun e => ⟨e, rfl⟩, fun e C' o h' => ⟨e, o, h'⟩⟩ (fun s hs => by rw [hs.2]; exact qe2 hs.1)) ?_
  rintro _ C1 ⟨hle, o1, h1⟩
  refine ds_drop (ev_methR (P := fun x C' => Only A.own C1 C' ∧ TrAt C' CL_Trail A (blmM { W with stock := addM W.stock p k (-a) } [p])) (pu_var rfl) h1.ins (by rfl) (au_cons (pu_var rfl) au_nil) ⟨[Ax.ref A.w], [.int p], rfl, rfl, by simp, A, { W with stock := addM W.stock p k (-a) }, [p], rfl, h1, by have := ok.li; show W.liars.length + 1 < 90000; omega, fun C' o h' => ⟨o, h'⟩⟩) ?_
  rintro _ C2 ⟨o2, h2⟩
  exact ds_tev (rest := tNext) (e := .sec "dumped" p k a) h2 (by show W.events.length < _; omega) (pu_fld (pu_var rfl) h2.ins CT_Trail.cl (CT_Trail.no _ (by simp)) tr_events) (pu_tup (ds := [.str "dumped", .int p, .int k, .int a]) (au_cons pu_str (au_cons (pu_var rfl) (au_cons (pu_var rfl) (au_cons (pu_var rfl) au_nil)))) (lk rfl)) fun C3 o3 h3 => ds_next (rt_keep (q hle C3 ((o1.trans o2).trans o3) h3))

abbrev s_Trail_conjure : Stmt := inClass (topS 8) 7
abbrev N_Trail_conjure : List Str := ["self", "party", "kind", "amount"]
theorem sc_Trail_conjure : FnScope N_Trail_conjure ["self", "party", "kind", "amount"] (defScope s_Trail_conjure) := ⟨rfl, rfl, rfl, by decide +kernel, rfl, by decide +kernel, by decide +kernel⟩

theorem ok_Trail_conjure {RC fI : Addr} {fdI : FuncData} (RT : RefT K mg base RC fI fdI) {CL_Trail : Addr} (CT_Trail : ClsT K mg CL_Trail "Trail" ["_kinds", "_parties", "_have", "_files", "_finds", "_events", "_given", "_liars"]) {f_Trail_conjure : Addr} {fd_Trail_conjure : FuncData} (F_Trail_conjure : Fun K.K "conjure" "Trail.conjure" s_Trail_conjure f_Trail_conjure fd_Trail_conjure) {f_Trail__are_dishonest : Addr} {fd_Trail__are_dishonest : FuncData} (F_Trail__are_dishonest : Fun K.K "_are_dishonest" "Trail._are_dishonest" s_Trail__are_dishonest f_Trail__are_dishonest fd_Trail__are_dishonest) (G_Trail__are_dishonest : FnR K.P K.w K.K mg base CX0 1 f_Trail__are_dishonest (SpG K (starR 1 (rel_Trail__are_dishonest CL_Trail)))) (M_Trail__are_dishonest : Meth K.K CL_Trail "_are_dishonest" f_Trail__are_dishonest) {f_Trail__check_makes : Addr} {fd_Trail__check_makes : FuncData} (F_Trail__check_makes : Fun K.K "_check_makes" "Trail._check_makes" s_Trail__check_makes f_Trail__check_makes fd_Trail__check_makes) (G_Trail__check_makes : FnOk K.P K.w K.K mg base (L2.CX K.P K.w) 3 f_Trail__check_makes fd_Trail__check_makes ["self", "party"] (SpX K RC (rel_Trail__check_makes CL_Trail))) (b_Trail__check_makes : Binds K.K fd_Trail__check_makes ["self", "party"] []) (M_Trail__check_makes : Meth K.K CL_Trail "_check_makes" f_Trail__check_makes) : FnOk K.P K.w K.K mg base (L2.CX K.P K.w) 4 f_Trail_conjure fd_Trail_conjure ["self", "party", "kind", "amount"] (SpX K RC (rel_Trail_conjure CL_Trail)) := by
  refine ok_defX F_Trail_conjure sc_Trail_conjure (fun C xs R EX h => by obtain ⟨_, _, _, _, _, _, rfl, _⟩ := h; rfl) (fun cdv A outer s H E hr => ?_)
  refine ⟨_, (pss_cons (ps_expr (pe_methX (pv 0) CT_Trail.cl M_Trail__check_makes G_Trail__check_makes (hr.mono (by decide)) b_Trail__check_makes (fun σ => passAt (takes_of rfl rfl rfl rfl) σ) (pa_cons (pv 1) pa_nil)))
  (pss_cons (ps_augS (pe_ix (kx_ixL K.K rfl) (kx_fld K.K rfl (pv 0) rfl) (pv 1) (fun _ _ => rfl)) (pv 2) (kx_getL K.K rfl) (pv 3) ip_add set_list)
  (pss_cons (ps_expr (kx_methR (pv 0) CT_Trail.cl M_Trail__are_dishonest G_Trail__are_dishonest (hr.mono (by decide)) pass0 (pa_cons (pv 1) pa_nil)))
  (pss_one (ps_expr (pe_bm PySem.F.plainAttrs_list PySem.F.slot_list_append PySem.F.type_list_append mt_append (kx_fld K.K rfl (pv 0) rfl) (pa_cons (pe_tup (pa_cons pe_str (pa_cons (pv 1) (pa_cons (pv 2) (pa_cons (pv 3) pa_nil))))) pa_nil))))))), ?_⟩
  rintro C xs R EX cl ⟨A, W, b, p, k, a, rfl, X, ⟨p0, p1⟩, ⟨k0, k1⟩, qe, q⟩
  obtain ⟨h, ok, hb⟩ := id X
  have evl : W.events.length < 90000 := by have := ok.ev; omega
  refine ds_dropM (ex_meth (P := fun x C' => (pfAt W.pf p).1 = true ∧ C' = C) (EX := fun s => (pfAt W.pf p).1 = false ∧ s = "party does not make waste") (fun _ h => rsN h) cl (fun _ _ h => h) (pu_var rfl) h.ins (by rfl) (au_cons (pu_var rfl) au_nil) ⟨A, W, b, p, rfl, X, ⟨p0, p1⟩, fun e => ⟨e, rfl⟩, fun e => ⟨e, rfl⟩⟩ (fun s hs => by rw [hs.2]; exact qe hs.1)) ?_
  rintro _ C0 ⟨mk, e0⟩
  rw [e0]
  clear e0 C0
  refine ds_tst (a := a) h ok.st p0 p1 k0 k1 rfl (pu_fld (pu_var rfl) h.ins CT_Trail.cl (CT_Trail.no _ (by simp)) tr_have) (pu_var rfl) (pu_var rfl) (pu_var rfl) fun C1 o1 h1 => ?_
  refine ds_drop (ev_methR (P := fun x C' => Only A.own C1 C' ∧ TrAt C' CL_Trail A (blmM { W with stock := addM W.stock p k a } [p])) (pu_var rfl) h1.ins (by rfl) (au_cons (pu_var rfl) au_nil) ⟨[Ax.ref A.w], [.int p], rfl, rfl, by simp, A, { W with stock := addM W.stock p k a }, [p], rfl, h1, by have := ok.li; show W.liars.length + 1 < 90000; omega, fun C' o h' => ⟨o, h'⟩⟩) ?_
  rintro _ C2 ⟨o2, h2⟩
  exact ds_tev (rest := tNext) (e := .sec "conjured" p k a) h2 (by show W.events.length < _; omega) (pu_fld (pu_var rfl) h2.ins CT_Trail.cl (CT_Trail.no _ (by simp)) tr_events) (pu_tup (ds := [.str "conjured", .int p, .int k, .int a]) (au_cons pu_str (au_cons (pu_var rfl) (au_cons (pu_var rfl) (au_cons (pu_var rfl) au_nil)))) (lk rfl)) fun C3 o3 h3 => ds_next (rt_keep (q mk C3 ((o1.trans o2).trans o3) h3))

abbrev s_Trail_sign : Stmt := inClass (topS 8) 8
abbrev N_Trail_sign : List Str := ["self", "giver", "taker", "kind", "amount", "sealed", "number"]
theorem sc_Trail_sign : FnScope N_Trail_sign ["self", "giver", "taker", "kind", "amount", "sealed"] (defScope s_Trail_sign) := ⟨rfl, rfl, rfl, by decide +kernel, rfl, by decide +kernel, by decide +kernel⟩

theorem ok_Trail_sign {RC fI : Addr} {fdI : FuncData} (RT : RefT K mg base RC fI fdI) {CL_Trail : Addr} (CT_Trail : ClsT K mg CL_Trail "Trail" ["_kinds", "_parties", "_have", "_files", "_finds", "_events", "_given", "_liars"]) {f_Trail_sign : Addr} {fd_Trail_sign : FuncData} (F_Trail_sign : Fun K.K "sign" "Trail.sign" s_Trail_sign f_Trail_sign fd_Trail_sign) {f_Trail__are_dishonest : Addr} {fd_Trail__are_dishonest : FuncData} (F_Trail__are_dishonest : Fun K.K "_are_dishonest" "Trail._are_dishonest" s_Trail__are_dishonest f_Trail__are_dishonest fd_Trail__are_dishonest) (G_Trail__are_dishonest : FnR K.P K.w K.K mg base CX0 1 f_Trail__are_dishonest (SpG K (starR 1 (rel_Trail__are_dishonest CL_Trail)))) (M_Trail__are_dishonest : Meth K.K CL_Trail "_are_dishonest" f_Trail__are_dishonest) {f_Trail__next_number : Addr} {fd_Trail__next_number : FuncData} (F_Trail__next_number : Fun K.K "_next_number" "Trail._next_number" s_Trail__next_number f_Trail__next_number fd_Trail__next_number) (G_Trail__next_number : FnOk K.P K.w K.K mg base CX0 1 f_Trail__next_number fd_Trail__next_number ["self"] (SpG K (rel_Trail__next_number CL_Trail))) (b_Trail__next_number : Binds K.K fd_Trail__next_number ["self"] []) (M_Trail__next_number : Meth K.K CL_Trail "_next_number" f_Trail__next_number) {f_Trail__note : Addr} {fd_Trail__note : FuncData} (F_Trail__note : Fun K.K "_note" "Trail._note" s_Trail__note f_Trail__note fd_Trail__note) (G_Trail__note : FnOk K.P K.w K.K mg base CX0 2 f_Trail__note fd_Trail__note ["self", "event"] (SpG K (rel_Trail__note CL_Trail))) (b_Trail__note : Binds K.K fd_Trail__note ["self", "event"] []) (M_Trail__note : Meth K.K CL_Trail "_note" f_Trail__note) {f__check_are_two : Addr} {fd__check_are_two : FuncData} (F__check_are_two : Fun K.K "_check_are_two" "_check_are_two" s__check_are_two f__check_are_two fd__check_are_two) (G__check_are_two : FnOk K.P K.w K.K mg base (L2.CX K.P K.w) 3 f__check_are_two fd__check_are_two ["party", "other"] (SpX K RC rel__check_are_two)) (b__check_are_two : Binds K.K fd__check_are_two ["party", "other"] []) (g__check_are_two : mg "_check_are_two" = some (.ref f__check_are_two)) : FnOk K.P K.w K.K mg base (L2.CX K.P K.w) 4 f_Trail_sign fd_Trail_sign ["self", "giver", "taker", "kind", "amount", "sealed"] (SpX K RC (rel_Trail_sign CL_Trail)) := by
  refine ok_defX F_Trail_sign sc_Trail_sign (fun C xs R EX h => by obtain ⟨_, _, _, _, _, _, _, _, rfl, _⟩ := h; rfl) (fun cdv A outer s H E hr => ?_)
  refine ⟨_, (pss_cons (ps_expr (pe_callS G__check_are_two (hr.mono (by decide)) (by rfl) g__check_are_two F__check_are_two.kp b__check_are_two (fun σ => passAt (takes_of rfl rfl rfl rfl) σ) (pa_cons (pv 1) (pa_cons (pv 2) pa_nil))))
  (pss_cons (ps_expr (kx_methR (pv 0) CT_Trail.cl M_Trail__are_dishonest G_Trail__are_dishonest (hr.mono (by decide)) pass0 (pa_cons (pv 1) (pa_cons (pv 2) pa_nil))))
  (pss_cons (ps_set (i := 6) sc_Trail_sign.nd rfl (Or.inl rfl) (pe_meth0 (pv 0) CT_Trail.cl M_Trail__next_number G_Trail__next_number (hr.mono (by decide)) b_Trail__next_number .nil pass0))
  (pss_cons (ps_expr (pe_meth (pv 0) CT_Trail.cl M_Trail__note G_Trail__note (hr.mono (by decide)) b_Trail__note .nil pass0 (pa_cons (pe_tup (pa_cons pe_str (pa_cons (pv 6) (pa_cons (pv 1) (pa_cons (pv 2) (pa_cons (pv 3) (pa_cons (pv 4) (pa_cons (pv 5) pa_nil)))))))) pa_nil)))
  (pss_one (ps_ret (pv 6))))))), ?_⟩
  rintro C xs R EX cl ⟨A, W, b, g, t, k, a, sl, rfl, X, ⟨g0, g1⟩, ⟨t0, t1⟩, q1, q⟩
  obtain ⟨h, ok, hb⟩ := id X
  have evl : W.events.length < 90000 := by have := ok.ev; omega
  refine (ds_dropX (P := fun x C' => g ≠ t ∧ C' = C) (EX := fun s => g = t ∧ s = "same party") (fun _ h => rsN h) cl (fun _ _ h => h) (au_cons (pu_var rfl) (au_cons (pu_var rfl) au_nil)) ⟨g, t, rfl, fun e => ⟨e, rfl⟩, fun e => ⟨e, rfl⟩⟩ (fun s hs => by rw [hs.2]; exact q1 hs.1) ?_)
  rintro _ C0 ⟨ne, e0⟩
  rw [e0]
  clear e0 C0
  refine ds_drop (ev_methR (P := fun x C' => Only A.own C C' ∧ TrAt C' CL_Trail A (blmM W [g, t])) (pu_var rfl) h.ins (by rfl) (au_cons (pu_var rfl) (au_cons (pu_var rfl) au_nil)) ⟨[Ax.ref A.w], [.int g, .int t], rfl, rfl, by simp, A, W, [g, t], rfl, h, by have := ok.li; show W.liars.length + 2 < 90000; omega, fun C' o h' => ⟨o, h'⟩⟩) ?_
  rintro _ C1 ⟨o1, h1⟩
  refine ds_setE (ev_meth (P := fun x C' => x = I (W.last + 1) ∧ Only A.own C1 C' ∧ TrAt C' CL_Trail A { blmM W [g, t] with last := W.last + 1 }) (pu_var rfl) h1.ins (by rfl) au_nil ⟨A, _, rfl, h1, fun C' o h' => ⟨rfl, o, h'⟩⟩) ?_
  rintro _ C2 ⟨rfl, o2, h2⟩
  refine ds_drop (ev_meth (P := fun x C' => Only A.own C2 C' ∧ TrAt C' CL_Trail A (blmM (notM W g t k a sl) [g, t])) (pu_var rfl) h2.ins (by rfl) (au_cons (pu_tup (ds := [.str "handed", .int (W.last + 1), .int g, .int t, .int k, .int a, .bool sl]) (au_cons pu_str (au_cons (pu_var rfl) (au_cons (pu_var rfl) (au_cons (pu_var rfl) (au_cons (pu_var rfl) (au_cons (pu_var rfl) (au_cons (pu_var rfl) au_nil))))))) (lk rfl)) au_nil) ⟨A, _, .hand (W.last + 1) g t k a sl, rfl, h2, ok.fl, X.fb, trivial, evp_hand ⟨g0, g1⟩ ⟨t0, t1⟩, fun C' o h' => ⟨o, h'⟩⟩) ?_
  rintro _ C3 ⟨o3, h3⟩
  exact ds_ret (pu_var rfl) (rt_keep (q ne C3 ((o1.trans o2).trans o3) h3))

end
end K40

set_option maxHeartbeats 40000000
namespace K40
open PySem PySem.Spec PyProof.Rows L2 Ab Lm Hm Wda
open Trl
section
variable {K : Kw} {mg : Str → Option Value} {base : Heap}
abbrev s_Trail_write : Stmt := inClass (topS 8) 9
abbrev N_Trail_write : List Str := ["self", "party", "deed", "kind", "amount", "other", "named", "number"]
theorem sc_Trail_write : FnScope N_Trail_write ["self", "party", "deed", "kind", "amount", "other"] (defScope s_Trail_write) := ⟨rfl, rfl, rfl, by decide +kernel, rfl, by decide +kernel, by decide +kernel⟩

theorem ok_Trail_write {RC fI : Addr} {fdI : FuncData} (RT : RefT K mg base RC fI fdI) {CL_Trail : Addr} (CT_Trail : ClsT K mg CL_Trail "Trail" ["_kinds", "_parties", "_have", "_files", "_finds", "_events", "_given", "_liars"]) {f_Trail_write : Addr} {fd_Trail_write : FuncData} (F_Trail_write : Fun K.K "write" "Trail.write" s_Trail_write f_Trail_write fd_Trail_write) {f_Trail__are_dishonest : Addr} {fd_Trail__are_dishonest : FuncData} (F_Trail__are_dishonest : Fun K.K "_are_dishonest" "Trail._are_dishonest" s_Trail__are_dishonest f_Trail__are_dishonest fd_Trail__are_dishonest) (G_Trail__are_dishonest : FnR K.P K.w K.K mg base CX0 1 f_Trail__are_dishonest (SpG K (starR 1 (rel_Trail__are_dishonest CL_Trail)))) (M_Trail__are_dishonest : Meth K.K CL_Trail "_are_dishonest" f_Trail__are_dishonest) {f_Trail__next_number : Addr} {fd_Trail__next_number : FuncData} (F_Trail__next_number : Fun K.K "_next_number" "Trail._next_number" s_Trail__next_number f_Trail__next_number fd_Trail__next_number) (G_Trail__next_number : FnOk K.P K.w K.K mg base CX0 1 f_Trail__next_number fd_Trail__next_number ["self"] (SpG K (rel_Trail__next_number CL_Trail))) (b_Trail__next_number : Binds K.K fd_Trail__next_number ["self"] []) (M_Trail__next_number : Meth K.K CL_Trail "_next_number" f_Trail__next_number) {f__check_are_two : Addr} {fd__check_are_two : FuncData} (F__check_are_two : Fun K.K "_check_are_two" "_check_are_two" s__check_are_two f__check_are_two fd__check_are_two) (G__check_are_two : FnOk K.P K.w K.K mg base (L2.CX K.P K.w) 3 f__check_are_two fd__check_are_two ["party", "other"] (SpX K RC rel__check_are_two)) (b__check_are_two : Binds K.K fd__check_are_two ["party", "other"] []) (g__check_are_two : mg "_check_are_two" = some (.ref f__check_are_two)) : FnOk K.P K.w K.K mg base (L2.CX K.P K.w) 4 f_Trail_write fd_Trail_write ["self", "party", "deed", "kind", "amount", "other"] (SpX K RC (rel_Trail_write CL_Trail)) := by
  refine ok_defX F_Trail_write sc_Trail_write (fun C xs R EX h => by obtain ⟨_, _, _, _, _, _, _, _, rfl, _⟩ := h; rfl) (fun cdv A outer s H E hr => ?_)
  refine ⟨_, (pss_cons (ps_set (i := 6) sc_Trail_write.nd rfl (Or.inl rfl) (pe_tup pa_nil))
  (pss_cons (ps_if (pt_cmpR (kx_in K.K rfl) (pv 2) (pe_tup (pa_cons pe_str (pa_cons pe_str pa_nil))) (by rfl)) (pss_cons (ps_expr (pe_callS G__check_are_two (hr.mono (by decide)) (by rfl) g__check_are_two F__check_are_two.kp b__check_are_two (fun σ => passAt (takes_of rfl rfl rfl rfl) σ) (pa_cons (pv 1) (pa_cons (pv 5) pa_nil))))
  (pss_one (ps_set (i := 6) sc_Trail_write.nd rfl (Or.inl rfl) (pe_tup (pa_cons (pv 5) (pa_cons pe_bl pa_nil)))))) pss_nil)
  (pss_cons (ps_expr (kx_methR (pv 0) CT_Trail.cl M_Trail__are_dishonest G_Trail__are_dishonest (hr.mono (by decide)) pass0 (pa_cons (pv 1) pa_nil)))
  (pss_cons (ps_set (i := 7) sc_Trail_write.nd rfl (Or.inl rfl) (pe_meth0 (pv 0) CT_Trail.cl M_Trail__next_number G_Trail__next_number (hr.mono (by decide)) b_Trail__next_number .nil pass0))
  (pss_cons (ps_expr (pe_bm PySem.F.plainAttrs_list PySem.F.slot_list_append PySem.F.type_list_append mt_append (pe_ix (kx_ixL K.K rfl) (kx_fld K.K rfl (pv 0) rfl) (pv 1) (fun _ _ => rfl)) (pa_cons (pe_tup (pa_cons (pv 7) (pa_cons (pv 2) (pa_cons (pv 3) (pa_cons (pv 4) (StX.pa_star (pv 6) pa_nil)))))) pa_nil)))
  (pss_one (ps_ret (pv 7)))))))), ?_⟩
  rintro C xs R EX cl ⟨A, W, b, p, w, k, a, o, rfl, X, ⟨p0, p1⟩, qe, q⟩
  obtain ⟨h, ok, hb⟩ := id X
  have evl : W.events.length < 90000 := by have := ok.ev; omega
  have zf : (W.file p).length ≤ b := by
    unfold Wd.file
    rw [List.getD_eq_getElem?_getD, List.getElem?_eq_getElem (by rw [ok.fl]; omega)]
    exact ok.fb _ (List.getElem_mem _)
  refine ds_set (pu_tup (ds := []) au_nil (lk rfl)) ?_
  refine ds_ifs (ut_test (pu_in (ss := ["gave", "took"]) (pu_var rfl) (pu_tup (ds := [.str "gave", .str "took"]) (au_cons pu_str (au_cons pu_str au_nil)) (lk rfl)))) (fun hc => ?_) (fun hc => ds_nextseq ?_)
  · have hc := of_decide_eq_true hc
    refine ds_assoc (ds_dropX (P := fun x C' => p ≠ o ∧ C' = C) (EX := fun s => p = o ∧ s = "same party") (fun _ h => rsN h) cl (fun _ _ h => h) (au_cons (pu_var rfl) (au_cons (pu_var rfl) au_nil)) ⟨p, o, rfl, fun e => ⟨e, rfl⟩, fun e => ⟨e, rfl⟩⟩ (fun s hs => by rw [hs.2]; exact qe hc hs.1) ?_)
    rintro _ C0 ⟨ne, e0⟩
    rw [e0]
    clear e0 C0
    refine ds_set (pu_tup (ds := [.int o, .bool false]) (au_cons (pu_var rfl) (au_cons pu_bl au_nil)) (lk rfl)) ?_
    refine ds_drop (ev_methR (P := fun x C' => Only A.own C C' ∧ TrAt C' CL_Trail A (blmM W [p])) (pu_var rfl) h.ins (by rfl) (au_cons (pu_var rfl) au_nil) ⟨[Ax.ref A.w], [.int p], rfl, rfl, by simp, A, W, [p], rfl, h, by have := ok.li; show W.liars.length + 1 < 90000; omega, fun C' o h' => ⟨o, h'⟩⟩) ?_
    rintro _ C1 ⟨o1, h1⟩
    refine ds_setE (ev_meth (P := fun x C' => x = I (W.last + 1) ∧ Only A.own C1 C' ∧ TrAt C' CL_Trail A { blmM W [p] with last := W.last + 1 }) (pu_var rfl) h1.ins (by rfl) au_nil ⟨A, _, rfl, h1, fun C' o h' => ⟨rfl, o, h'⟩⟩) ?_
    rintro _ C2 ⟨rfl, o2, h2⟩
    refine ds_tfile (e := .cpy w (W.last + 1) k a o false) h2 p0 (by show p.toNat < W.files.length; rw [ok.fl]; omega) (by have := zf; show (W.file p).length < _; omega) (pu_fld (pu_var rfl) h2.ins CT_Trail.cl (CT_Trail.no _ (by simp)) tr_files) (pu_var rfl) (pu_tup (ds := [.int (W.last + 1), .str w, .int k, .int a] ++ [.int o, .bool false]) (au_is (au_cons (pu_var rfl) (au_cons (pu_var rfl) (au_cons (pu_var rfl) (au_cons (pu_var rfl) (au_star (ds := [.int o, .bool false]) (pu_var rfl) au_nil))))) rfl) (lk rfl)) fun C3 o3 h3 => ?_
    have eE : wrT (W.last + 1) w o k a = .cpy w (W.last + 1) k a o false := if_pos hc
    refine ds_ret (pu_var rfl) (rt_keep (q (fun z => ne z.2) C3 ((o1.trans o2).trans o3) ?_))
    unfold wriT
    rw [eE]
    exact h3
  · have hc := of_decide_eq_false hc
    refine ds_drop (ev_methR (P := fun x C' => Only A.own C C' ∧ TrAt C' CL_Trail A (blmM W [p])) (pu_var rfl) h.ins (by rfl) (au_cons (pu_var rfl) au_nil) ⟨[Ax.ref A.w], [.int p], rfl, rfl, by simp, A, W, [p], rfl, h, by have := ok.li; show W.liars.length + 1 < 90000; omega, fun C' o h' => ⟨o, h'⟩⟩) ?_
    rintro _ C1 ⟨o1, h1⟩
    refine ds_setE (ev_meth (P := fun x C' => x = I (W.last + 1) ∧ Only A.own C1 C' ∧ TrAt C' CL_Trail A { blmM W [p] with last := W.last + 1 }) (pu_var rfl) h1.ins (by rfl) au_nil ⟨A, _, rfl, h1, fun C' o h' => ⟨rfl, o, h'⟩⟩) ?_
    rintro _ C2 ⟨rfl, o2, h2⟩
    refine ds_tfile (e := .own w (W.last + 1) k a) h2 p0 (by show p.toNat < W.files.length; rw [ok.fl]; omega) (by have := zf; show (W.file p).length < _; omega) (pu_fld (pu_var rfl) h2.ins CT_Trail.cl (CT_Trail.no _ (by simp)) tr_files) (pu_var rfl) (pu_tup (ds := [.int (W.last + 1), .str w, .int k, .int a] ++ []) (au_is (au_cons (pu_var rfl) (au_cons (pu_var rfl) (au_cons (pu_var rfl) (au_cons (pu_var rfl) (au_star (ds := []) (pu_var rfl) au_nil))))) rfl) (lk rfl)) fun C3 o3 h3 => ?_
    have eE : wrT (W.last + 1) w o k a = .own w (W.last + 1) k a := if_neg hc
    refine ds_ret (pu_var rfl) (rt_keep (q (fun z => hc z.1) C3 ((o1.trans o2).trans o3) ?_))
    unfold wriT
    rw [eE]
    exact h3

abbrev s_Trail_omit : Stmt := inClass (topS 8) 10
abbrev N_Trail_omit : List Str := ["self", "party", "number", "entry"]
theorem sc_Trail_omit : FnScope N_Trail_omit ["self", "party", "number"] (defScope s_Trail_omit) := ⟨rfl, rfl, rfl, by decide +kernel, rfl, by decide +kernel, by decide +kernel⟩

theorem ok_Trail_omit {RC fI : Addr} {fdI : FuncData} (RT : RefT K mg base RC fI fdI) {CL_Trail : Addr} (CT_Trail : ClsT K mg CL_Trail "Trail" ["_kinds", "_parties", "_have", "_files", "_finds", "_events", "_given", "_liars"]) {f_Trail_omit : Addr} {fd_Trail_omit : FuncData} (F_Trail_omit : Fun K.K "omit" "Trail.omit" s_Trail_omit f_Trail_omit fd_Trail_omit) {f_Trail__are_dishonest : Addr} {fd_Trail__are_dishonest : FuncData} (F_Trail__are_dishonest : Fun K.K "_are_dishonest" "Trail._are_dishonest" s_Trail__are_dishonest f_Trail__are_dishonest fd_Trail__are_dishonest) (G_Trail__are_dishonest : FnR K.P K.w K.K mg base CX0 1 f_Trail__are_dishonest (SpG K (starR 1 (rel_Trail__are_dishonest CL_Trail)))) (M_Trail__are_dishonest : Meth K.K CL_Trail "_are_dishonest" f_Trail__are_dishonest) {f_entry_at : Addr} {fd_entry_at : FuncData} (F_entry_at : Fun K.K "entry_at" "entry_at" s_entry_at f_entry_at fd_entry_at) (G_entry_at : FnOk K.P K.w K.K mg base CX0 1 f_entry_at fd_entry_at ["file", "number"] (SpG K rel_entry_atL)) (b_entry_at : Binds K.K fd_entry_at ["file", "number"] []) (g_entry_at : mg "entry_at" = some (.ref f_entry_at)) : FnOk K.P K.w K.K mg base (L2.CX K.P K.w) 3 f_Trail_omit fd_Trail_omit ["self", "party", "number"] (SpX K RC (rel_Trail_omit CL_Trail)) := by
  refine ok_defX F_Trail_omit sc_Trail_omit (fun C xs R EX h => by obtain ⟨_, _, _, _, _, rfl, _⟩ := h; rfl) (fun cdv A outer s H E hr => ?_)
  refine ⟨_, (pss_cons (ps_set (i := 3) sc_Trail_omit.nd rfl (Or.inl rfl) (pe_call G_entry_at (hr.mono (by decide)) (by rfl) g_entry_at F_entry_at.kp b_entry_at .nil pass0 (pa_cons (pe_ix (kx_ixL K.K rfl) (kx_fld K.K rfl (pv 0) rfl) (pv 1) (fun _ _ => rfl)) (pa_cons (pv 2) pa_nil))))
  (pss_cons (ps_if (pt_cmp (pc_isN (pv 3))) (pss_one (ps_raise rfl (takes_of rfl rfl rfl rfl) (pmk_oex RT.T RT.iC RT.tI RT.F1 (hr.mono (by decide)) RT.hb .nil pass0 (by rfl) RT.gC (pa_cons pe_str pa_nil)))) pss_nil)
  (pss_cons (ps_expr (pe_bm PySem.F.plainAttrs_list PySem.F.slot_list_remove PySem.F.type_list_remove (kx_remD K.K rfl hr.unit65) (pe_ix (kx_ixL K.K rfl) (kx_fld K.K rfl (pv 0) rfl) (pv 1) (fun _ _ => rfl)) (pa_cons (pv 3) pa_nil)))
  (pss_one (ps_expr (kx_methR (pv 0) CT_Trail.cl M_Trail__are_dishonest G_Trail__are_dishonest (hr.mono (by decide)) pass0 (pa_cons (pv 1) pa_nil))))))), ?_⟩
  rintro C xs R EX cl ⟨A, W, b, p, n, rfl, X, ⟨p0, p1⟩, qe, q⟩
  obtain ⟨h, ok, hb⟩ := id X
  have evl : W.events.length < 90000 := by have := ok.ev; omega
  obtain ⟨r, r1, r2, r3⟩ := h.file p0 (by rw [ok.fl]; omega)
  have eok : ∀ e ∈ W.file p, EOk e := fun e he => by
    unfold Wd.file at he
    rw [List.getD_eq_getElem?_getD, List.getElem?_eq_getElem (show p.toNat < W.files.length by rw [ok.fl]; omega)] at he
    exact ((ok.file p.toNat _ (List.getElem?_eq_getElem (show p.toNat < W.files.length by rw [ok.fl]; omega))).ent e he).eok
  refine ds_set (pu_call (au_cons (pu_ixM (pu_fld (pu_var rfl) h.ins CT_Trail.cl (CT_Trail.no _ (by simp)) tr_files) (pu_var rfl) h.files.top r3) (au_cons (pu_var rfl) au_nil)) ⟨r, W.file p, n, rfl, r2, rfl, rfl⟩) ?_
  cases hf : (W.file p).find? (fun e => decide (e.n = n)) with
  | none =>
    refine ds_ifs (b := true) (ut_is (ut_B (pu_isN (pu_var rfl))) rfl) (fun hc => ds_raiseS (fun _ h => h) cl (fun _ _ h => h) pu_str (qe fun e he => ?_)) (fun hc => by cases hc)
    have := List.find?_eq_none.mp hf e he
    simpa using this
  | some e =>
    obtain ⟨j, hj, hen, hno⟩ := find_first hf
    refine ds_ifs (b := false) (ut_is (ut_B (pu_isN (pu_var rfl))) (by cases e <;> rfl)) (fun hc => by cases hc) (fun hc => ds_nextseq ?_)
    refine ds_drop (ev_rem (ds := (W.file p).map entD) (d := entD e) (j := j) (pu_ixM (pu_fld (pu_var rfl) h.ins CT_Trail.cl (CT_Trail.no _ (by simp)) tr_files) (pu_var rfl) h.files.top r3) (pu_var rfl) r2 (ents_shL eok).sh (ent_sh (eok e (List.mem_of_getElem? hj))).sh (by rw [List.getElem?_map, hj]; rfl) (by rw [ent_eqv]; exact decide_eq_true rfl) fun m z' hm hz' => ?_) ?_
    · obtain ⟨x, hx, rfl⟩ := mapget hz'
      rw [ent_eqv]
      refine decide_eq_false fun z => hno m x hm hx ?_
      rw [z]
      exact hen
    rintro _ _ ⟨_, rfl⟩
    have h1 := h.setF r1 ((W.file p).eraseIdx j)
    have o1 : Only A.own C (updC C r (.lst ((((W.file p).eraseIdx j).map entD).map .dat))) := Only.refl.put (own_qs r1)
    rw [← map_erase]
    generalize updC C r (.lst ((((W.file p).eraseIdx j).map entD).map .dat)) = C1 at h1 o1
    refine ds_drop (rest := tNext) (ev_methR (P := fun x C' => Only A.own C1 C' ∧ TrAt C' CL_Trail A (blmM (omiT W p j) [p])) (pu_var rfl) h1.ins (by rfl) (au_cons (pu_var rfl) au_nil) ⟨[Ax.ref A.w], [.int p], rfl, rfl, by simp, A, (omiT W p j), [p], rfl, h1, by have := ok.li; show W.liars.length + 1 < 90000; omega, fun C' o h' => ⟨o, h'⟩⟩) ?_
    rintro _ C2 ⟨o2, h2⟩
    exact ds_next (rt_keep (q j e hj hen hno C2 (o1.trans o2) h2))

abbrev s_Trail_numbers : Stmt := inClass (topS 8) 11
abbrev N_Trail_numbers : List Str := ["self"]
theorem sc_Trail_numbers : FnScope N_Trail_numbers ["self"] (defScope s_Trail_numbers) := ⟨rfl, rfl, rfl, by decide +kernel, rfl, by decide +kernel, by decide +kernel⟩

theorem ok_Trail_numbers {CL_Trail : Addr} (CT_Trail : ClsT K mg CL_Trail "Trail" ["_kinds", "_parties", "_have", "_files", "_finds", "_events", "_given", "_liars"]) {f_Trail_numbers : Addr} {fd_Trail_numbers : FuncData} (F_Trail_numbers : Fun K.K "numbers" "Trail.numbers" s_Trail_numbers f_Trail_numbers fd_Trail_numbers) : FnOk K.P K.w K.K mg base CX0 1 f_Trail_numbers fd_Trail_numbers ["self"] (SpG K (rel_Trail_numbers CL_Trail)) := by
  refine ok_def F_Trail_numbers sc_Trail_numbers (fun C xs R h => by obtain ⟨_, _, rfl, _⟩ := h; rfl) (fun cdv A outer s H E hr => ?_)
  refine ⟨_, (pss_one (ps_ret (kx_fld K.K rfl (pv 0) rfl))), ?_⟩
  rintro C xs R cl ⟨A, W, rfl, h, q⟩
  exact ds_ret (pu_fld (pu_var rfl) h.ins CT_Trail.cl (CT_Trail.no _ (by simp)) tr_given) (rt_dat cl Mor.refl q)

abbrev s_Trail_stock : Stmt := inClass (topS 8) 12
abbrev N_Trail_stock : List Str := ["self", "party", "kind"]
theorem sc_Trail_stock : FnScope N_Trail_stock ["self", "party", "kind"] (defScope s_Trail_stock) := ⟨rfl, rfl, rfl, by decide +kernel, rfl, by decide +kernel, by decide +kernel⟩

theorem ok_Trail_stock {CL_Trail : Addr} (CT_Trail : ClsT K mg CL_Trail "Trail" ["_kinds", "_parties", "_have", "_files", "_finds", "_events", "_given", "_liars"]) {f_Trail_stock : Addr} {fd_Trail_stock : FuncData} (F_Trail_stock : Fun K.K "stock" "Trail.stock" s_Trail_stock f_Trail_stock fd_Trail_stock) : FnOk K.P K.w K.K mg base CX0 1 f_Trail_stock fd_Trail_stock ["self", "party", "kind"] (SpG K (rel_Trail_stock CL_Trail)) := by
  refine ok_def F_Trail_stock sc_Trail_stock (fun C xs R h => by obtain ⟨_, _, _, _, _, rfl, _⟩ := h; rfl) (fun cdv A outer s H E hr => ?_)
  refine ⟨_, (pss_one (ps_ret (pe_ix (kx_ixL K.K rfl) (pe_ix (kx_ixL K.K rfl) (kx_fld K.K rfl (pv 0) rfl) (pv 1) (fun _ _ => rfl)) (pv 2) (fun _ _ => rfl)))), ?_⟩
  rintro C xs R cl ⟨A, W, b, p, k, rfl, ⟨h, ok, hb⟩, ⟨p0, p1⟩, ⟨k0, k1⟩, q⟩
  exact ds_ret (pu_tst h ok.st p0 p1 k0 k1 (pu_fld (pu_var rfl) h.ins CT_Trail.cl (CT_Trail.no _ (by simp)) tr_have) (pu_var rfl) (pu_var rfl)) (rt_dat cl Mor.refl q)

abbrev s_Trail_dishonest : Stmt := inClass (topS 8) 13
abbrev N_Trail_dishonest : List Str := ["self"]
theorem sc_Trail_dishonest : FnScope N_Trail_dishonest ["self"] (defScope s_Trail_dishonest) := ⟨rfl, rfl, rfl, by decide +kernel, rfl, by decide +kernel, by decide +kernel⟩

theorem ok_Trail_dishonest {CL_Trail : Addr} (CT_Trail : ClsT K mg CL_Trail "Trail" ["_kinds", "_parties", "_have", "_files", "_finds", "_events", "_given", "_liars"]) {f_Trail_dishonest : Addr} {fd_Trail_dishonest : FuncData} (F_Trail_dishonest : Fun K.K "dishonest" "Trail.dishonest" s_Trail_dishonest f_Trail_dishonest fd_Trail_dishonest) (z_sorted : mg "sorted" = none) (z_tuple : mg "tuple" = none) : FnOk K.P K.w K.K mg base CX0 1 f_Trail_dishonest fd_Trail_dishonest ["self"] (SpG K (rel_Trail_dishonest CL_Trail)) := by
  refine ok_def F_Trail_dishonest sc_Trail_dishonest (fun C xs R h => by obtain ⟨_, _, rfl, _⟩ := h; rfl) (fun cdv A outer s H E hr => ?_)
  refine ⟨_, (pss_one (ps_ret (pe_callTy (kx_tuple K.K rfl) (by rfl) z_tuple PyProof.Rows.boot_tuple (pa_cons (pe_callB (call_sortedDI rfl) (by rfl) z_sorted (by decide +kernel) (pa_cons (kx_fld K.K rfl (pv 0) rfl) pa_nil)) pa_nil)))), ?_⟩
  rintro C xs R cl ⟨A, W, rfl, h, hl, q⟩
  exact ds_ret (pu_cb (au_cons (pu_fz (pl_srtDT (ks := W.liars) (ns := srtT W.liars) (au_cons (pu_fld (pu_var rfl) h.ins CT_Trail.cl (CT_Trail.no _ (by simp)) tr_liars) au_nil) h.li (by unfold liD; rw [List.map_map]; rfl) hl (fun ys h1 h2 => srtT_uniq h1 h2))) au_nil) rc_tupL) (rt_dat cl Mor.refl q)

abbrev s_Trail_evidence : Stmt := inClass (topS 8) 14
abbrev N_Trail_evidence : List Str := ["self", "files", "file"]
theorem sc_Trail_evidence : FnScope N_Trail_evidence ["self"] (defScope s_Trail_evidence) := ⟨rfl, rfl, rfl, by decide +kernel, rfl, by decide +kernel, by decide +kernel⟩

theorem ok_Trail_evidence {CL_Trail : Addr} (CT_Trail : ClsT K mg CL_Trail "Trail" ["_kinds", "_parties", "_have", "_files", "_finds", "_events", "_given", "_liars"]) {f_Trail_evidence : Addr} {fd_Trail_evidence : FuncData} (F_Trail_evidence : Fun K.K "evidence" "Trail.evidence" s_Trail_evidence f_Trail_evidence fd_Trail_evidence) (z_tuple : mg "tuple" = none) : FnOk K.P K.w K.K mg base CX0 1 f_Trail_evidence fd_Trail_evidence ["self"] (SpG K (rel_Trail_evidence CL_Trail)) := by
  refine ok_def F_Trail_evidence sc_Trail_evidence (fun C xs R h => by obtain ⟨_, _, rfl, _⟩ := h; rfl) (fun cdv A outer s H E hr => ?_)
  refine ⟨_, (pss_cons (ps_set (i := 1) sc_Trail_evidence.nd rfl (Or.inl rfl) (pe_callTy (kx_tuple K.K rfl) (by rfl) z_tuple PyProof.Rows.boot_tuple (pa_cons (pe_lc (own := [("file", 2)]) rfl sc_Trail_evidence.nd (kx_pList K.K rfl (kx_fld K.K rfl (pv 0) rfl)) (blkOk_by (N := N_Trail_evidence) (sc := defScope s_Trail_evidence) (by decide +kernel)) (fun _ _ _ _ _ => (pg_name (i := 2) sc_Trail_evidence.nd rfl (Or.inl rfl) (Or.inr rfl))) (fun _ _ _ _ _ => pts_nil) (fun _ _ _ _ _ => (pe_callTy (kx_tuple K.K rfl) (by rfl) z_tuple PyProof.Rows.boot_tuple (pa_cons (pv 2) pa_nil)))) pa_nil)))
  (pss_one (ps_ret (pe_tup (pa_cons (kx_fld K.K rfl (pv 0) rfl) (pa_cons (kx_fld K.K rfl (pv 0) rfl) (pa_cons (pv 1) (pa_cons (pe_callTy (kx_tuple K.K rfl) (by rfl) z_tuple PyProof.Rows.boot_tuple (pa_cons (kx_fld K.K rfl (pv 0) rfl) pa_nil)) pa_nil)))))))), ?_⟩
  rintro C xs R cl ⟨A, W, rfl, h, hz, q⟩
  refine ds_set (pu_cb (au_cons (pu_rowsA h.files (pu_fld (pu_var rfl) h.ins CT_Trail.cl (CT_Trail.no _ (by simp)) tr_files) (by unfold filesD; rw [List.length_map]; omega) (by show 2 < 3; decide)) au_nil) rc_tupL) ?_
  exact ds_ret (pu_tup (ds := [_, _, _, _]) (au_cons (pu_fld (pu_var rfl) h.ins CT_Trail.cl (CT_Trail.no _ (by simp)) tr_kinds) (au_cons (pu_fld (pu_var rfl) h.ins CT_Trail.cl (CT_Trail.no _ (by simp)) tr_parties) (au_cons (pu_var rfl) (au_cons (pu_cb (au_cons (pu_fld (pu_var rfl) h.ins CT_Trail.cl (CT_Trail.no _ (by simp)) tr_finds) au_nil) (rc_tupM h.fd)) au_nil)))) (lk rfl)) (rt_dat cl Mor.refl q)

abbrev s_Trail_history : Stmt := inClass (topS 8) 15
abbrev N_Trail_history : List Str := ["self"]
theorem sc_Trail_history : FnScope N_Trail_history ["self"] (defScope s_Trail_history) := ⟨rfl, rfl, rfl, by decide +kernel, rfl, by decide +kernel, by decide +kernel⟩

theorem ok_Trail_history {CL_Trail : Addr} (CT_Trail : ClsT K mg CL_Trail "Trail" ["_kinds", "_parties", "_have", "_files", "_finds", "_events", "_given", "_liars"]) {f_Trail_history : Addr} {fd_Trail_history : FuncData} (F_Trail_history : Fun K.K "history" "Trail.history" s_Trail_history f_Trail_history fd_Trail_history) (z_list : mg "list" = none) : FnOk K.P K.w K.K mg base CX0 1 f_Trail_history fd_Trail_history ["self"] (SpG K (rel_Trail_history CL_Trail)) := by
  refine ok_def F_Trail_history sc_Trail_history (fun C xs R h => by obtain ⟨_, _, rfl, _⟩ := h; rfl) (fun cdv A outer s H E hr => ?_)
  refine ⟨_, (pss_one (ps_ret (pe_callTy (kx_list K.K rfl) (by rfl) z_list PyProof.Rows.boot_list (pa_cons (kx_fld K.K rfl (pv 0) rfl) pa_nil)))), ?_⟩
  rintro C xs R cl ⟨A, W, rfl, h, q⟩
  exact ds_ret (pu_fz (pl_listCT (au_cons (pu_fld (pu_var rfl) h.ins CT_Trail.cl (CT_Trail.no _ (by simp)) tr_events) au_nil) h.ev)) (rt_dat cl Mor.refl q)

end
end K40

set_option maxHeartbeats 40000000
namespace K40
open PySem PySem.Spec PyProof.Rows L2 Ab Lm Hm Wda
open Trl
section
variable {K : Kw} {mg : Str → Option Value} {base : Heap}
abbrev s__law_told : Stmt := topS 23
abbrev N__law_told : List Str := ["trail", "deed", "word", "party", "other", "kind", "amount", "is_sealed", "claim", "e"]
theorem sc__law_told : FnScope N__law_told ["trail", "deed"] (defScope s__law_told) := ⟨rfl, rfl, rfl, by decide +kernel, rfl, by decide +kernel, by decide +kernel⟩

theorem ok__law_told {RC fI : Addr} {fdI : FuncData} (RT : RefT K mg base RC fI fdI) {CL_Trail : Addr} (CT_Trail : ClsT K mg CL_Trail "Trail" ["_kinds", "_parties", "_have", "_files", "_finds", "_events", "_given", "_liars"]) {f__law_told : Addr} {fd__law_told : FuncData} (F__law_told : Fun K.K "_law_told" "_law_told" s__law_told f__law_told fd__law_told) {f_Trail_conjure : Addr} {fd_Trail_conjure : FuncData} (F_Trail_conjure : Fun K.K "conjure" "Trail.conjure" s_Trail_conjure f_Trail_conjure fd_Trail_conjure) (G_Trail_conjure : FnOk K.P K.w K.K mg base (L2.CX K.P K.w) 4 f_Trail_conjure fd_Trail_conjure ["self", "party", "kind", "amount"] (SpX K RC (rel_Trail_conjure CL_Trail))) (b_Trail_conjure : Binds K.K fd_Trail_conjure ["self", "party", "kind", "amount"] []) (M_Trail_conjure : Meth K.K CL_Trail "conjure" f_Trail_conjure) {f_Trail_dump : Addr} {fd_Trail_dump : FuncData} (F_Trail_dump : Fun K.K "dump" "Trail.dump" s_Trail_dump f_Trail_dump fd_Trail_dump) (G_Trail_dump : FnOk K.P K.w K.K mg base (L2.CX K.P K.w) 4 f_Trail_dump fd_Trail_dump ["self", "party", "kind", "amount"] (SpX K RC (rel_Trail_dump CL_Trail))) (b_Trail_dump : Binds K.K fd_Trail_dump ["self", "party", "kind", "amount"] []) (M_Trail_dump : Meth K.K CL_Trail "dump" f_Trail_dump) {f_Trail_hand : Addr} {fd_Trail_hand : FuncData} (F_Trail_hand : Fun K.K "hand" "Trail.hand" s_Trail_hand f_Trail_hand fd_Trail_hand) (G_Trail_hand : FnOk K.P K.w K.K mg base (L2.CX K.P K.w) 5 f_Trail_hand fd_Trail_hand ["self", "giver", "taker", "kind", "amount", "sealed"] (SpX K RC (rel_Trail_hand CL_Trail))) (b_Trail_hand : Binds K.K fd_Trail_hand ["self", "giver", "taker", "kind", "amount", "sealed"] []) (M_Trail_hand : Meth K.K CL_Trail "hand" f_Trail_hand) {f_Trail_inspect : Addr} {fd_Trail_inspect : FuncData} (F_Trail_inspect : Fun K.K "inspect" "Trail.inspect" s_Trail_inspect f_Trail_inspect fd_Trail_inspect) (G_Trail_inspect : FnOk K.P K.w K.K mg base CX0 4 f_Trail_inspect fd_Trail_inspect ["self", "party", "kind"] (SpG K (rel_Trail_inspect CL_Trail))) (b_Trail_inspect : Binds K.K fd_Trail_inspect ["self", "party", "kind"] []) (M_Trail_inspect : Meth K.K CL_Trail "inspect" f_Trail_inspect) {f_Trail_make : Addr} {fd_Trail_make : FuncData} (F_Trail_make : Fun K.K "make" "Trail.make" s_Trail_make f_Trail_make fd_Trail_make) (G_Trail_make : FnOk K.P K.w K.K mg base (L2.CX K.P K.w) 4 f_Trail_make fd_Trail_make ["self", "party", "kind", "amount"] (SpX K RC (rel_Trail_make CL_Trail))) (b_Trail_make : Binds K.K fd_Trail_make ["self", "party", "kind", "amount"] []) (M_Trail_make : Meth K.K CL_Trail "make" f_Trail_make) {f_Trail_omit : Addr} {fd_Trail_omit : FuncData} (F_Trail_omit : Fun K.K "omit" "Trail.omit" s_Trail_omit f_Trail_omit fd_Trail_omit) (G_Trail_omit : FnOk K.P K.w K.K mg base (L2.CX K.P K.w) 3 f_Trail_omit fd_Trail_omit ["self", "party", "number"] (SpX K RC (rel_Trail_omit CL_Trail))) (b_Trail_omit : Binds K.K fd_Trail_omit ["self", "party", "number"] []) (M_Trail_omit : Meth K.K CL_Trail "omit" f_Trail_omit) {f_Trail_pass_on : Addr} {fd_Trail_pass_on : FuncData} (F_Trail_pass_on : Fun K.K "pass_on" "Trail.pass_on" s_Trail_pass_on f_Trail_pass_on fd_Trail_pass_on) (G_Trail_pass_on : FnOk K.P K.w K.K mg base (L2.CX K.P K.w) 5 f_Trail_pass_on fd_Trail_pass_on ["self", "giver", "taker", "kind", "amount"] (SpX K RC (rel_Trail_pass_on CL_Trail))) (b_Trail_pass_on : Binds K.K fd_Trail_pass_on ["self", "giver", "taker", "kind", "amount"] []) (M_Trail_pass_on : Meth K.K CL_Trail "pass_on" f_Trail_pass_on) {f_Trail_sign : Addr} {fd_Trail_sign : FuncData} (F_Trail_sign : Fun K.K "sign" "Trail.sign" s_Trail_sign f_Trail_sign fd_Trail_sign) (G_Trail_sign : FnOk K.P K.w K.K mg base (L2.CX K.P K.w) 4 f_Trail_sign fd_Trail_sign ["self", "giver", "taker", "kind", "amount", "sealed"] (SpX K RC (rel_Trail_sign CL_Trail))) (b_Trail_sign : Binds K.K fd_Trail_sign ["self", "giver", "taker", "kind", "amount", "sealed"] []) (M_Trail_sign : Meth K.K CL_Trail "sign" f_Trail_sign) {f_Trail_treat : Addr} {fd_Trail_treat : FuncData} (F_Trail_treat : Fun K.K "treat" "Trail.treat" s_Trail_treat f_Trail_treat fd_Trail_treat) (G_Trail_treat : FnOk K.P K.w K.K mg base (L2.CX K.P K.w) 4 f_Trail_treat fd_Trail_treat ["self", "party", "kind", "amount"] (SpX K RC (rel_Trail_treat CL_Trail))) (b_Trail_treat : Binds K.K fd_Trail_treat ["self", "party", "kind", "amount"] []) (M_Trail_treat : Meth K.K CL_Trail "treat" f_Trail_treat) {f_Trail_write : Addr} {fd_Trail_write : FuncData} (F_Trail_write : Fun K.K "write" "Trail.write" s_Trail_write f_Trail_write fd_Trail_write) (G_Trail_write : FnOk K.P K.w K.K mg base (L2.CX K.P K.w) 4 f_Trail_write fd_Trail_write ["self", "party", "deed", "kind", "amount", "other"] (SpX K RC (rel_Trail_write CL_Trail))) (b_Trail_write : Binds K.K fd_Trail_write ["self", "party", "deed", "kind", "amount", "other"] []) (M_Trail_write : Meth K.K CL_Trail "write" f_Trail_write) (z_int : mg "int" = none) : FnOk K.P K.w K.K mg base CX0 6 f__law_told fd__law_told ["trail", "deed"] (SpG K (rel__law_told CL_Trail)) := by
  refine ok_def F__law_told sc__law_told (fun C xs R h => by obtain ⟨_, _, _, _, rfl, _⟩ := h; rfl) (fun cdv A outer s H E hr => ?_)
  refine ⟨_, (pss_cons (ps_asg (pv 1) (pg_tup rfl (pgs_cons (pg_name (i := 2) sc__law_told.nd rfl (Or.inl rfl)) (pgs_cons (pg_name (i := 3) sc__law_told.nd rfl (Or.inl rfl)) (pgs_cons (pg_name (i := 4) sc__law_told.nd rfl (Or.inl rfl)) (pgs_cons (pg_name (i := 5) sc__law_told.nd rfl (Or.inl rfl)) (pgs_cons (pg_name (i := 6) sc__law_told.nd rfl (Or.inl rfl)) (pgs_cons (pg_name (i := 7) sc__law_told.nd rfl (Or.inl rfl)) pgs_nil))))))))
  (pss_one (ps_tryR K.K rfl (i := 9) rfl rfl sc__law_told.nd rfl rfl ⟨rfl, by decide, Or.inl RT.gC⟩ takes0 (fun W pn xe tk _ => (pss_cons (ps_if (pt_cmpR op_eq (pv 2) pe_str (nomark _)) (pss_one (ps_ret (pe_methX (pv 0) CT_Trail.cl M_Trail_make G_Trail_make (hr.mono (by decide)) b_Trail_make (fun σ => passAt tk σ) (pa_cons (pv 3) (pa_cons (pv 5) (pa_cons (pv 6) pa_nil)))))) pss_nil)
  (pss_cons (ps_if (pt_cmpR op_eq (pv 2) pe_str (nomark _)) (pss_one (ps_ret (pe_methX (pv 0) CT_Trail.cl M_Trail_treat G_Trail_treat (hr.mono (by decide)) b_Trail_treat (fun σ => passAt tk σ) (pa_cons (pv 3) (pa_cons (pv 5) (pa_cons (pv 6) pa_nil)))))) pss_nil)
  (pss_cons (ps_if (pt_cmpR op_eq (pv 2) pe_str (nomark _)) (pss_one (ps_ret (pe_methX (pv 0) CT_Trail.cl M_Trail_hand G_Trail_hand (hr.mono (by decide)) b_Trail_hand (fun σ => passAt tk σ) (pa_cons (pv 3) (pa_cons (pv 4) (pa_cons (pv 5) (pa_cons (pv 6) (pa_cons (pv 7) pa_nil)))))))) pss_nil)
  (pss_cons (ps_if (pt_cmpR op_eq (pv 2) pe_str (nomark _)) (pss_one (ps_ret (pe_meth (pv 0) CT_Trail.cl M_Trail_inspect G_Trail_inspect (hr.mono (by decide)) b_Trail_inspect .nil pass0 (pa_cons (pv 3) (pa_cons (pv 5) pa_nil))))) pss_nil)
  (pss_cons (ps_if (pt_cmpR op_eq (pv 2) pe_str (nomark _)) (pss_one (ps_ret (pe_methX (pv 0) CT_Trail.cl M_Trail_pass_on G_Trail_pass_on (hr.mono (by decide)) b_Trail_pass_on (fun σ => passAt tk σ) (pa_cons (pv 3) (pa_cons (pv 4) (pa_cons (pv 5) (pa_cons (pv 6) pa_nil))))))) pss_nil)
  (pss_cons (ps_if (pt_cmpR op_eq (pv 2) pe_str (nomark _)) (pss_one (ps_ret (pe_methX (pv 0) CT_Trail.cl M_Trail_dump G_Trail_dump (hr.mono (by decide)) b_Trail_dump (fun σ => passAt tk σ) (pa_cons (pv 3) (pa_cons (pv 5) (pa_cons (pv 6) pa_nil)))))) pss_nil)
  (pss_cons (ps_if (pt_cmpR op_eq (pv 2) pe_str (nomark _)) (pss_one (ps_ret (pe_methX (pv 0) CT_Trail.cl M_Trail_conjure G_Trail_conjure (hr.mono (by decide)) b_Trail_conjure (fun σ => passAt tk σ) (pa_cons (pv 3) (pa_cons (pv 5) (pa_cons (pv 6) pa_nil)))))) pss_nil)
  (pss_cons (ps_if (pt_cmpR op_eq (pv 2) pe_str (nomark _)) (pss_one (ps_ret (pe_methX (pv 0) CT_Trail.cl M_Trail_sign G_Trail_sign (hr.mono (by decide)) b_Trail_sign (fun σ => passAt tk σ) (pa_cons (pv 3) (pa_cons (pv 4) (pa_cons (pv 5) (pa_cons (pv 6) (pa_cons (pv 7) pa_nil)))))))) pss_nil)
  (pss_cons (ps_if (pt_cmpR op_eq (pv 2) pe_str (nomark _)) (pss_cons (ps_set (i := 8) sc__law_told.nd rfl (Or.inl rfl) (pe_ix (kx_ixL K.K rfl) (pe_lst (pa_cons pe_str (pa_cons pe_str (pa_cons pe_str (pa_cons pe_str pa_nil))))) (pe_op op_add (pe_callTy call_int1 (by rfl) z_int PyProof.Rows.boot_int (pa_cons (pv 7) pa_nil)) (pe_op op_mul pe_int (pe_callTy call_int1 (by rfl) z_int PyProof.Rows.boot_int (pa_cons (pe_cmpR op_ne (pv 3) (pv 4) (nomark _)) pa_nil)))) (fun _ _ => rfl)))
  (pss_one (ps_ret (pe_methX (pv 0) CT_Trail.cl M_Trail_write G_Trail_write (hr.mono (by decide)) b_Trail_write (fun σ => passAt tk σ) (pa_cons (pv 3) (pa_cons (pv 8) (pa_cons (pv 5) (pa_cons (pv 6) (pa_cons (pv 4) pa_nil))))))))) pss_nil)
  (pss_one (ps_ret (pe_methX (pv 0) CT_Trail.cl M_Trail_omit G_Trail_omit (hr.mono (by decide)) b_Trail_omit (fun σ => passAt tk σ) (pa_cons (pv 3) (pa_cons (pv 6) pa_nil))))))))))))))) (fun a oe cls d pn hz hf => pss_one (ps_ret (pe_xf RT.xf RT.no hz hf (pv 9))))))), ?_⟩
  rintro C xs R cl ⟨A, W, b, ⟨w, p, o, k, a, s⟩, rfl, X, ⟨p0, p1, o0, o1, k0, k1⟩, hw, qe, q⟩
  have p0 : 0 ≤ p := p0
  have p1 : p < W.pf.length := p1
  have o0 : 0 ≤ o := o0
  have o1 : o < W.pf.length := o1
  have k0 : 0 ≤ k := k0
  have k1 : k < W.kd := k1
  obtain ⟨h, ok, hb⟩ := id X
  refine ds_tgt (pu_var rfl) (tg_tup (ds := [.str w, .int p, .int o, .int k, .int a, .bool s]) (tgl_cons tg_name (tgl_cons tg_name (tgl_cons tg_name (tgl_cons tg_name (tgl_cons tg_name (tgl_cons tg_name tgl_nil)))))) rfl) ?_
  refine ds_try (EX := fun t => whyM W ⟨w, p, o, k, a, s⟩ = some t) RT.te (show 9 < 10 by decide) (fun WX => ?_) (fun t ht => rt_keep (qe t ht))
  have hw : w ∈ wordsT := hw
  simp only [wordsT, List.mem_cons, List.not_mem_nil, or_false] at hw
  rcases hw with rfl | rfl | rfl | rfl | rfl | rfl | rfl | rfl | rfl | rfl
  · skip
    refine ds_ifs (b := true) (ut_is (ut_test (pu_eqStr (pu_var rfl) pu_str)) (by decide +kernel)) (fun _ => ?_) (fun h => by cases h)
    refine ds_retseq ?_
    refine ds_retM (ex_meth (P := fun x C' => x = .dat (ansT W ⟨"make", p, o, k, a, s⟩) ∧ whyM W ⟨"make", p, o, k, a, s⟩ = none ∧ Only A.own C C' ∧ TrAt C' CL_Trail A (nxtT W ⟨"make", p, o, k, a, s⟩)) (EX := fun t => whyM W ⟨"make", p, o, k, a, s⟩ = some t) (fun _ h => h) cl (fun _ _ h => h) (pu_var rfl) h.ins (by rfl) (au_cons (pu_var rfl) (au_cons (pu_var rfl) (au_cons (pu_var rfl) au_nil))) ⟨A, W, b, p, k, a, rfl, X, ⟨p0, p1⟩, ⟨k0, k1⟩, fun e => by rw [why_make, if_pos e], fun e C' o' h' => ⟨(by rw [ans_num (by decide)]), by rw [why_make, if_neg (by rw [e]; decide)], o', by rw [nx_make e]; exact h'⟩⟩ (fun t h => h)) (fun x C' ⟨e1, e2, o', h'⟩ => by subst e1; exact rt_keep (q e2 C' o' h'))
  · skip
    refine ds_ifs (b := false) (ut_is (ut_test (pu_eqStr (pu_var rfl) pu_str)) (by decide +kernel)) (fun h => by cases h) (fun _ => ds_nextseq ?_)
    refine ds_ifs (b := true) (ut_is (ut_test (pu_eqStr (pu_var rfl) pu_str)) (by decide +kernel)) (fun _ => ?_) (fun h => by cases h)
    refine ds_retseq ?_
    refine ds_retM (ex_meth (P := fun x C' => x = .dat (ansT W ⟨"treat", p, o, k, a, s⟩) ∧ whyM W ⟨"treat", p, o, k, a, s⟩ = none ∧ Only A.own C C' ∧ TrAt C' CL_Trail A (nxtT W ⟨"treat", p, o, k, a, s⟩)) (EX := fun t => whyM W ⟨"treat", p, o, k, a, s⟩ = some t) (fun _ h => h) cl (fun _ _ h => h) (pu_var rfl) h.ins (by rfl) (au_cons (pu_var rfl) (au_cons (pu_var rfl) (au_cons (pu_var rfl) au_nil))) ⟨A, W, b, p, k, a, rfl, X, ⟨p0, p1⟩, ⟨k0, k1⟩, fun e => by rw [why_treat, if_pos e], fun e e2 => by rw [why_treat, if_neg (by rw [e]; decide), if_pos e2], fun e e2 C' o' h' => ⟨(by rw [ans_num (by decide)]), by rw [why_treat, if_neg (by rw [e]; decide), if_neg (by omega)], o', by rw [nx_treat e e2]; exact h'⟩⟩ (fun t h => h)) (fun x C' ⟨e1, e2, o', h'⟩ => by subst e1; exact rt_keep (q e2 C' o' h'))
  · skip
    refine ds_ifs (b := false) (ut_is (ut_test (pu_eqStr (pu_var rfl) pu_str)) (by decide +kernel)) (fun h => by cases h) (fun _ => ds_nextseq ?_)
    refine ds_ifs (b := false) (ut_is (ut_test (pu_eqStr (pu_var rfl) pu_str)) (by decide +kernel)) (fun h => by cases h) (fun _ => ds_nextseq ?_)
    refine ds_ifs (b := true) (ut_is (ut_test (pu_eqStr (pu_var rfl) pu_str)) (by decide +kernel)) (fun _ => ?_) (fun h => by cases h)
    refine ds_retseq ?_
    refine ds_retM (ex_meth (P := fun x C' => x = .dat (ansT W ⟨"hand", p, o, k, a, s⟩) ∧ whyM W ⟨"hand", p, o, k, a, s⟩ = none ∧ Only A.own C C' ∧ TrAt C' CL_Trail A (nxtT W ⟨"hand", p, o, k, a, s⟩)) (EX := fun t => whyM W ⟨"hand", p, o, k, a, s⟩ = some t) (fun _ h => h) cl (fun _ _ h => h) (pu_var rfl) h.ins (by rfl) (au_cons (pu_var rfl) (au_cons (pu_var rfl) (au_cons (pu_var rfl) (au_cons (pu_var rfl) (au_cons (pu_var rfl) au_nil))))) ⟨A, W, b, p, o, k, a, s, rfl, X, ⟨p0, p1⟩, ⟨o0, o1⟩, ⟨k0, k1⟩, fun e => by rw [why_two (.inl rfl), if_pos e], fun e e2 => by rw [why_two (.inl rfl), if_neg e, if_pos e2], fun e e2 C' o' h' => ⟨(by rw [ans_num (by decide)]), by rw [why_two (.inl rfl), if_neg e, if_neg (by omega)], o', by rw [nx_hand e e2]; exact h'⟩⟩ (fun t h => h)) (fun x C' ⟨e1, e2, o', h'⟩ => by subst e1; exact rt_keep (q e2 C' o' h'))
  · skip
    refine ds_ifs (b := false) (ut_is (ut_test (pu_eqStr (pu_var rfl) pu_str)) (by decide +kernel)) (fun h => by cases h) (fun _ => ds_nextseq ?_)
    refine ds_ifs (b := false) (ut_is (ut_test (pu_eqStr (pu_var rfl) pu_str)) (by decide +kernel)) (fun h => by cases h) (fun _ => ds_nextseq ?_)
    refine ds_ifs (b := false) (ut_is (ut_test (pu_eqStr (pu_var rfl) pu_str)) (by decide +kernel)) (fun h => by cases h) (fun _ => ds_nextseq ?_)
    refine ds_ifs (b := true) (ut_is (ut_test (pu_eqStr (pu_var rfl) pu_str)) (by decide +kernel)) (fun _ => ?_) (fun h => by cases h)
    refine ds_retseq ?_
    exact ds_retE (ev_meth (P := fun x C' => x = .dat (ansT W ⟨"inspect", p, o, k, a, s⟩) ∧ whyM W ⟨"inspect", p, o, k, a, s⟩ = none ∧ Only A.own C C' ∧ TrAt C' CL_Trail A (nxtT W ⟨"inspect", p, o, k, a, s⟩)) (pu_var rfl) h.ins (by rfl) (au_cons (pu_var rfl) (au_cons (pu_var rfl) au_nil)) ⟨A, W, b, p, k, rfl, X, ⟨p0, p1⟩, ⟨k0, k1⟩, fun C' o' h' => ⟨(by rw [ans_ins]), why_inspect, o', by rw [nx_inspect]; exact h'⟩⟩) (fun x C' ⟨e1, e2, o', h'⟩ => by subst e1; exact rt_keep (q e2 C' o' h'))
  · skip
    refine ds_ifs (b := false) (ut_is (ut_test (pu_eqStr (pu_var rfl) pu_str)) (by decide +kernel)) (fun h => by cases h) (fun _ => ds_nextseq ?_)
    refine ds_ifs (b := false) (ut_is (ut_test (pu_eqStr (pu_var rfl) pu_str)) (by decide +kernel)) (fun h => by cases h) (fun _ => ds_nextseq ?_)
    refine ds_ifs (b := false) (ut_is (ut_test (pu_eqStr (pu_var rfl) pu_str)) (by decide +kernel)) (fun h => by cases h) (fun _ => ds_nextseq ?_)
    refine ds_ifs (b := false) (ut_is (ut_test (pu_eqStr (pu_var rfl) pu_str)) (by decide +kernel)) (fun h => by cases h) (fun _ => ds_nextseq ?_)
    refine ds_ifs (b := true) (ut_is (ut_test (pu_eqStr (pu_var rfl) pu_str)) (by decide +kernel)) (fun _ => ?_) (fun h => by cases h)
    refine ds_retseq ?_
    refine ds_retM (ex_meth (P := fun x C' => x = .dat (ansT W ⟨"pass", p, o, k, a, s⟩) ∧ whyM W ⟨"pass", p, o, k, a, s⟩ = none ∧ Only A.own C C' ∧ TrAt C' CL_Trail A (nxtT W ⟨"pass", p, o, k, a, s⟩)) (EX := fun t => whyM W ⟨"pass", p, o, k, a, s⟩ = some t) (fun _ h => h) cl (fun _ _ h => h) (pu_var rfl) h.ins (by rfl) (au_cons (pu_var rfl) (au_cons (pu_var rfl) (au_cons (pu_var rfl) (au_cons (pu_var rfl) au_nil)))) ⟨A, W, b, p, o, k, a, rfl, X, ⟨p0, p1⟩, ⟨o0, o1⟩, ⟨k0, k1⟩, fun e => by rw [why_two (.inr rfl), if_pos e], fun e e2 => by rw [why_two (.inr rfl), if_neg e, if_pos e2], fun e e2 C' o' h' => ⟨(by rw [ans_no (by decide) (by decide)]), by rw [why_two (.inr rfl), if_neg e, if_neg (by omega)], o', by rw [nx_pass e e2]; exact h'⟩⟩ (fun t h => h)) (fun x C' ⟨e1, e2, o', h'⟩ => by subst e1; exact rt_keep (q e2 C' o' h'))
  · skip
    refine ds_ifs (b := false) (ut_is (ut_test (pu_eqStr (pu_var rfl) pu_str)) (by decide +kernel)) (fun h => by cases h) (fun _ => ds_nextseq ?_)
    refine ds_ifs (b := false) (ut_is (ut_test (pu_eqStr (pu_var rfl) pu_str)) (by decide +kernel)) (fun h => by cases h) (fun _ => ds_nextseq ?_)
    refine ds_ifs (b := false) (ut_is (ut_test (pu_eqStr (pu_var rfl) pu_str)) (by decide +kernel)) (fun h => by cases h) (fun _ => ds_nextseq ?_)
    refine ds_ifs (b := false) (ut_is (ut_test (pu_eqStr (pu_var rfl) pu_str)) (by decide +kernel)) (fun h => by cases h) (fun _ => ds_nextseq ?_)
    refine ds_ifs (b := false) (ut_is (ut_test (pu_eqStr (pu_var rfl) pu_str)) (by decide +kernel)) (fun h => by cases h) (fun _ => ds_nextseq ?_)
    refine ds_ifs (b := true) (ut_is (ut_test (pu_eqStr (pu_var rfl) pu_str)) (by decide +kernel)) (fun _ => ?_) (fun h => by cases h)
    refine ds_retseq ?_
    refine ds_retM (ex_meth (P := fun x C' => x = .dat (ansT W ⟨"dump", p, o, k, a, s⟩) ∧ whyM W ⟨"dump", p, o, k, a, s⟩ = none ∧ Only A.own C C' ∧ TrAt C' CL_Trail A (nxtT W ⟨"dump", p, o, k, a, s⟩)) (EX := fun t => whyM W ⟨"dump", p, o, k, a, s⟩ = some t) (fun _ h => h) cl (fun _ _ h => h) (pu_var rfl) h.ins (by rfl) (au_cons (pu_var rfl) (au_cons (pu_var rfl) (au_cons (pu_var rfl) au_nil))) ⟨A, W, b, p, k, a, rfl, X, ⟨p0, p1⟩, ⟨k0, k1⟩, fun e => by rw [why_dump, if_pos e], fun e C' o' h' => ⟨(by rw [ans_no (by decide) (by decide)]), by rw [why_dump, if_neg (by omega)], o', by rw [nx_dump e]; exact h'⟩⟩ (fun t h => h)) (fun x C' ⟨e1, e2, o', h'⟩ => by subst e1; exact rt_keep (q e2 C' o' h'))
  · skip
    refine ds_ifs (b := false) (ut_is (ut_test (pu_eqStr (pu_var rfl) pu_str)) (by decide +kernel)) (fun h => by cases h) (fun _ => ds_nextseq ?_)
    refine ds_ifs (b := false) (ut_is (ut_test (pu_eqStr (pu_var rfl) pu_str)) (by decide +kernel)) (fun h => by cases h) (fun _ => ds_nextseq ?_)
    refine ds_ifs (b := false) (ut_is (ut_test (pu_eqStr (pu_var rfl) pu_str)) (by decide +kernel)) (fun h => by cases h) (fun _ => ds_nextseq ?_)
    refine ds_ifs (b := false) (ut_is (ut_test (pu_eqStr (pu_var rfl) pu_str)) (by decide +kernel)) (fun h => by cases h) (fun _ => ds_nextseq ?_)
    refine ds_ifs (b := false) (ut_is (ut_test (pu_eqStr (pu_var rfl) pu_str)) (by decide +kernel)) (fun h => by cases h) (fun _ => ds_nextseq ?_)
    refine ds_ifs (b := false) (ut_is (ut_test (pu_eqStr (pu_var rfl) pu_str)) (by decide +kernel)) (fun h => by cases h) (fun _ => ds_nextseq ?_)
    refine ds_ifs (b := true) (ut_is (ut_test (pu_eqStr (pu_var rfl) pu_str)) (by decide +kernel)) (fun _ => ?_) (fun h => by cases h)
    refine ds_retseq ?_
    refine ds_retM (ex_meth (P := fun x C' => x = .dat (ansT W ⟨"conjure", p, o, k, a, s⟩) ∧ whyM W ⟨"conjure", p, o, k, a, s⟩ = none ∧ Only A.own C C' ∧ TrAt C' CL_Trail A (nxtT W ⟨"conjure", p, o, k, a, s⟩)) (EX := fun t => whyM W ⟨"conjure", p, o, k, a, s⟩ = some t) (fun _ h => h) cl (fun _ _ h => h) (pu_var rfl) h.ins (by rfl) (au_cons (pu_var rfl) (au_cons (pu_var rfl) (au_cons (pu_var rfl) au_nil))) ⟨A, W, b, p, k, a, rfl, X, ⟨p0, p1⟩, ⟨k0, k1⟩, fun e => by rw [why_conjure, if_pos e], fun e C' o' h' => ⟨(by rw [ans_no (by decide) (by decide)]), by rw [why_conjure, if_neg (by rw [e]; decide)], o', by rw [nx_conjure e]; exact h'⟩⟩ (fun t h => h)) (fun x C' ⟨e1, e2, o', h'⟩ => by subst e1; exact rt_keep (q e2 C' o' h'))
  · skip
    refine ds_ifs (b := false) (ut_is (ut_test (pu_eqStr (pu_var rfl) pu_str)) (by decide +kernel)) (fun h => by cases h) (fun _ => ds_nextseq ?_)
    refine ds_ifs (b := false) (ut_is (ut_test (pu_eqStr (pu_var rfl) pu_str)) (by decide +kernel)) (fun h => by cases h) (fun _ => ds_nextseq ?_)
    refine ds_ifs (b := false) (ut_is (ut_test (pu_eqStr (pu_var rfl) pu_str)) (by decide +kernel)) (fun h => by cases h) (fun _ => ds_nextseq ?_)
    refine ds_ifs (b := false) (ut_is (ut_test (pu_eqStr (pu_var rfl) pu_str)) (by decide +kernel)) (fun h => by cases h) (fun _ => ds_nextseq ?_)
    refine ds_ifs (b := false) (ut_is (ut_test (pu_eqStr (pu_var rfl) pu_str)) (by decide +kernel)) (fun h => by cases h) (fun _ => ds_nextseq ?_)
    refine ds_ifs (b := false) (ut_is (ut_test (pu_eqStr (pu_var rfl) pu_str)) (by decide +kernel)) (fun h => by cases h) (fun _ => ds_nextseq ?_)
    refine ds_ifs (b := false) (ut_is (ut_test (pu_eqStr (pu_var rfl) pu_str)) (by decide +kernel)) (fun h => by cases h) (fun _ => ds_nextseq ?_)
    refine ds_ifs (b := true) (ut_is (ut_test (pu_eqStr (pu_var rfl) pu_str)) (by decide +kernel)) (fun _ => ?_) (fun h => by cases h)
    refine ds_retseq ?_
    refine ds_retM (ex_meth (P := fun x C' => x = .dat (ansT W ⟨"sign", p, o, k, a, s⟩) ∧ whyM W ⟨"sign", p, o, k, a, s⟩ = none ∧ Only A.own C C' ∧ TrAt C' CL_Trail A (nxtT W ⟨"sign", p, o, k, a, s⟩)) (EX := fun t => whyM W ⟨"sign", p, o, k, a, s⟩ = some t) (fun _ h => h) cl (fun _ _ h => h) (pu_var rfl) h.ins (by rfl) (au_cons (pu_var rfl) (au_cons (pu_var rfl) (au_cons (pu_var rfl) (au_cons (pu_var rfl) (au_cons (pu_var rfl) au_nil))))) ⟨A, W, b, p, o, k, a, s, rfl, X, ⟨p0, p1⟩, ⟨o0, o1⟩, fun e => by rw [why_sign, if_pos e], fun e C' o' h' => ⟨(by rw [ans_num (by decide)]), by rw [why_sign, if_neg e], o', by rw [nx_sign e]; exact h'⟩⟩ (fun t h => h)) (fun x C' ⟨e1, e2, o', h'⟩ => by subst e1; exact rt_keep (q e2 C' o' h'))
  · skip
    refine ds_ifs (b := false) (ut_is (ut_test (pu_eqStr (pu_var rfl) pu_str)) (by decide +kernel)) (fun h => by cases h) (fun _ => ds_nextseq ?_)
    refine ds_ifs (b := false) (ut_is (ut_test (pu_eqStr (pu_var rfl) pu_str)) (by decide +kernel)) (fun h => by cases h) (fun _ => ds_nextseq ?_)
    refine ds_ifs (b := false) (ut_is (ut_test (pu_eqStr (pu_var rfl) pu_str)) (by decide +kernel)) (fun h => by cases h) (fun _ => ds_nextseq ?_)
    refine ds_ifs (b := false) (ut_is (ut_test (pu_eqStr (pu_var rfl) pu_str)) (by decide +kernel)) (fun h => by cases h) (fun _ => ds_nextseq ?_)
    refine ds_ifs (b := false) (ut_is (ut_test (pu_eqStr (pu_var rfl) pu_str)) (by decide +kernel)) (fun h => by cases h) (fun _ => ds_nextseq ?_)
    refine ds_ifs (b := false) (ut_is (ut_test (pu_eqStr (pu_var rfl) pu_str)) (by decide +kernel)) (fun h => by cases h) (fun _ => ds_nextseq ?_)
    refine ds_ifs (b := false) (ut_is (ut_test (pu_eqStr (pu_var rfl) pu_str)) (by decide +kernel)) (fun h => by cases h) (fun _ => ds_nextseq ?_)
    refine ds_ifs (b := false) (ut_is (ut_test (pu_eqStr (pu_var rfl) pu_str)) (by decide +kernel)) (fun h => by cases h) (fun _ => ds_nextseq ?_)
    refine ds_ifs (b := true) (ut_is (ut_test (pu_eqStr (pu_var rfl) pu_str)) (by decide +kernel)) (fun _ => ?_) (fun h => by cases h)
    refine ds_assoc (ds_set (x := S (claimM p o s)) (pu_ixL (pu_fz (ds := [.str "made", .str "treated", .str "gave", .str "took"]) (pl_lst (au_cons pu_str (au_cons pu_str (au_cons pu_str (au_cons pu_str au_nil)))) (lk rfl))) (pu_add (pu_cb (au_cons (pu_var rfl) au_nil) rc_intB) (pu_mul pu_int (pu_cb (au_cons (pu_neI (pu_var rfl) (pu_var rfl)) au_nil) rc_intB) (.inr ⟨by split <;> decide, by split <;> decide⟩))) ?_) (ds_retseq ?_))
    · unfold claimM
      by_cases hpo : p = o
      · rw [if_pos hpo, decide_eq_true hpo]
        cases s <;> rfl
      · rw [if_neg hpo, decide_eq_false hpo]
        cases s <;> rfl
    refine ds_retM (ex_meth (P := fun x C' => x = .dat (ansT W ⟨"write", p, o, k, a, s⟩) ∧ whyM W ⟨"write", p, o, k, a, s⟩ = none ∧ Only A.own C C' ∧ TrAt C' CL_Trail A (nxtT W ⟨"write", p, o, k, a, s⟩)) (EX := fun t => whyM W ⟨"write", p, o, k, a, s⟩ = some t) (fun _ h => h) cl (fun _ _ h => h) (pu_var rfl) h.ins (by rfl) (au_cons (pu_var rfl) (au_cons (pu_var rfl) (au_cons (pu_var rfl) (au_cons (pu_var rfl) (au_cons (pu_var rfl) au_nil))))) ⟨A, W, b, p, claimM p o s, k, a, o, rfl, X, ⟨p0, p1⟩, fun e e2 => absurd e2 (claim_cp.mp e), fun _ C' o' h' => ⟨(by rw [ans_num (by decide)]), why_write, o', by rw [nx_write, ← wri_eq]; exact h'⟩⟩ (fun t h => h)) (fun x C' ⟨e1, e2, o', h'⟩ => by subst e1; exact rt_keep (q e2 C' o' h'))
  · skip
    refine ds_ifs (b := false) (ut_is (ut_test (pu_eqStr (pu_var rfl) pu_str)) (by decide +kernel)) (fun h => by cases h) (fun _ => ds_nextseq ?_)
    refine ds_ifs (b := false) (ut_is (ut_test (pu_eqStr (pu_var rfl) pu_str)) (by decide +kernel)) (fun h => by cases h) (fun _ => ds_nextseq ?_)
    refine ds_ifs (b := false) (ut_is (ut_test (pu_eqStr (pu_var rfl) pu_str)) (by decide +kernel)) (fun h => by cases h) (fun _ => ds_nextseq ?_)
    refine ds_ifs (b := false) (ut_is (ut_test (pu_eqStr (pu_var rfl) pu_str)) (by decide +kernel)) (fun h => by cases h) (fun _ => ds_nextseq ?_)
    refine ds_ifs (b := false) (ut_is (ut_test (pu_eqStr (pu_var rfl) pu_str)) (by decide +kernel)) (fun h => by cases h) (fun _ => ds_nextseq ?_)
    refine ds_ifs (b := false) (ut_is (ut_test (pu_eqStr (pu_var rfl) pu_str)) (by decide +kernel)) (fun h => by cases h) (fun _ => ds_nextseq ?_)
    refine ds_ifs (b := false) (ut_is (ut_test (pu_eqStr (pu_var rfl) pu_str)) (by decide +kernel)) (fun h => by cases h) (fun _ => ds_nextseq ?_)
    refine ds_ifs (b := false) (ut_is (ut_test (pu_eqStr (pu_var rfl) pu_str)) (by decide +kernel)) (fun h => by cases h) (fun _ => ds_nextseq ?_)
    refine ds_ifs (b := false) (ut_is (ut_test (pu_eqStr (pu_var rfl) pu_str)) (by decide +kernel)) (fun h => by cases h) (fun _ => ds_nextseq ?_)
    refine ds_retM (ex_meth (P := fun x C' => x = .dat (ansT W ⟨"omit", p, o, k, a, s⟩) ∧ whyM W ⟨"omit", p, o, k, a, s⟩ = none ∧ Only A.own C C' ∧ TrAt C' CL_Trail A (nxtT W ⟨"omit", p, o, k, a, s⟩)) (EX := fun t => whyM W ⟨"omit", p, o, k, a, s⟩ = some t) (fun _ h => h) cl (fun _ _ h => h) (pu_var rfl) h.ins (by rfl) (au_cons (pu_var rfl) (au_cons (pu_var rfl) au_nil)) ⟨A, W, b, p, a, rfl, X, ⟨p0, p1⟩, fun e => by rw [why_omit, if_pos (fun z => by obtain ⟨x, hx, hn⟩ := List.mem_map.mp z; exact e x hx hn)], fun j e hj hn hno C' o' h' => ?_⟩ (fun t h => h)) (fun x C' ⟨e1, e2, o', h'⟩ => by subst e1; exact rt_keep (q e2 C' o' h'))
    have hm : a ∈ (W.file p).map Ent.n := List.mem_map.mpr ⟨e, List.mem_of_getElem? hj, hn⟩
    obtain ⟨e', h1, h2, h3⟩ := idx_at hm
    have ej : idxN (W.file p) a = j := by
      rcases Nat.lt_trichotomy (idxN (W.file p) a) j with c | c | c
      · exact absurd h2 (hno _ _ c h1)
      · exact c
      · exact absurd hn (h3 _ _ c hj)
    refine ⟨(by rw [ans_no (by decide) (by decide)]), by rw [why_omit, if_neg (fun z => z hm)], o', ?_⟩
    rw [nx_omit hm, ej]
    exact h'

abbrev s__law_written : Stmt := topS 27
abbrev N__law_written : List Str := ["trail", "claim", "e"]
theorem sc__law_written : FnScope N__law_written ["trail", "claim"] (defScope s__law_written) := ⟨rfl, rfl, rfl, by decide +kernel, rfl, by decide +kernel, by decide +kernel⟩

theorem ok__law_written {RC fI : Addr} {fdI : FuncData} (RT : RefT K mg base RC fI fdI) {CL_Trail : Addr} (CT_Trail : ClsT K mg CL_Trail "Trail" ["_kinds", "_parties", "_have", "_files", "_finds", "_events", "_given", "_liars"]) {f__law_written : Addr} {fd__law_written : FuncData} (F__law_written : Fun K.K "_law_written" "_law_written" s__law_written f__law_written fd__law_written) {f_Trail_write : Addr} {fd_Trail_write : FuncData} (F_Trail_write : Fun K.K "write" "Trail.write" s_Trail_write f_Trail_write fd_Trail_write) (G_Trail_write : FnOk K.P K.w K.K mg base (L2.CX K.P K.w) 4 f_Trail_write fd_Trail_write ["self", "party", "deed", "kind", "amount", "other"] (SpX K RC (rel_Trail_write CL_Trail))) (b_Trail_write : Binds K.K fd_Trail_write ["self", "party", "deed", "kind", "amount", "other"] []) (M_Trail_write : Meth K.K CL_Trail "write" f_Trail_write) : FnOk K.P K.w K.K mg base CX0 5 f__law_written fd__law_written ["trail", "claim"] (SpG K (rel__law_written CL_Trail)) := by
  refine ok_def F__law_written sc__law_written (fun C xs R h => by obtain ⟨_, _, _, _, rfl, _⟩ := h; rfl) (fun cdv A outer s H E hr => ?_)
  refine ⟨_, (pss_one (ps_tryR K.K rfl (i := 2) rfl rfl sc__law_written.nd rfl rfl ⟨rfl, by decide, Or.inl RT.gC⟩ takes0 (fun W pn xe tk _ => (pss_one (ps_ret (pe_methX (pv 0) CT_Trail.cl M_Trail_write G_Trail_write (hr.mono (by decide)) b_Trail_write (fun σ => passAt tk σ) (pa_cons pe_int (pa_cons (pv 1) (pa_cons pe_int (pa_cons pe_int (pa_cons pe_int pa_nil))))))))) (fun a oe cls d pn hz hf => pss_one (ps_ret (pe_xf RT.xf RT.no hz hf (pv 2)))))), ?_⟩
  rintro C xs R cl ⟨A, W, b, w, rfl, X, hw, q⟩
  obtain ⟨h, ok, hb⟩ := id X
  refine ds_try (EX := fun t => t = "same party") RT.te (show 2 < 3 by decide) (fun WX => ?_) (fun t ht => by rw [ht]; exact rt_keep q)
  exact ds_retM (ex_meth (P := fun x C' => False) (EX := fun t => t = "same party") (fun _ h => h) cl (fun _ _ h => h) (pu_var rfl) h.ins (by rfl) (au_cons pu_int (au_cons (pu_var rfl) (au_cons pu_int (au_cons pu_int (au_cons pu_int au_nil))))) ⟨A, W, b, 0, w, 0, 1, 0, rfl, X, ⟨Int.le_refl _, by have := ok.m0; omega⟩, fun _ _ => rfl, fun z => absurd ⟨hw, rfl⟩ z⟩ (fun t h => h)) (fun x C' z => z.elim)

end
end K40

set_option maxHeartbeats 40000000
namespace K40
open PySem PySem.Spec PyProof.Rows L2 Ab Lm Hm Wda
open Trl
section
variable {K : Kw} {mg : Str → Option Value} {base : Heap}
abbrev s__law_why_not : Stmt := topS 24
abbrev N__law_why_not : List Str := ["world", "deed", "word", "party", "other", "kind", "amount", "is_sealed", "row"]
theorem sc__law_why_not : FnScope N__law_why_not ["world", "deed"] (defScope s__law_why_not) := ⟨rfl, rfl, rfl, by decide +kernel, rfl, by decide +kernel, by decide +kernel⟩

theorem ok__law_why_not {f__law_why_not : Addr} {fd__law_why_not : FuncData} (F__law_why_not : Fun K.K "_law_why_not" "_law_why_not" s__law_why_not f__law_why_not fd__law_why_not) : FnOk K.P K.w K.K mg base CX0 1 f__law_why_not fd__law_why_not ["world", "deed"] (SpG K rel__law_why_not) := by
  refine ok_def F__law_why_not sc__law_why_not (fun C xs R h => by obtain ⟨_, _, _, _, rfl, _⟩ := h; rfl) (fun cdv A outer s H E hr => ?_)
  refine ⟨_, (pss_cons (ps_asg (pv 1) (pg_tup rfl (pgs_cons (pg_name (i := 2) sc__law_why_not.nd rfl (Or.inl rfl)) (pgs_cons (pg_name (i := 3) sc__law_why_not.nd rfl (Or.inl rfl)) (pgs_cons (pg_name (i := 4) sc__law_why_not.nd rfl (Or.inl rfl)) (pgs_cons (pg_name (i := 5) sc__law_why_not.nd rfl (Or.inl rfl)) (pgs_cons (pg_name (i := 6) sc__law_why_not.nd rfl (Or.inl rfl)) (pgs_cons (pg_name (i := 7) sc__law_why_not.nd rfl (Or.inl rfl)) pgs_nil))))))))
  (pss_cons (ps_if (PW.pt (pw_and (pt_cmpR (kx_in K.K rfl) (pv 2) (pe_tup (pa_cons pe_str (pa_cons pe_str (pa_cons pe_str pa_nil)))) (by rfl)) (pw_and1 (pt_cmpR op_eq (pv 3) (pv 4) (nomark _))))) (pss_one (ps_ret pe_str)) pss_nil)
  (pss_cons (ps_if (PW.pt (pw_and (pt_cmpR (kx_in K.K rfl) (pv 2) (pe_tup (pa_cons pe_str (pa_cons pe_str pa_nil))) (by rfl)) (pw_and1 (pt_not (pt_val (pe_ix (kx_ixT K.K rfl) (pe_ix (kx_ixT K.K rfl) (pe_dget hr.unit1 (pv 0) pe_str (fun _ _ => rfl)) (pv 3) (fun _ _ => rfl)) pe_int (fun _ _ => rfl))))))) (pss_one (ps_ret pe_str)) pss_nil)
  (pss_cons (ps_if (PW.pt (pw_and (pt_cmpR op_eq (pv 2) pe_str (nomark _)) (pw_and1 (pt_not (pt_val (pe_ix (kx_ixT K.K rfl) (pe_ix (kx_ixT K.K rfl) (pe_dget hr.unit1 (pv 0) pe_str (fun _ _ => rfl)) (pv 3) (fun _ _ => rfl)) pe_int (fun _ _ => rfl))))))) (pss_one (ps_ret pe_str)) pss_nil)
  (pss_cons (ps_if (PW.pt (pw_and (pt_cmpR (kx_in K.K rfl) (pv 2) (pe_tup (pa_cons pe_str (pa_cons pe_str (pa_cons pe_str (pa_cons pe_str pa_nil))))) (by rfl)) (pw_and1 (pt_cmpR op_lt (pe_ix (kx_ixL K.K rfl) (pe_ix (kx_ixL K.K rfl) (pe_dget hr.unit1 (pv 0) pe_str (fun _ _ => rfl)) (pv 3) (fun _ _ => rfl)) (pv 5) (fun _ _ => rfl)) (pv 6) (nomark _))))) (pss_one (ps_ret pe_str)) pss_nil)
  (pss_cons (ps_if (PW.pt (pw_and (pt_cmpR op_eq (pv 2) pe_str (nomark _)) (pw_and1 (pt_cmpR (kx_notIn K.K rfl) (pv 6) (pe_lc (own := [("row", 8)]) rfl sc__law_why_not.nd (kx_pList K.K rfl (pe_ix (kx_ixL K.K rfl) (pe_dget hr.unit1 (pv 0) pe_str (fun _ _ => rfl)) (pv 3) (fun _ _ => rfl))) (blkOk_by (N := N__law_why_not) (sc := defScope s__law_why_not) (by decide +kernel)) (fun _ _ _ _ _ => (pg_name (i := 8) sc__law_why_not.nd rfl (Or.inl rfl) (Or.inr rfl))) (fun _ _ _ _ _ => pts_nil) (fun _ _ _ _ _ => (pe_ix (kx_ixT K.K rfl) (pv 8) pe_int (fun _ _ => rfl)))) (by rfl))))) (pss_one (ps_ret pe_str)) pss_nil)
  (pss_one (ps_ret pe_str)))))))), ?_⟩
  rintro C xs R cl ⟨A, W, b, ⟨w, p, o, k, a, s⟩, rfl, h, ok, hb, ⟨p0, p1, o0, o1, k0, k1⟩, q⟩
  have p0 : 0 ≤ p := p0
  have p1 : p < W.pf.length := p1
  have k0 : 0 ≤ k := k0
  have k1 : k < W.kd := k1
  obtain ⟨r, r1, r2, r3⟩ := h.file p0 (by rw [ok.fl]; omega)
  have zf : (W.file p).length ≤ b := by
    unfold Wd.file
    rw [List.getD_eq_getElem?_getD, List.getElem?_eq_getElem (by rw [ok.fl]; omega)]
    exact ok.fb _ (List.getElem_mem _)
  unfold whyM at q
  dsimp only at q
  refine ds_tgt (pu_var rfl) (tg_tup (ds := [.str w, .int p, .int o, .int k, .int a, .bool s]) (tgl_cons tg_name (tgl_cons tg_name (tgl_cons tg_name (tgl_cons tg_name (tgl_cons tg_name (tgl_cons tg_name tgl_nil)))))) rfl) ?_
  refine ds_ifs (ut_and (ut_test (pu_in (ss := ["hand", "pass", "sign"]) (pu_var rfl) (pu_tup (ds := [.str "hand", .str "pass", .str "sign"]) (au_cons pu_str (au_cons pu_str (au_cons pu_str au_nil))) (lk rfl)))) fun h => (ut_test (pu_eqI (pu_var rfl) (pu_var rfl)))) (fun hc => ?_) (fun hc => ds_nextseq ?_)
  · rw [Bool.and_eq_true, decide_eq_true_iff, decide_eq_true_iff] at hc
    rw [if_pos hc] at q
    exact ds_retseq (ds_ret pu_str (rt_dat cl Mor.refl q))
  rw [if_neg (fun z => by rw [decide_eq_true z.1, decide_eq_true z.2] at hc; cases hc)] at q
  refine ds_ifs (b := decide (w ∈ (["make", "conjure"] : List Str)) && !(pfAt W.pf p).1) (ut_and (ut_test (pu_in (ss := ["make", "conjure"]) (pu_var rfl) (pu_tup (ds := [.str "make", .str "conjure"]) (au_cons pu_str (au_cons pu_str au_nil)) (lk rfl)))) fun _ => (ut_not (ut_B (pu_ixT (pu_wpf h p0 p1 (pu_var rfl) (pu_var rfl)) pu_int rfl)))) (fun hc => ?_) (fun hc => ds_nextseq ?_)
  · rw [Bool.and_eq_true, decide_eq_true_iff, Bool.not_eq_true'] at hc
    rw [if_pos hc] at q
    exact ds_retseq (ds_ret pu_str (rt_dat cl Mor.refl q))
  rw [if_neg (fun z => by rw [decide_eq_true z.1, z.2] at hc; cases hc)] at q
  refine ds_ifs (b := decide (w = ("treat" : Str)) && !(pfAt W.pf p).2) (ut_and (ut_test (pu_eqStr (pu_var rfl) pu_str)) fun _ => (ut_not (ut_B (pu_ixT (pu_wpf h p0 p1 (pu_var rfl) (pu_var rfl)) pu_int rfl)))) (fun hc => ?_) (fun hc => ds_nextseq ?_)
  · rw [Bool.and_eq_true, decide_eq_true_iff, Bool.not_eq_true'] at hc
    rw [if_pos hc] at q
    exact ds_retseq (ds_ret pu_str (rt_dat cl Mor.refl q))
  rw [if_neg (fun z => by rw [decide_eq_true z.1, z.2] at hc; cases hc)] at q
  refine ds_ifs (ut_and (ut_test (pu_in (ss := ["treat", "hand", "pass", "dump"]) (pu_var rfl) (pu_tup (ds := [.str "treat", .str "hand", .str "pass", .str "dump"]) (au_cons pu_str (au_cons pu_str (au_cons pu_str (au_cons pu_str au_nil)))) (lk rfl)))) fun _ => (ut_test (pu_lt (pu_wst h ok.st p0 p1 k0 k1 (pu_dget (pu_var rfl) pu_str h.dic gk_stock) (pu_var rfl) (pu_var rfl)) (pu_var rfl)))) (fun hc => ?_) (fun hc => ds_nextseq ?_)
  · rw [Bool.and_eq_true, decide_eq_true_iff, decide_eq_true_iff] at hc
    rw [if_pos hc] at q
    exact ds_retseq (ds_ret pu_str (rt_dat cl Mor.refl q))
  rw [if_neg (fun z => by rw [decide_eq_true z.1, decide_eq_true z.2] at hc; cases hc)] at q
  refine ds_ifs (ut_and (ut_test (pu_eqStr (pu_var rfl) pu_str)) fun _ => (ut_test (pu_notInL (ss := (W.file p).map Ent.n) (pu_var rfl) (pu_is (pu_lcC (D := entD) (l := W.file p) (fun e => .int e.n) (pu_ixM (pu_wfiles h (pu_var rfl)) (pu_var rfl) h.files.top r3) r2 (by omega) fun i e C' m he => ⟨_, [8], by simp, tg_name, by obtain ⟨ds, hds, e0, _⟩ := ent_0 e; exact pu_ixT (pu_is (pu_var rfl) (by rw [hds])) pu_int e0⟩) (by rw [List.map_map]; rfl))))) (fun hc => ?_) (fun hc => ds_nextseq ?_)
  · rw [Bool.and_eq_true, decide_eq_true_iff, Bool.not_eq_true', decide_eq_false_iff_not] at hc
    rw [if_pos hc] at q
    exact ds_retseq (ds_ret pu_str (rt_dat cl Mor.refl q))
  rw [if_neg (fun z => by rw [decide_eq_true z.1, decide_eq_false z.2] at hc; cases hc)] at q
  exact ds_ret pu_str (rt_dat cl Mor.refl q)

abbrev s__law_modelled : Stmt := topS 25
abbrev N__law_modelled : List Str := ["world", "deed", "word", "party", "other", "kind", "amount", "is_sealed", "at", "row"]
theorem sc__law_modelled : FnScope N__law_modelled ["world", "deed"] (defScope s__law_modelled) := ⟨rfl, rfl, rfl, by decide +kernel, rfl, by decide +kernel, by decide +kernel⟩

theorem ok__law_modelled {f__law_modelled : Addr} {fd__law_modelled : FuncData} (F__law_modelled : Fun K.K "_law_modelled" "_law_modelled" s__law_modelled f__law_modelled fd__law_modelled) {f__law_did : Addr} {fd__law_did : FuncData} (F__law_did : Fun K.K "_law_did" "_law_did" s__law_did f__law_did fd__law_did) (G__law_did : FnOk K.P K.w K.K mg base CX0 3 f__law_did fd__law_did ["world", "deed"] (SpG K rel__law_did)) (b__law_did : Binds K.K fd__law_did ["world", "deed"] []) (g__law_did : mg "_law_did" = some (.ref f__law_did)) : FnOk K.P K.w K.K mg base CX0 4 f__law_modelled fd__law_modelled ["world", "deed"] (SpG K rel__law_modelled) := by
  refine ok_def F__law_modelled sc__law_modelled (fun C xs R h => by obtain ⟨_, _, _, _, rfl, _⟩ := h; rfl) (fun cdv A outer s H E hr => ?_)
  refine ⟨_, (pss_cons (ps_asg (pv 1) (pg_tup rfl (pgs_cons (pg_name (i := 2) sc__law_modelled.nd rfl (Or.inl rfl)) (pgs_cons (pg_name (i := 3) sc__law_modelled.nd rfl (Or.inl rfl)) (pgs_cons (pg_name (i := 4) sc__law_modelled.nd rfl (Or.inl rfl)) (pgs_cons (pg_name (i := 5) sc__law_modelled.nd rfl (Or.inl rfl)) (pgs_cons (pg_name (i := 6) sc__law_modelled.nd rfl (Or.inl rfl)) (pgs_cons (pg_name (i := 7) sc__law_modelled.nd rfl (Or.inl rfl)) pgs_nil))))))))
  (pss_cons (ps_if (pt_cmpR op_eq (pv 2) pe_str (nomark _)) (pss_cons (ps_set (i := 8) sc__law_modelled.nd rfl (Or.inl rfl) (pe_bm PySem.F.plainAttrs_list PySem.F.slot_list_index PySem.F.type_list_index (kx_indexI K.K rfl) (pe_lc (own := [("row", 9)]) rfl sc__law_modelled.nd (kx_pList K.K rfl (pe_ix (kx_ixL K.K rfl) (pe_dget hr.unit1 (pv 0) pe_str (fun _ _ => rfl)) (pv 3) (fun _ _ => rfl))) (blkOk_by (N := N__law_modelled) (sc := defScope s__law_modelled) (by decide +kernel)) (fun _ _ _ _ _ => (pg_name (i := 9) sc__law_modelled.nd rfl (Or.inl rfl) (Or.inr rfl))) (fun _ _ _ _ _ => pts_nil) (fun _ _ _ _ _ => (pe_ix (kx_ixT K.K rfl) (pv 9) pe_int (fun _ _ => rfl)))) (pa_cons (pv 6) pa_nil)))
  (pss_cons (ps_expr (pe_call G__law_did (hr.mono (by decide)) (by rfl) g__law_did F__law_did.kp b__law_did .nil pass0 (pa_cons (pv 0) (pa_cons (pe_tup (pa_cons (pv 2) (pa_cons (pv 3) (pa_cons (pv 4) (pa_cons (pv 5) (pa_cons (pv 8) (pa_cons (pv 7) pa_nil))))))) pa_nil))))
  (pss_one (ps_ret pe_non)))) pss_nil)
  (pss_cons (ps_expr (pe_call G__law_did (hr.mono (by decide)) (by rfl) g__law_did F__law_did.kp b__law_did .nil pass0 (pa_cons (pv 0) (pa_cons (pv 1) pa_nil))))
  (pss_cons (ps_if (pt_cmpR op_eq (pv 2) pe_str (nomark _)) (pss_one (ps_ret (pe_ix (kx_ixL K.K rfl) (pe_ix (kx_ixL K.K rfl) (pe_dget hr.unit1 (pv 0) pe_str (fun _ _ => rfl)) (pv 3) (fun _ _ => rfl)) (pv 5) (fun _ _ => rfl)))) pss_nil)
  (pss_one (ps_ret (pe_ifExp (pt_cmpR (kx_in K.K rfl) (pv 2) (pe_tup (pa_cons pe_str (pa_cons pe_str (pa_cons pe_str (pa_cons pe_str (pa_cons pe_str pa_nil)))))) (by rfl)) (pe_dget hr.unit1 (pv 0) pe_str (fun _ _ => rfl)) pe_non))))))), ?_⟩
  rintro C xs R cl ⟨A, W, b, ⟨w, p, o, k, a, s⟩, rfl, h, ok, hb, dk, hw, hy, q⟩
  obtain ⟨p0, p1, o0, o1, k0, k1⟩ := id dk
  have p0 : 0 ≤ p := p0
  have p1 : p < W.pf.length := p1
  have k0 : 0 ≤ k := k0
  have k1 : k < W.kd := k1
  have ndl := nxt_ok ok dk
  refine ds_tgt (pu_var rfl) (tg_tup (ds := [.str w, .int p, .int o, .int k, .int a, .bool s]) (tgl_cons tg_name (tgl_cons tg_name (tgl_cons tg_name (tgl_cons tg_name (tgl_cons tg_name (tgl_cons tg_name tgl_nil)))))) rfl) ?_
  refine ds_ifs (ut_test (pu_eqStr (pu_var rfl) pu_str)) (fun hc => ?_) (fun hc => ds_nextseq ?_)
  · obtain rfl := of_decide_eq_true hc
    obtain ⟨r, r1, r2, r3⟩ := h.file p0 (by rw [ok.fl]; omega)
    have zf : (W.file p).length ≤ b := by
      unfold Wd.file
      rw [List.getD_eq_getElem?_getD, List.getElem?_eq_getElem (by rw [ok.fl]; omega)]
      exact ok.fb _ (List.getElem_mem _)
    have hm : a ∈ (W.file p).map Ent.n := by
      rw [why_omit] at hy
      split at hy
      · cases hy
      · rename_i c
        simpa using c
    obtain ⟨e, h1, h2, h3⟩ := idx_at hm
    refine ds_assoc (ds_set (x := I ((idxN (W.file p) a : Nat) : Int)) (pu_index (ns := (W.file p).map Ent.n) (pu_is (pu_lcC (D := entD) (l := W.file p) (fun e => .int e.n) (pu_ixM (pu_wfiles h (pu_var rfl)) (pu_var rfl) h.files.top r3) r2 (by omega) fun i e C' m he => ⟨_, [9], by simp, tg_name, by obtain ⟨ds, hds, e0, _⟩ := ent_0 e; exact pu_ixT (pu_is (pu_var rfl) (by rw [hds])) pu_int e0⟩) (by rw [List.map_map]; rfl)) (pu_var rfl) (by rw [List.getElem?_map, h1]; exact congrArg some h2) fun m hm' => ?_) ?_)
    · rw [List.getElem?_map]
      cases e5 : (W.file p)[m]? with
      | none => simp
      | some x =>
        intro z
        exact h3 m x hm' e5 (Option.some.inj z)
    refine ds_assoc (ds_drop (ev_call (P := fun x C' => Only A.own C C' ∧ WdAt C' A (nxtT W ⟨"omit", p, o, k, a, s⟩)) (au_cons (pu_var rfl) (au_cons (pu_tup (ds := [.str "omit", .int p, .int o, .int k, .int ((idxN (W.file p) a : Nat) : Int), .bool s]) (au_cons (pu_var rfl) (au_cons (pu_var rfl) (au_cons (pu_var rfl) (au_cons (pu_var rfl) (au_cons (pu_var rfl) (au_cons (pu_var rfl) au_nil)))))) (lk rfl)) au_nil)) ⟨A, W, ⟨"omit", p, o, k, ((idxN (W.file p) a : Nat) : Int), s⟩, b, rfl, h, ok, by omega, did_k (d := ⟨"omit", p, o, k, a, s⟩) dk, fun C' o' h' => ⟨o', ?_⟩⟩) ?_)
    · rw [did_step] at h'
      unfold nxtT didD
      rw [if_pos rfl]
      exact h'
    rintro _ C1 ⟨o1', h1'⟩
    refine ds_retseq (ds_ret (x := .dat (ansT W ⟨"omit", p, o, k, a, s⟩)) (pu_is pu_no (by rw [ans_no (by decide) (by decide)])) (rt_keep (q C1 o1' h1')))
  have nw : w ≠ "omit" := of_decide_eq_false hc
  refine ds_drop (ev_call (P := fun x C' => Only A.own C C' ∧ WdAt C' A (nxtT W ⟨w, p, o, k, a, s⟩)) (au_cons (pu_var rfl) (au_cons (pu_var rfl) au_nil)) ⟨A, W, ⟨w, p, o, k, a, s⟩, b, rfl, h, ok, by omega, dk, fun C' o' h' => ⟨o', ?_⟩⟩) ?_
  · rw [did_step] at h'
    unfold nxtT
    rw [did_same nw]
    exact h'
  rintro _ C1 ⟨o1', h1'⟩
  have q := q C1 o1' h1'
  refine ds_ifs (ut_test (pu_eqStr (pu_var rfl) pu_str)) (fun hc => ?_) (fun hc => ds_nextseq ?_)
  · obtain rfl := of_decide_eq_true hc
    rw [ans_ins] at q
    refine ds_retseq (ds_ret (x := I (getM W.stock p k)) ?_ (rt_keep q))
    rw [nx_inspect] at h1'
    exact pu_wst (W := insM W p k) h1' (show Shp W.pf.length W.kd W.stock from ok.st) p0 p1 k0 k1 (pu_dget (pu_var rfl) pu_str h1'.dic gk_stock) (pu_var rfl) (pu_var rfl)
  have ni : w ≠ "inspect" := of_decide_eq_false hc
  refine ds_ret (pu_if (ut_test (pu_in (ss := ["make", "treat", "hand", "sign", "write"]) (pu_var rfl) (pu_tup (ds := [.str "make", .str "treat", .str "hand", .str "sign", .str "write"]) (au_cons pu_str (au_cons pu_str (au_cons pu_str (au_cons pu_str (au_cons pu_str au_nil))))) (lk rfl)))) (fun hc => (pu_is (pu_dget (pu_var rfl) pu_str h1'.dic gk_last) (by rw [ans_num (of_decide_eq_true hc), nx_last (of_decide_eq_true hc) hy]))) (fun hc => pu_is pu_no (by rw [ans_no (of_decide_eq_false hc) ni]))) (rt_keep q)

abbrev s__law_is_it : Stmt := topS 26
abbrev N__law_is_it : List Str := ["trail", "world", "party", "kind"]
theorem sc__law_is_it : FnScope N__law_is_it ["trail", "world"] (defScope s__law_is_it) := ⟨rfl, rfl, rfl, by decide +kernel, rfl, by decide +kernel, by decide +kernel⟩

theorem ok__law_is_it {CL_Trail : Addr} (CT_Trail : ClsT K mg CL_Trail "Trail" ["_kinds", "_parties", "_have", "_files", "_finds", "_events", "_given", "_liars"]) {f__law_is_it : Addr} {fd__law_is_it : FuncData} (F__law_is_it : Fun K.K "_law_is_it" "_law_is_it" s__law_is_it f__law_is_it fd__law_is_it) {f_Trail_dishonest : Addr} {fd_Trail_dishonest : FuncData} (F_Trail_dishonest : Fun K.K "dishonest" "Trail.dishonest" s_Trail_dishonest f_Trail_dishonest fd_Trail_dishonest) (G_Trail_dishonest : FnOk K.P K.w K.K mg base CX0 1 f_Trail_dishonest fd_Trail_dishonest ["self"] (SpG K (rel_Trail_dishonest CL_Trail))) (b_Trail_dishonest : Binds K.K fd_Trail_dishonest ["self"] []) (M_Trail_dishonest : Meth K.K CL_Trail "dishonest" f_Trail_dishonest) {f_Trail_evidence : Addr} {fd_Trail_evidence : FuncData} (F_Trail_evidence : Fun K.K "evidence" "Trail.evidence" s_Trail_evidence f_Trail_evidence fd_Trail_evidence) (G_Trail_evidence : FnOk K.P K.w K.K mg base CX0 1 f_Trail_evidence fd_Trail_evidence ["self"] (SpG K (rel_Trail_evidence CL_Trail))) (b_Trail_evidence : Binds K.K fd_Trail_evidence ["self"] []) (M_Trail_evidence : Meth K.K CL_Trail "evidence" f_Trail_evidence) {f_Trail_history : Addr} {fd_Trail_history : FuncData} (F_Trail_history : Fun K.K "history" "Trail.history" s_Trail_history f_Trail_history fd_Trail_history) (G_Trail_history : FnOk K.P K.w K.K mg base CX0 1 f_Trail_history fd_Trail_history ["self"] (SpG K (rel_Trail_history CL_Trail))) (b_Trail_history : Binds K.K fd_Trail_history ["self"] []) (M_Trail_history : Meth K.K CL_Trail "history" f_Trail_history) {f_Trail_numbers : Addr} {fd_Trail_numbers : FuncData} (F_Trail_numbers : Fun K.K "numbers" "Trail.numbers" s_Trail_numbers f_Trail_numbers fd_Trail_numbers) (G_Trail_numbers : FnOk K.P K.w K.K mg base CX0 1 f_Trail_numbers fd_Trail_numbers ["self"] (SpG K (rel_Trail_numbers CL_Trail))) (b_Trail_numbers : Binds K.K fd_Trail_numbers ["self"] []) (M_Trail_numbers : Meth K.K CL_Trail "numbers" f_Trail_numbers) {f_Trail_stock : Addr} {fd_Trail_stock : FuncData} (F_Trail_stock : Fun K.K "stock" "Trail.stock" s_Trail_stock f_Trail_stock fd_Trail_stock) (G_Trail_stock : FnOk K.P K.w K.K mg base CX0 1 f_Trail_stock fd_Trail_stock ["self", "party", "kind"] (SpG K (rel_Trail_stock CL_Trail))) (b_Trail_stock : Binds K.K fd_Trail_stock ["self", "party", "kind"] []) (M_Trail_stock : Meth K.K CL_Trail "stock" f_Trail_stock) {f__law_evidence : Addr} {fd__law_evidence : FuncData} (F__law_evidence : Fun K.K "_law_evidence" "_law_evidence" s__law_evidence f__law_evidence fd__law_evidence) (G__law_evidence : FnOk K.P K.w K.K mg base CX0 1 f__law_evidence fd__law_evidence ["world"] (SpG K rel__law_evidence)) (b__law_evidence : Binds K.K fd__law_evidence ["world"] []) (g__law_evidence : mg "_law_evidence" = some (.ref f__law_evidence)) (z_len : mg "len" = none) (z_range : mg "range" = none) (z_sorted : mg "sorted" = none) (z_tuple : mg "tuple" = none) : FnOk K.P K.w K.K mg base CX0 2 f__law_is_it fd__law_is_it ["trail", "world"] (SpG K (rel__law_is_it CL_Trail)) := by
  refine ok_def F__law_is_it sc__law_is_it (fun C xs R h => by obtain ⟨_, _, _, _, rfl, _⟩ := h; rfl) (fun cdv A outer s H E hr => ?_)
  refine ⟨_, (pss_cons (ps_if (PW.pt (pw_or (pt_cmpR (kx_neD K.K rfl hr.units) (pe_meth0 (pv 0) CT_Trail.cl M_Trail_evidence G_Trail_evidence (hr.mono (by decide)) b_Trail_evidence .nil pass0) (pe_call G__law_evidence (hr.mono (by decide)) (by rfl) g__law_evidence F__law_evidence.kp b__law_evidence .nil pass0 (pa_cons (pv 1) pa_nil)) (nomark _)) (pw_or1 (pt_cmpR (kx_neD K.K rfl hr.units) (pe_meth0 (pv 0) CT_Trail.cl M_Trail_history G_Trail_history (hr.mono (by decide)) b_Trail_history .nil pass0) (pe_dget hr.unit1 (pv 1) pe_str (fun _ _ => rfl)) (nomark _))))) (pss_one (ps_ret pe_bl)) pss_nil)
  (pss_cons (ps_if (PW.pt (pw_or (pt_cmpR op_ne (pe_meth0 (pv 0) CT_Trail.cl M_Trail_numbers G_Trail_numbers (hr.mono (by decide)) b_Trail_numbers .nil pass0) (pe_dget hr.unit1 (pv 1) pe_str (fun _ _ => rfl)) (nomark _)) (pw_or1 (pt_cmpR (kx_neD K.K rfl hr.units) (pe_meth0 (pv 0) CT_Trail.cl M_Trail_dishonest G_Trail_dishonest (hr.mono (by decide)) b_Trail_dishonest .nil pass0) (pe_callTy (kx_tuple K.K rfl) (by rfl) z_tuple PyProof.Rows.boot_tuple (pa_cons (pe_callB (kx_sortI K.K rfl) (by rfl) z_sorted (by decide +kernel) (pa_cons (pe_dget hr.unit1 (pv 1) pe_str (fun _ _ => rfl)) pa_nil)) pa_nil)) (nomark _))))) (pss_one (ps_ret pe_bl)) pss_nil)
  (pss_cons (ps_for PassesOwn.never rfl (pi_range1 (by rfl) z_range (pa_cons (pe_callB (kx_len K.K rfl) (by rfl) z_len PySem.boot_len (pa_cons (pe_dget hr.unit1 (pv 1) pe_str (fun _ _ => rfl)) pa_nil)) pa_nil)) (pg_name (i := 2) sc__law_is_it.nd rfl (Or.inl rfl)) (pss_one (ps_for PassesOwn.never rfl (pi_range1 (by rfl) z_range (pa_cons (pe_dget hr.unit1 (pv 1) pe_str (fun _ _ => rfl)) pa_nil)) (pg_name (i := 3) sc__law_is_it.nd rfl (Or.inl rfl)) (pss_one (ps_if (pt_cmpR op_ne (pe_meth (pv 0) CT_Trail.cl M_Trail_stock G_Trail_stock (hr.mono (by decide)) b_Trail_stock .nil pass0 (pa_cons (pv 2) (pa_cons (pv 3) pa_nil))) (pe_ix (kx_ixL K.K rfl) (pe_ix (kx_ixL K.K rfl) (pe_dget hr.unit1 (pv 1) pe_str (fun _ _ => rfl)) (pv 2) (fun _ _ => rfl)) (pv 3) (fun _ _ => rfl)) (nomark _)) (pss_one (ps_ret pe_bl)) pss_nil)))))
  (pss_one (ps_ret pe_bl))))), ?_⟩
  rintro C xs R cl ⟨A, D, W, b, rfl, X, h, tk, q⟩
  obtain ⟨h2, ok, hb⟩ := id X
  have m5 := ok.m5
  have k2 := ok.k2
  have fl := ok.fl
  have shf : Sh 3 (.tuple ((filesD W.files).map .tuple)) := sh_tup fun g hg => by
    obtain ⟨l, hl, rfl⟩ := List.mem_map.mp hg
    obtain ⟨f, hf, rfl⟩ := List.mem_map.mp hl
    refine ents_sh fun e he => ?_
    obtain ⟨i, hi⟩ := List.getElem?_of_mem hf
    exact ((ok.file i f hi).ent e he).eok
  have shi : Sh 2 (.tuple (W.finds.map fndD)) := sh_tup fun g hg => by
    obtain ⟨f, _, rfl⟩ := List.mem_map.mp hg
    exact sh_tup (sh_cons sh_int (sh_cons sh_int (sh_cons sh_int (sh_cons sh_int sh_nil))))
  have shp : Sh 2 (.tuple (W.pf.map pfD)) := sh_tup fun g hg => by
    obtain ⟨f, _, rfl⟩ := List.mem_map.mp hg
    exact sh_tup (sh_cons sh_bool (sh_cons sh_bool sh_nil))
  have she : Sh 4 (evidD W.kd W.pf W.files W.finds) := sh_tup (sh_cons (sh_int.mono (by decide)) (sh_cons (shp.mono (by decide)) (sh_cons shf (sh_cons (shi.mono (by decide)) sh_nil))))
  have shv : Sh 2 (.list (W.events.map evD)) := sh_list fun g hg => by
    obtain ⟨f, hf, rfl⟩ := List.mem_map.mp hg
    exact tk.ev f hf
  have shl : Sh 1 (.tuple ((srtT W.liars).map .int)) := sh_tup fun g hg => by
    obtain ⟨f, _, rfl⟩ := List.mem_map.mp hg
    exact sh_int
  have ll := tk.len
  refine ds_ifs (b := false) (ut_is (ut_or (a := false) (b := false) (ut_is (ut_test (pu_neD (pu_meth (pu_var rfl) h2.ins (by rfl) au_nil ⟨D, W, rfl, h2, by omega, rfl, rfl⟩) (pu_call (au_cons (pu_var rfl) au_nil) ⟨A, W, rfl, h, by omega, rfl, rfl⟩) she.sh she.sh)) (by rw [she.eq]; rfl)) fun _ => (ut_is (ut_test (pu_neCT (pu_meth (pu_var rfl) h2.ins (by rfl) au_nil ⟨D, W, rfl, h2, rfl, rfl⟩) (pu_dget (pu_var rfl) pu_str h.dic gk_events) h.ev shv.sh shv.sh)) (by rw [shv.eq]; rfl))) rfl) (fun hc => by cases hc) (fun _ => ds_nextseq ?_)
  refine ds_ifs (b := false) (ut_is (ut_or (a := false) (b := false) (ut_is (ut_test (pu_neI (pu_meth (pu_var rfl) h2.ins (by rfl) au_nil ⟨D, W, rfl, h2, rfl, rfl⟩) (pu_dget (pu_var rfl) pu_str h.dic gk_last))) (by simp)) fun _ => (ut_is (ut_test (pu_neD (pu_meth (pu_var rfl) h2.ins (by rfl) au_nil ⟨D, W, rfl, h2, by omega, rfl, rfl⟩) (pu_cb (au_cons (pu_fz (pl_srtMT (ns := W.liars) (ms := srtT W.liars) (au_cons (pu_dget (pu_var rfl) pu_str h.dic gk_liars) au_nil) h.li (fun ys h1 h2 => srtT_uniq h1 h2))) au_nil) rc_tupL) shl.sh shl.sh)) (by rw [shl.eq]; rfl))) rfl) (fun hc => by cases hc) (fun _ => ds_nextseq ?_)
  refine ds_forS (fun i Δ C' => Δ = [some (Ax.ref D.w), some (Ax.ref A.w), none, none] ∧ C' = C) (ui_rng1 (n := (W.pf.length : Int)) (au_cons (pu_is (pu_cb (au_cons (pu_dget (pu_var rfl) pu_str h.dic gk_parties) au_nil) rc_lenT) (by rw [List.length_map])) au_nil) (by omega)) ⟨_, ?_, rfl, rfl⟩ (fun _ _ _ _ => trivial) ?_ ?_
  · exact ⟨rfl, rfl, trivial⟩
  · rintro i x Δ C' hx ⟨rfl, rfl⟩
    obtain ⟨hi, rfl⟩ := rngD_get hx
    refine ⟨_, _, tg_name, ?_⟩
    refine ds_for1 (fun j Δ C2 => Δ = [some (Ax.ref D.w), some (Ax.ref A.w), some (I (0 + (i : Int))), none] ∧ C2 = C') (ui_rng1 (n := (W.kd : Int)) (au_cons (pu_dget (pu_var rfl) pu_str h.dic gk_kinds) au_nil) (by omega)) ⟨_, ?_, rfl, rfl⟩ (fun _ _ _ _ => trivial) ?_ ?_
    · exact ⟨rfl, rfl, rfl, trivial⟩
    · rintro j x Δ C2 hx ⟨rfl, rfl⟩
      obtain ⟨hj, rfl⟩ := rngD_get hx
      refine ⟨_, _, tg_name, ?_⟩
      have i0 : 0 ≤ 0 + (i : Int) := by omega
      have i1 : 0 + (i : Int) < W.pf.length := by omega
      have j0 : 0 ≤ 0 + (j : Int) := by omega
      have j1 : 0 + (j : Int) < W.kd := by omega
      refine ds_if (b := false) (ut_is (ut_test (pu_neI (pu_meth (pu_var rfl) h2.ins (by rfl) (au_cons (pu_var rfl) (au_cons (pu_var rfl) au_nil)) ⟨D, W, b, _, _, rfl, X, ⟨i0, i1⟩, ⟨j0, j1⟩, rfl, rfl⟩) (pu_wst h ok.st i0 i1 j0 j1 (pu_dget (pu_var rfl) pu_str h.dic gk_stock) (pu_var rfl) (pu_var rfl)))) (by simp)) (fun hc => by cases hc) (fun _ => ds_next ⟨_, ?_, rfl, rfl⟩)
      exact ⟨rfl, rfl, rfl, trivial⟩
    · rintro Γ' Δ C2 l ⟨rfl, rfl⟩
      refine ⟨[some (Ax.ref D.w), some (Ax.ref A.w), none, none], ?_, rfl, rfl⟩
      exact le_w l
  · rintro Δ C' ⟨rfl, rfl⟩
    exact ds_ret pu_bl (rt_dat cl Mor.refl q)

end
end K40

set_option maxHeartbeats 40000000
namespace K40
open PySem PySem.Spec PyProof.Rows L2 Ab Lm Hm Wda
open Trl
section
variable {K : Kw} {mg : Str → Option Value} {base : Heap}
def rel_law : Rel := fun C xs R => ∃ (ns : List Int), xs = [Ls (ns.map .int)] ∧ R (B true) C
abbrev s_law : Stmt := topS 28
abbrev N_law : List Str := ["script", "world", "trail", "k", "deed", "due", "told", "claim"]
theorem sc_law : FnScope N_law ["script"] (defScope s_law) := ⟨rfl, rfl, rfl, by decide +kernel, rfl, by decide +kernel, by decide +kernel⟩

theorem ok_law {CL_Trail : Addr} (CT_Trail : ClsT K mg CL_Trail "Trail" ["_kinds", "_parties", "_have", "_files", "_finds", "_events", "_given", "_liars"]) {f_law : Addr} {fd_law : FuncData} (F_law : Fun K.K "law" "law" s_law f_law fd_law) {f_Trail___init__ : Addr} {fd_Trail___init__ : FuncData} (F_Trail___init__ : Fun K.K "__init__" "Trail.__init__" s_Trail___init__ f_Trail___init__ fd_Trail___init__) (G_Trail___init__ : FnOk K.P K.w K.K mg base CX0 1 f_Trail___init__ fd_Trail___init__ ["self", "kinds", "parties"] (SpG K (rel_Trail___init__ CL_Trail))) (b_Trail___init__ : Binds K.K fd_Trail___init__ ["self", "kinds", "parties"] []) (MK_Trail : Mk K.K CL_Trail f_Trail___init__) {f__law_begun : Addr} {fd__law_begun : FuncData} (F__law_begun : Fun K.K "_law_begun" "_law_begun" s__law_begun f__law_begun fd__law_begun) (G__law_begun : FnOk K.P K.w K.K mg base CX0 1 f__law_begun fd__law_begun ["kinds", "parties"] (SpG K rel__law_begun)) (b__law_begun : Binds K.K fd__law_begun ["kinds", "parties"] []) (g__law_begun : mg "_law_begun" = some (.ref f__law_begun)) {f__law_cell : Addr} {fd__law_cell : FuncData} (F__law_cell : Fun K.K "_law_cell" "_law_cell" s__law_cell f__law_cell fd__law_cell) (G__law_cell : FnOk K.P K.w K.K mg base CX0 1 f__law_cell fd__law_cell ["script", "k"] (SpG K rel__law_cell)) (b__law_cell : Binds K.K fd__law_cell ["script", "k"] []) (g__law_cell : mg "_law_cell" = some (.ref f__law_cell)) {f__law_deed : Addr} {fd__law_deed : FuncData} (F__law_deed : Fun K.K "_law_deed" "_law_deed" s__law_deed f__law_deed fd__law_deed) (G__law_deed : FnOk K.P K.w K.K mg base CX0 2 f__law_deed fd__law_deed ["cell", "world", "lying"] (SpG K rel__law_deed)) (b__law_deed : Binds K.K fd__law_deed ["cell", "world", "lying"] []) (g__law_deed : mg "_law_deed" = some (.ref f__law_deed)) {f__law_is_it : Addr} {fd__law_is_it : FuncData} (F__law_is_it : Fun K.K "_law_is_it" "_law_is_it" s__law_is_it f__law_is_it fd__law_is_it) (G__law_is_it : FnOk K.P K.w K.K mg base CX0 2 f__law_is_it fd__law_is_it ["trail", "world"] (SpG K (rel__law_is_it CL_Trail))) (b__law_is_it : Binds K.K fd__law_is_it ["trail", "world"] []) (g__law_is_it : mg "_law_is_it" = some (.ref f__law_is_it)) {f__law_modelled : Addr} {fd__law_modelled : FuncData} (F__law_modelled : Fun K.K "_law_modelled" "_law_modelled" s__law_modelled f__law_modelled fd__law_modelled) (G__law_modelled : FnOk K.P K.w K.K mg base CX0 4 f__law_modelled fd__law_modelled ["world", "deed"] (SpG K rel__law_modelled)) (b__law_modelled : Binds K.K fd__law_modelled ["world", "deed"] []) (g__law_modelled : mg "_law_modelled" = some (.ref f__law_modelled)) {f__law_parties : Addr} {fd__law_parties : FuncData} (F__law_parties : Fun K.K "_law_parties" "_law_parties" s__law_parties f__law_parties fd__law_parties) (G__law_parties : FnOk K.P K.w K.K mg base CX0 2 f__law_parties fd__law_parties ["cell", "most"] (SpG K rel__law_parties)) (b__law_parties : Binds K.K fd__law_parties ["cell", "most"] []) (g__law_parties : mg "_law_parties" = some (.ref f__law_parties)) {f__law_told : Addr} {fd__law_told : FuncData} (F__law_told : Fun K.K "_law_told" "_law_told" s__law_told f__law_told fd__law_told) (G__law_told : FnOk K.P K.w K.K mg base CX0 6 f__law_told fd__law_told ["trail", "deed"] (SpG K (rel__law_told CL_Trail))) (b__law_told : Binds K.K fd__law_told ["trail", "deed"] []) (g__law_told : mg "_law_told" = some (.ref f__law_told)) {f__law_why_not : Addr} {fd__law_why_not : FuncData} (F__law_why_not : Fun K.K "_law_why_not" "_law_why_not" s__law_why_not f__law_why_not fd__law_why_not) (G__law_why_not : FnOk K.P K.w K.K mg base CX0 1 f__law_why_not fd__law_why_not ["world", "deed"] (SpG K rel__law_why_not)) (b__law_why_not : Binds K.K fd__law_why_not ["world", "deed"] []) (g__law_why_not : mg "_law_why_not" = some (.ref f__law_why_not)) {f__law_written : Addr} {fd__law_written : FuncData} (F__law_written : Fun K.K "_law_written" "_law_written" s__law_written f__law_written fd__law_written) (G__law_written : FnOk K.P K.w K.K mg base CX0 5 f__law_written fd__law_written ["trail", "claim"] (SpG K (rel__law_written CL_Trail))) (b__law_written : Binds K.K fd__law_written ["trail", "claim"] []) (g__law_written : mg "_law_written" = some (.ref f__law_written)) (z_list : mg "list" = none) (z_range : mg "range" = none) : FnOk K.P K.w K.K mg base CX0 7 f_law fd_law ["script"] (SpG K rel_law) := by
  refine ok_def F_law sc_law (fun C xs R h => by obtain ⟨_, rfl, _⟩ := h; rfl) (fun cdv A outer s H E hr => ?_)
  refine ⟨_, (pss_cons (ps_set (i := 1) sc_law.nd rfl (Or.inl rfl) (pe_call G__law_begun (hr.mono (by decide)) (by rfl) g__law_begun F__law_begun.kp b__law_begun .nil pass0 (pa_cons (pe_op op_add pe_int (pe_op op_mod (pe_op op_fdiv (pe_call G__law_cell (hr.mono (by decide)) (by rfl) g__law_cell F__law_cell.kp b__law_cell .nil pass0 (pa_cons (pv 0) (pa_cons pe_int pa_nil))) pe_int) pe_int)) (pa_cons (pe_call G__law_parties (hr.mono (by decide)) (by rfl) g__law_parties F__law_parties.kp b__law_parties .nil pass0 (pa_cons (pe_call G__law_cell (hr.mono (by decide)) (by rfl) g__law_cell F__law_cell.kp b__law_cell .nil pass0 (pa_cons (pv 0) (pa_cons pe_int pa_nil))) (pa_cons pe_int pa_nil))) pa_nil))))
  (pss_cons (ps_set (i := 2) sc_law.nd rfl (Or.inl rfl) (pe_make MK_Trail G_Trail___init__ (hr.mono (by decide)) (by rfl) CT_Trail.gC b_Trail___init__ .nil pass0 (pa_cons (pe_dget hr.unit1 (pv 1) pe_str (fun _ _ => rfl)) (pa_cons (pe_callTy (kx_list K.K rfl) (by rfl) z_list PyProof.Rows.boot_list (pa_cons (pe_dget hr.unit1 (pv 1) pe_str (fun _ _ => rfl)) pa_nil)) pa_nil))))
  (pss_cons (ps_for PassesOwn.never rfl (pi_range1 (by rfl) z_range (pa_cons (pe_op op_mod (pe_call G__law_cell (hr.mono (by decide)) (by rfl) g__law_cell F__law_cell.kp b__law_cell .nil pass0 (pa_cons (pv 0) (pa_cons pe_int pa_nil))) pe_int) pa_nil)) (pg_name (i := 3) sc_law.nd rfl (Or.inl rfl)) (pss_cons (ps_set (i := 4) sc_law.nd rfl (Or.inl rfl) (pe_call G__law_deed (hr.mono (by decide)) (by rfl) g__law_deed F__law_deed.kp b__law_deed .nil pass0 (pa_cons (pe_call G__law_cell (hr.mono (by decide)) (by rfl) g__law_cell F__law_cell.kp b__law_cell .nil pass0 (pa_cons (pv 0) (pa_cons (pe_op op_add pe_int (pv 3)) pa_nil))) (pa_cons (pv 1) (pa_cons pe_int pa_nil)))))
  (pss_cons (ps_set (i := 5) sc_law.nd rfl (Or.inl rfl) (pe_call G__law_why_not (hr.mono (by decide)) (by rfl) g__law_why_not F__law_why_not.kp b__law_why_not .nil pass0 (pa_cons (pv 1) (pa_cons (pv 4) pa_nil))))
  (pss_cons (ps_set (i := 6) sc_law.nd rfl (Or.inl rfl) (pe_call G__law_told (hr.mono (by decide)) (by rfl) g__law_told F__law_told.kp b__law_told .nil pass0 (pa_cons (pv 2) (pa_cons (pv 4) pa_nil))))
  (pss_cons (ps_if (pt_cmpR (kx_eqD K.K rfl hr.units) (pv 5) pe_str (nomark _)) (pss_one (ps_set (i := 5) sc_law.nd rfl (Or.inl rfl) (pe_call G__law_modelled (hr.mono (by decide)) (by rfl) g__law_modelled F__law_modelled.kp b__law_modelled .nil pass0 (pa_cons (pv 1) (pa_cons (pv 4) pa_nil))))) pss_nil)
  (pss_one (ps_if (PW.pt (pw_or (pt_cmpR (kx_neD K.K rfl hr.units) (pv 6) (pv 5) (nomark _)) (pw_or1 (pt_not (pt_val (pe_call G__law_is_it (hr.mono (by decide)) (by rfl) g__law_is_it F__law_is_it.kp b__law_is_it .nil pass0 (pa_cons (pv 2) (pa_cons (pv 1) pa_nil)))))))) (pss_one (ps_ret pe_bl)) pss_nil)))))))
  (pss_cons (ps_for PassesOwn.never rfl (kx_pList K.K rfl (pe_lst (pa_cons pe_str (pa_cons pe_str pa_nil)))) (pg_name (i := 7) sc_law.nd rfl (Or.inl rfl)) (pss_one (ps_if (pt_cmpR (kx_neD K.K rfl hr.units) (pe_call G__law_written (hr.mono (by decide)) (by rfl) g__law_written F__law_written.kp b__law_written .nil pass0 (pa_cons (pv 2) (pa_cons (pv 7) pa_nil))) pe_str (nomark _)) (pss_one (ps_ret pe_bl)) pss_nil)))
  (pss_one (ps_ret (pe_call G__law_is_it (hr.mono (by decide)) (by rfl) g__law_is_it F__law_is_it.kp b__law_is_it .nil pass0 (pa_cons (pv 2) (pa_cons (pv 1) pa_nil))))))))), ?_⟩
  rintro C xs R cl ⟨ns, rfl, q⟩
  have y0 : 0 ≤ cellM ns 1 / 7 % 2 := Int.emod_nonneg _ (by decide)
  have y1 : cellM ns 1 / 7 % 2 < 2 := Int.emod_lt_of_pos _ (by decide)
  have m0 : 0 ≤ cellM ns 0 % 51 := Int.emod_nonneg _ (by decide)
  have m1 : cellM ns 0 % 51 < 51 := Int.emod_lt_of_pos _ (by decide)
  obtain ⟨kd, hkd, k0, k2⟩ : ∃ kd : Nat, 1 + cellM ns 1 / 7 % 2 = (kd : Int) ∧ 0 < kd ∧ kd ≤ 2 := ⟨(1 + cellM ns 1 / 7 % 2).toNat, by omega, by omega, by omega⟩
  have pa0 := partA_len (ns := drawsM (cellM ns 1) 10) (most := 5) (by decide)
  generalize hpf : partA (drawsM (cellM ns 1) 10) 5 = pf at pa0
  obtain ⟨p0, p5⟩ := pa0
  have p5 : pf.length ≤ 5 := by omega
  have B0 : WOk 0 (begM kd pf) := beg_ok p0 p5 k0 k2
  have T0 : TOk (begM kd pf) := ⟨fun e he => (by cases he), List.nodup_nil, fun p hp => (by cases hp)⟩
  refine ds_setE (ev_call (P := fun x C' => ∃ A, x = .ref A.w ∧ WNew C C' A (begM kd pf)) (au_cons (pu_is (pu_add pu_int (pu_mod (pu_fdiv (pu_call (au_cons (pu_var rfl) (au_cons pu_int au_nil)) ⟨ns, 1, rfl, by decide, rfl, rfl⟩) pu_int ⟨by decide, by decide⟩) pu_int (by decide))) (by rw [hkd])) (au_cons (x := T (pf.map pfD)) (pu_call (au_cons (pu_call (au_cons (pu_var rfl) (au_cons pu_int au_nil)) ⟨ns, 1, rfl, by decide, rfl, rfl⟩) (au_cons pu_int au_nil)) ⟨_, 5, rfl, by decide, by decide, by rw [hpf], rfl⟩) au_nil)) ⟨kd, pf, rfl, p5, k2, fun A C' hn => ⟨A, rfl, hn⟩⟩) ?_
  rintro _ C0 ⟨A, rfl, n0⟩
  have w0 := n0.at_
  refine ds_setE (ev_make (P := fun x C' => ∃ D, x = .ref D.w ∧ WdAt C' A (begM kd pf) ∧ TrAt C' CL_Trail D (begM kd pf) ∧ (∀ x ∈ allW A, x ∉ allW D) ∧ (∀ x ∈ D.own, C x = none) ∧ Mor C C') (au_cons (pu_dget (pu_var rfl) pu_str w0.dic gk_kinds) (au_cons (pu_fz (pu_listDT (au_cons (pu_dget (pu_var rfl) pu_str w0.dic gk_parties) au_nil))) au_nil)) (fun a ha => ⟨a, kd, pf, _, rfl, .inl rfl, p5, k2, updC_same, fun D C' hD o1 t1 nw => by
    obtain ⟨z1, z2, z3, z4⟩ := make_tr n0 ha hD o1 nw
    exact ⟨rfl, D, by rw [hD], z1, t1, z2, z3, z4⟩⟩)) ?_
  rintro _ C1 ⟨D, rfl, w1, t1, dj, nD, mo1⟩
  have nA : ∀ x ∈ A.own, C x = none := fun x hx => n0.new x (by simp [hx])
  have dj2 : ∀ x ∈ allW D, x ∉ A.own := fun x hx hm => dj x (all_own hm) hx
  have dj1 : ∀ x ∈ allW A, x ∉ D.own := fun x hx hm => dj x hx (all_own hm)
  clear w0 n0 hkd
  have eqS : ∀ t : Str, PyData.eqv (.str t) (.str t) = true := fun t => by simp [PyData.eqv]
  refine ds_forS (fun i Δ C' => Δ = [some (Ls (ns.map .int)), some (Ax.ref A.w), some (Ax.ref D.w), none, none, none, none, none] ∧ ∃ W, WdAt C' A W ∧ TrAt C' CL_Trail D W ∧ WOk i W ∧ TOk W ∧ Mor C C') (ui_rng1 (n := cellM ns 0 % 51) (au_cons (pu_mod (pu_call (au_cons (pu_var rfl) (au_cons pu_int au_nil)) ⟨ns, 0, rfl, by decide, rfl, rfl⟩) pu_int (by decide)) au_nil) (by omega)) ⟨_, ?_, rfl, _, w1, t1, B0, T0, mo1⟩ (fun _ _ _ _ => trivial) ?_ ?_
  · (repeat (first | exact trivial | refine ⟨rfl, ?_⟩))
  · rintro i x Δ C2 hx ⟨rfl, W, w2, t2, ok, tk, mo⟩
    obtain ⟨hi, rfl⟩ := rngD_get hx
    have i51 : i < 51 := by omega
    refine ⟨_, _, tg_name, ?_⟩
    refine ds_set (pu_call (au_cons (pu_call (au_cons (pu_var rfl) (au_cons (pu_add pu_int (pu_var rfl)) au_nil)) ⟨ns, 2 + (0 + (i : Int)), rfl, by omega, rfl, rfl⟩) (au_cons (pu_var rfl) (au_cons pu_int au_nil))) ⟨A, W, _, 4, i, rfl, w2, ok, rfl, rfl⟩) ?_
    have dk := deedM_k (d := drawsM (cellM ns (2 + (0 + (i : Int)))) 8) (W := W) (lying := 4) ok.m0 ok.k0
    have dw : (deedM (drawsM (cellM ns (2 + (0 + (i : Int)))) 8) W 4).w ∈ wordsT := word_in _ _
    generalize deedM (drawsM (cellM ns (2 + (0 + (i : Int)))) 8) W 4 = d at dk dw
    have X2 : TrX C2 CL_Trail D W i := ⟨t2, ok, by omega⟩
    refine ds_set (pu_call (au_cons (pu_var rfl) (au_cons (pu_var rfl) au_nil)) ⟨A, W, i, d, rfl, w2, ok, by omega, dk, rfl, rfl⟩) ?_
    cases hy : whyM W d with
    | some t =>
      obtain ⟨ts, tn⟩ := txt_sh (why_txt hy)
      refine ds_set (x := S t) (pu_call (au_cons (pu_var rfl) (au_cons (pu_var rfl) au_nil)) ⟨D, W, i, d, rfl, X2, dk, dw, fun t' ht' => by rw [hy] at ht'; cases ht'; exact ⟨rfl, rfl⟩, fun hn => by rw [hy] at hn; cases hn⟩) ?_
      refine ds_ifs (b := false) (ut_is (ut_test (pu_eqD (d := .str t) (pu_var rfl) pu_str ts.sh (by decide +kernel))) tn) (fun hc => by cases hc) (fun _ => ds_nextseq ?_)
      refine ds_if (b := false) (ut_is (ut_or (a := false) (b := false) (ut_is (ut_test (pu_neD (d := .str t) (e := .str t) (pu_var rfl) (pu_var rfl) ts.sh ts.sh)) (by rw [eqS]; rfl)) fun _ => (ut_is (ut_not (a := true) (ut_B (pu_call (au_cons (pu_var rfl) (au_cons (pu_var rfl) au_nil)) ⟨A, D, W, i, rfl, X2, w2, tk, rfl, rfl⟩))) rfl)) rfl) (fun hc => by cases hc) (fun _ => ds_next ⟨_, ?_, rfl, W, w2, t2, ok.mono (Nat.le_succ i), tk, mo⟩)
      (repeat (first | exact trivial | refine ⟨rfl, ?_⟩))
    | none =>
      have okN := (nxt_ok ok dk).1
      have tkN := tk.next dk dw hy
      refine ds_setE (ev_call (P := fun x C' => x = .dat (ansT W d) ∧ Only D.own C2 C' ∧ TrAt C' CL_Trail D (nxtT W d)) (au_cons (pu_var rfl) (au_cons (pu_var rfl) au_nil)) ⟨D, W, i, d, rfl, X2, dk, dw, fun t' ht' => (by rw [hy] at ht'; cases ht'), fun _ C' o' h' => ⟨rfl, o', h'⟩⟩) ?_
      rintro _ C3 ⟨rfl, o3, t3⟩
      have w3 := wd_only w2 o3 dj1
      refine ds_ifs (b := true) (ut_is (ut_test (pu_eqD (d := .str "") (pu_var rfl) pu_str (by decide +kernel) (by decide +kernel))) (by decide +kernel)) (fun _ => ?_) (fun hc => by cases hc)
      refine ds_setE (ev_call (P := fun x C' => x = .dat (ansT W d) ∧ Only A.own C3 C' ∧ WdAt C' A (nxtT W d)) (au_cons (pu_var rfl) (au_cons (pu_var rfl) au_nil)) ⟨A, W, i, d, rfl, w3, ok, by omega, dk, dw, hy, fun C' o' h' => ⟨rfl, o', h'⟩⟩) ?_
      rintro _ C4 ⟨rfl, o4, w4⟩
      have t4 := tr_only t3 o4 dj2
      have as := ans_sh (W := W) (d := d)
      refine ds_if (b := false) (ut_is (ut_or (a := false) (b := false) (ut_is (ut_test (pu_neD (d := ansT W d) (e := ansT W d) (pu_var rfl) (pu_var rfl) as.sh as.sh)) (by rw [as.eq]; rfl)) fun _ => (ut_is (ut_not (a := true) (ut_B (pu_call (au_cons (pu_var rfl) (au_cons (pu_var rfl) au_nil)) ⟨A, D, nxtT W d, i + 1, rfl, ⟨t4, okN, by omega⟩, w4, tkN, rfl, rfl⟩))) rfl)) rfl) (fun hc => by cases hc) (fun _ => ds_next ⟨_, ?_, rfl, nxtT W d, w4, t4, okN, tkN, mor_only (mor_only mo o3 nD) o4 nA⟩)
      (repeat (first | exact trivial | refine ⟨rfl, ?_⟩))
  rintro Δ C2 ⟨rfl, W, w2, t2, ok, tk, mo⟩
  rw [rngD_len] at ok
  generalize hn : (cellM ns 0 % 51).toNat = n at ok
  have n51 : n < 51 := by omega
  have X2 : TrX C2 CL_Trail D W n := ⟨t2, ok, by omega⟩
  refine ds_forS (fun i Δ C' => Δ = [some (Ls (ns.map .int)), some (Ax.ref A.w), some (Ax.ref D.w), none, none, none, none, none] ∧ C' = C2) (ui_listD (pu_fz (ds := [.str "gave", .str "took"]) (pl_lst (au_cons pu_str (au_cons pu_str au_nil)) (lk rfl)))) ⟨_, ?_, rfl, rfl⟩ (fun _ _ _ _ => trivial) ?_ ?_
  · (repeat (first | exact trivial | refine ⟨rfl, ?_⟩))
  · rintro i x Δ C3 hx ⟨rfl, rfl⟩
    obtain ⟨w, hw, rfl⟩ : ∃ w : Str, w ∈ (["gave", "took"] : List Str) ∧ x = S w := by
      match i, hx with
      | 0, hx => cases hx; exact ⟨"gave", by simp, rfl⟩
      | 1, hx => cases hx; exact ⟨"took", by simp, rfl⟩
      | i + 2, hx => simp at hx
    refine ⟨_, _, tg_name, ?_⟩
    refine ds_if (b := false) (ut_is (ut_test (pu_neD (d := .str "same party") (pu_call (au_cons (pu_var rfl) (au_cons (pu_var rfl) au_nil)) ⟨D, W, n, w, rfl, X2, hw, rfl, rfl⟩) pu_str (by decide +kernel) (by decide +kernel))) (by decide +kernel)) (fun hc => by cases hc) (fun _ => ds_next ⟨_, ?_, rfl, rfl⟩)
    (repeat (first | exact trivial | refine ⟨rfl, ?_⟩))
  rintro Δ C3 ⟨rfl, rfl⟩
  exact ds_ret (pu_call (au_cons (pu_var rfl) (au_cons (pu_var rfl) au_nil)) ⟨A, D, W, n, rfl, X2, w2, tk, rfl, rfl⟩) (rt_dat cl mo q)

end
end K40

set_option maxHeartbeats 40000000
namespace K40
open PySem PySem.Spec PyProof.Rows L2 Ab Lm Hm Wda
open Trl
theorem all_mk {l : PySem.W.OpenLaw} {w : World} {K : PySem.W.Frag} {h : Heap} {mg : Str → Option Value} {fa : Addr} (X : K.In h) (G : h.Ns mainGlobals mg) (hfa : mg "law" = some (.ref fa))
    {CL_Trail : Addr} (aCL_Trail : PySem.W.nsIn K mainGlobals "Trail" = some (some (.ref CL_Trail))) (pg_Trail : PySem.W.plainGet K CL_Trail Str.empty = true) (hd_Trail : PySem.W.hasDictIn K CL_Trail = true) (po_Trail : PySem.W.plainOver K CL_Trail = true) (sa_Trail : PySem.W.findIn K (.ref CL_Trail) "__setattr__" = some (some (.builtin "object.__setattr__"))) (mk_Trail : PySem.W.makesIn K CL_Trail = true) (kc_Trail : PySem.W.keepIn K (.ref CL_Trail) = true) (nf_Trail_0 : PySem.W.findIn K (.ref CL_Trail) "_kinds" = some none) (nf_Trail_1 : PySem.W.findIn K (.ref CL_Trail) "_parties" = some none) (nf_Trail_2 : PySem.W.findIn K (.ref CL_Trail) "_have" = some none) (nf_Trail_3 : PySem.W.findIn K (.ref CL_Trail) "_files" = some none) (nf_Trail_4 : PySem.W.findIn K (.ref CL_Trail) "_finds" = some none) (nf_Trail_5 : PySem.W.findIn K (.ref CL_Trail) "_events" = some none) (nf_Trail_6 : PySem.W.findIn K (.ref CL_Trail) "_given" = some none) (nf_Trail_7 : PySem.W.findIn K (.ref CL_Trail) "_liars" = some none)
    {f_entry_at : Addr} {od_entry_at an_entry_at : Option Addr} {sl_entry_at : Array (Option Value)} {oc_entry_at kV_entry_at dc_entry_at pm_entry_at cd_entry_at ct_entry_at : Value} (a_entry_at : PySem.W.nsIn K mainGlobals "entry_at" = some (some (.ref f_entry_at))) (l_entry_at : K.lookup f_entry_at = some ⟨oc_entry_at, od_entry_at, .func (PySem.W.fnOf "entry_at" "entry_at" (defArgs s_entry_at) (defBody s_entry_at) (defScope s_entry_at) .none kV_entry_at dc_entry_at pm_entry_at an_entry_at cd_entry_at ct_entry_at), sl_entry_at⟩) (c_entry_at : PySem.W.codeIn K cd_entry_at "entry_at" = true) (k_entry_at : PySem.W.keepIn K (.ref f_entry_at) = true)
    {f_entries_of : Addr} {od_entries_of an_entries_of : Option Addr} {sl_entries_of : Array (Option Value)} {oc_entries_of kV_entries_of dc_entries_of pm_entries_of cd_entries_of ct_entries_of : Value} (a_entries_of : PySem.W.nsIn K mainGlobals "entries_of" = some (some (.ref f_entries_of))) (l_entries_of : K.lookup f_entries_of = some ⟨oc_entries_of, od_entries_of, .func (PySem.W.fnOf "entries_of" "entries_of" (defArgs s_entries_of) (defBody s_entries_of) (defScope s_entries_of) .none kV_entries_of dc_entries_of pm_entries_of an_entries_of cd_entries_of ct_entries_of), sl_entries_of⟩) (c_entries_of : PySem.W.codeIn K cd_entries_of "entries_of" = true) (k_entries_of : PySem.W.keepIn K (.ref f_entries_of) = true)
    {f_Trail___init__ : Addr} {od_Trail___init__ an_Trail___init__ : Option Addr} {sl_Trail___init__ : Array (Option Value)} {oc_Trail___init__ kV_Trail___init__ dc_Trail___init__ pm_Trail___init__ cd_Trail___init__ ct_Trail___init__ : Value} (a_Trail___init__ : PySem.W.findIn K (.ref CL_Trail) "__init__" = some (some (.ref f_Trail___init__))) (i_Trail___init__ : PySem.W.isFn K (.ref f_Trail___init__) = true) (l_Trail___init__ : K.lookup f_Trail___init__ = some ⟨oc_Trail___init__, od_Trail___init__, .func (PySem.W.fnOf "__init__" "Trail.__init__" (defArgs s_Trail___init__) (defBody s_Trail___init__) (defScope s_Trail___init__) .none kV_Trail___init__ dc_Trail___init__ pm_Trail___init__ an_Trail___init__ cd_Trail___init__ ct_Trail___init__), sl_Trail___init__⟩) (c_Trail___init__ : PySem.W.codeIn K cd_Trail___init__ "Trail.__init__" = true) (k_Trail___init__ : PySem.W.keepIn K (.ref f_Trail___init__) = true)
    {f_Trail_numbers : Addr} {od_Trail_numbers an_Trail_numbers : Option Addr} {sl_Trail_numbers : Array (Option Value)} {oc_Trail_numbers kV_Trail_numbers dc_Trail_numbers pm_Trail_numbers cd_Trail_numbers ct_Trail_numbers : Value} (a_Trail_numbers : PySem.W.findIn K (.ref CL_Trail) "numbers" = some (some (.ref f_Trail_numbers))) (i_Trail_numbers : PySem.W.isFn K (.ref f_Trail_numbers) = true) (l_Trail_numbers : K.lookup f_Trail_numbers = some ⟨oc_Trail_numbers, od_Trail_numbers, .func (PySem.W.fnOf "numbers" "Trail.numbers" (defArgs s_Trail_numbers) (defBody s_Trail_numbers) (defScope s_Trail_numbers) .none kV_Trail_numbers dc_Trail_numbers pm_Trail_numbers an_Trail_numbers cd_Trail_numbers ct_Trail_numbers), sl_Trail_numbers⟩) (c_Trail_numbers : PySem.W.codeIn K cd_Trail_numbers "Trail.numbers" = true) (k_Trail_numbers : PySem.W.keepIn K (.ref f_Trail_numbers) = true)
    {f_Trail_stock : Addr} {od_Trail_stock an_Trail_stock : Option Addr} {sl_Trail_stock : Array (Option Value)} {oc_Trail_stock kV_Trail_stock dc_Trail_stock pm_Trail_stock cd_Trail_stock ct_Trail_stock : Value} (a_Trail_stock : PySem.W.findIn K (.ref CL_Trail) "stock" = some (some (.ref f_Trail_stock))) (i_Trail_stock : PySem.W.isFn K (.ref f_Trail_stock) = true) (l_Trail_stock : K.lookup f_Trail_stock = some ⟨oc_Trail_stock, od_Trail_stock, .func (PySem.W.fnOf "stock" "Trail.stock" (defArgs s_Trail_stock) (defBody s_Trail_stock) (defScope s_Trail_stock) .none kV_Trail_stock dc_Trail_stock pm_Trail_stock an_Trail_stock cd_Trail_stock ct_Trail_stock), sl_Trail_stock⟩) (c_Trail_stock : PySem.W.codeIn K cd_Trail_stock "Trail.stock" = true) (k_Trail_stock : PySem.W.keepIn K (.ref f_Trail_stock) = true)
    {f_Trail_dishonest : Addr} {od_Trail_dishonest an_Trail_dishonest : Option Addr} {sl_Trail_dishonest : Array (Option Value)} {oc_Trail_dishonest kV_Trail_dishonest dc_Trail_dishonest pm_Trail_dishonest cd_Trail_dishonest ct_Trail_dishonest : Value} (a_Trail_dishonest : PySem.W.findIn K (.ref CL_Trail) "dishonest" = some (some (.ref f_Trail_dishonest))) (i_Trail_dishonest : PySem.W.isFn K (.ref f_Trail_dishonest) = true) (l_Trail_dishonest : K.lookup f_Trail_dishonest = some ⟨oc_Trail_dishonest, od_Trail_dishonest, .func (PySem.W.fnOf "dishonest" "Trail.dishonest" (defArgs s_Trail_dishonest) (defBody s_Trail_dishonest) (defScope s_Trail_dishonest) .none kV_Trail_dishonest dc_Trail_dishonest pm_Trail_dishonest an_Trail_dishonest cd_Trail_dishonest ct_Trail_dishonest), sl_Trail_dishonest⟩) (c_Trail_dishonest : PySem.W.codeIn K cd_Trail_dishonest "Trail.dishonest" = true) (k_Trail_dishonest : PySem.W.keepIn K (.ref f_Trail_dishonest) = true)
    {f_Trail_evidence : Addr} {od_Trail_evidence an_Trail_evidence : Option Addr} {sl_Trail_evidence : Array (Option Value)} {oc_Trail_evidence kV_Trail_evidence dc_Trail_evidence pm_Trail_evidence cd_Trail_evidence ct_Trail_evidence : Value} (a_Trail_evidence : PySem.W.findIn K (.ref CL_Trail) "evidence" = some (some (.ref f_Trail_evidence))) (i_Trail_evidence : PySem.W.isFn K (.ref f_Trail_evidence) = true) (l_Trail_evidence : K.lookup f_Trail_evidence = some ⟨oc_Trail_evidence, od_Trail_evidence, .func (PySem.W.fnOf "evidence" "Trail.evidence" (defArgs s_Trail_evidence) (defBody s_Trail_evidence) (defScope s_Trail_evidence) .none kV_Trail_evidence dc_Trail_evidence pm_Trail_evidence an_Trail_evidence cd_Trail_evidence ct_Trail_evidence), sl_Trail_evidence⟩) (c_Trail_evidence : PySem.W.codeIn K cd_Trail_evidence "Trail.evidence" = true) (k_Trail_evidence : PySem.W.keepIn K (.ref f_Trail_evidence) = true)
    {f_Trail_history : Addr} {od_Trail_history an_Trail_history : Option Addr} {sl_Trail_history : Array (Option Value)} {oc_Trail_history kV_Trail_history dc_Trail_history pm_Trail_history cd_Trail_history ct_Trail_history : Value} (a_Trail_history : PySem.W.findIn K (.ref CL_Trail) "history" = some (some (.ref f_Trail_history))) (i_Trail_history : PySem.W.isFn K (.ref f_Trail_history) = true) (l_Trail_history : K.lookup f_Trail_history = some ⟨oc_Trail_history, od_Trail_history, .func (PySem.W.fnOf "history" "Trail.history" (defArgs s_Trail_history) (defBody s_Trail_history) (defScope s_Trail_history) .none kV_Trail_history dc_Trail_history pm_Trail_history an_Trail_history cd_Trail_history ct_Trail_history), sl_Trail_history⟩) (c_Trail_history : PySem.W.codeIn K cd_Trail_history "Trail.history" = true) (k_Trail_history : PySem.W.keepIn K (.ref f_Trail_history) = true)
    {f_Trail__next_number : Addr} {od_Trail__next_number an_Trail__next_number : Option Addr} {sl_Trail__next_number : Array (Option Value)} {oc_Trail__next_number kV_Trail__next_number dc_Trail__next_number pm_Trail__next_number cd_Trail__next_number ct_Trail__next_number : Value} (a_Trail__next_number : PySem.W.findIn K (.ref CL_Trail) "_next_number" = some (some (.ref f_Trail__next_number))) (i_Trail__next_number : PySem.W.isFn K (.ref f_Trail__next_number) = true) (l_Trail__next_number : K.lookup f_Trail__next_number = some ⟨oc_Trail__next_number, od_Trail__next_number, .func (PySem.W.fnOf "_next_number" "Trail._next_number" (defArgs s_Trail__next_number) (defBody s_Trail__next_number) (defScope s_Trail__next_number) .none kV_Trail__next_number dc_Trail__next_number pm_Trail__next_number an_Trail__next_number cd_Trail__next_number ct_Trail__next_number), sl_Trail__next_number⟩) (c_Trail__next_number : PySem.W.codeIn K cd_Trail__next_number "Trail._next_number" = true) (k_Trail__next_number : PySem.W.keepIn K (.ref f_Trail__next_number) = true)
    {f_Trail__are_dishonest : Addr} {od_Trail__are_dishonest an_Trail__are_dishonest : Option Addr} {sl_Trail__are_dishonest : Array (Option Value)} {oc_Trail__are_dishonest kV_Trail__are_dishonest dc_Trail__are_dishonest pm_Trail__are_dishonest cd_Trail__are_dishonest ct_Trail__are_dishonest : Value} (a_Trail__are_dishonest : PySem.W.findIn K (.ref CL_Trail) "_are_dishonest" = some (some (.ref f_Trail__are_dishonest))) (i_Trail__are_dishonest : PySem.W.isFn K (.ref f_Trail__are_dishonest) = true) (l_Trail__are_dishonest : K.lookup f_Trail__are_dishonest = some ⟨oc_Trail__are_dishonest, od_Trail__are_dishonest, .func (PySem.W.fnOf "_are_dishonest" "Trail._are_dishonest" (defArgs s_Trail__are_dishonest) (defBody s_Trail__are_dishonest) (defScope s_Trail__are_dishonest) .none kV_Trail__are_dishonest dc_Trail__are_dishonest pm_Trail__are_dishonest an_Trail__are_dishonest cd_Trail__are_dishonest ct_Trail__are_dishonest), sl_Trail__are_dishonest⟩) (c_Trail__are_dishonest : PySem.W.codeIn K cd_Trail__are_dishonest "Trail._are_dishonest" = true) (k_Trail__are_dishonest : PySem.W.keepIn K (.ref f_Trail__are_dishonest) = true)
    {f__law_cell : Addr} {od__law_cell an__law_cell : Option Addr} {sl__law_cell : Array (Option Value)} {oc__law_cell kV__law_cell dc__law_cell pm__law_cell cd__law_cell ct__law_cell : Value} (a__law_cell : PySem.W.nsIn K mainGlobals "_law_cell" = some (some (.ref f__law_cell))) (l__law_cell : K.lookup f__law_cell = some ⟨oc__law_cell, od__law_cell, .func (PySem.W.fnOf "_law_cell" "_law_cell" (defArgs s__law_cell) (defBody s__law_cell) (defScope s__law_cell) .none kV__law_cell dc__law_cell pm__law_cell an__law_cell cd__law_cell ct__law_cell), sl__law_cell⟩) (c__law_cell : PySem.W.codeIn K cd__law_cell "_law_cell" = true) (k__law_cell : PySem.W.keepIn K (.ref f__law_cell) = true)
    {f__law_draws : Addr} {od__law_draws an__law_draws : Option Addr} {sl__law_draws : Array (Option Value)} {oc__law_draws kV__law_draws dc__law_draws pm__law_draws cd__law_draws ct__law_draws : Value} (a__law_draws : PySem.W.nsIn K mainGlobals "_law_draws" = some (some (.ref f__law_draws))) (l__law_draws : K.lookup f__law_draws = some ⟨oc__law_draws, od__law_draws, .func (PySem.W.fnOf "_law_draws" "_law_draws" (defArgs s__law_draws) (defBody s__law_draws) (defScope s__law_draws) .none kV__law_draws dc__law_draws pm__law_draws an__law_draws cd__law_draws ct__law_draws), sl__law_draws⟩) (c__law_draws : PySem.W.codeIn K cd__law_draws "_law_draws" = true) (k__law_draws : PySem.W.keepIn K (.ref f__law_draws) = true)
    {f__law_noted : Addr} {od__law_noted an__law_noted : Option Addr} {sl__law_noted : Array (Option Value)} {oc__law_noted kV__law_noted dc__law_noted pm__law_noted cd__law_noted ct__law_noted : Value} (a__law_noted : PySem.W.nsIn K mainGlobals "_law_noted" = some (some (.ref f__law_noted))) (l__law_noted : K.lookup f__law_noted = some ⟨oc__law_noted, od__law_noted, .func (PySem.W.fnOf "_law_noted" "_law_noted" (defArgs s__law_noted) (defBody s__law_noted) (defScope s__law_noted) .none kV__law_noted dc__law_noted pm__law_noted an__law_noted cd__law_noted ct__law_noted), sl__law_noted⟩) (c__law_noted : PySem.W.codeIn K cd__law_noted "_law_noted" = true) (k__law_noted : PySem.W.keepIn K (.ref f__law_noted) = true)
    {f__law_begun : Addr} {od__law_begun an__law_begun : Option Addr} {sl__law_begun : Array (Option Value)} {oc__law_begun kV__law_begun dc__law_begun pm__law_begun cd__law_begun ct__law_begun : Value} (a__law_begun : PySem.W.nsIn K mainGlobals "_law_begun" = some (some (.ref f__law_begun))) (l__law_begun : K.lookup f__law_begun = some ⟨oc__law_begun, od__law_begun, .func (PySem.W.fnOf "_law_begun" "_law_begun" (defArgs s__law_begun) (defBody s__law_begun) (defScope s__law_begun) .none kV__law_begun dc__law_begun pm__law_begun an__law_begun cd__law_begun ct__law_begun), sl__law_begun⟩) (c__law_begun : PySem.W.codeIn K cd__law_begun "_law_begun" = true) (k__law_begun : PySem.W.keepIn K (.ref f__law_begun) = true)
    {f__law_evidence : Addr} {od__law_evidence an__law_evidence : Option Addr} {sl__law_evidence : Array (Option Value)} {oc__law_evidence kV__law_evidence dc__law_evidence pm__law_evidence cd__law_evidence ct__law_evidence : Value} (a__law_evidence : PySem.W.nsIn K mainGlobals "_law_evidence" = some (some (.ref f__law_evidence))) (l__law_evidence : K.lookup f__law_evidence = some ⟨oc__law_evidence, od__law_evidence, .func (PySem.W.fnOf "_law_evidence" "_law_evidence" (defArgs s__law_evidence) (defBody s__law_evidence) (defScope s__law_evidence) .none kV__law_evidence dc__law_evidence pm__law_evidence an__law_evidence cd__law_evidence ct__law_evidence), sl__law_evidence⟩) (c__law_evidence : PySem.W.codeIn K cd__law_evidence "_law_evidence" = true) (k__law_evidence : PySem.W.keepIn K (.ref f__law_evidence) = true)
    {f__law_why_not : Addr} {od__law_why_not an__law_why_not : Option Addr} {sl__law_why_not : Array (Option Value)} {oc__law_why_not kV__law_why_not dc__law_why_not pm__law_why_not cd__law_why_not ct__law_why_not : Value} (a__law_why_not : PySem.W.nsIn K mainGlobals "_law_why_not" = some (some (.ref f__law_why_not))) (l__law_why_not : K.lookup f__law_why_not = some ⟨oc__law_why_not, od__law_why_not, .func (PySem.W.fnOf "_law_why_not" "_law_why_not" (defArgs s__law_why_not) (defBody s__law_why_not) (defScope s__law_why_not) .none kV__law_why_not dc__law_why_not pm__law_why_not an__law_why_not cd__law_why_not ct__law_why_not), sl__law_why_not⟩) (c__law_why_not : PySem.W.codeIn K cd__law_why_not "_law_why_not" = true) (k__law_why_not : PySem.W.keepIn K (.ref f__law_why_not) = true)
    {f_Trail__note : Addr} {od_Trail__note an_Trail__note : Option Addr} {sl_Trail__note : Array (Option Value)} {oc_Trail__note kV_Trail__note dc_Trail__note pm_Trail__note cd_Trail__note ct_Trail__note : Value} (a_Trail__note : PySem.W.findIn K (.ref CL_Trail) "_note" = some (some (.ref f_Trail__note))) (i_Trail__note : PySem.W.isFn K (.ref f_Trail__note) = true) (l_Trail__note : K.lookup f_Trail__note = some ⟨oc_Trail__note, od_Trail__note, .func (PySem.W.fnOf "_note" "Trail._note" (defArgs s_Trail__note) (defBody s_Trail__note) (defScope s_Trail__note) .none kV_Trail__note dc_Trail__note pm_Trail__note an_Trail__note cd_Trail__note ct_Trail__note), sl_Trail__note⟩) (c_Trail__note : PySem.W.codeIn K cd_Trail__note "Trail._note" = true) (k_Trail__note : PySem.W.keepIn K (.ref f_Trail__note) = true)
    {f__law_parties : Addr} {od__law_parties an__law_parties : Option Addr} {sl__law_parties : Array (Option Value)} {oc__law_parties kV__law_parties dc__law_parties pm__law_parties cd__law_parties ct__law_parties : Value} (a__law_parties : PySem.W.nsIn K mainGlobals "_law_parties" = some (some (.ref f__law_parties))) (l__law_parties : K.lookup f__law_parties = some ⟨oc__law_parties, od__law_parties, .func (PySem.W.fnOf "_law_parties" "_law_parties" (defArgs s__law_parties) (defBody s__law_parties) (defScope s__law_parties) .none kV__law_parties dc__law_parties pm__law_parties an__law_parties cd__law_parties ct__law_parties), sl__law_parties⟩) (c__law_parties : PySem.W.codeIn K cd__law_parties "_law_parties" = true) (k__law_parties : PySem.W.keepIn K (.ref f__law_parties) = true)
    {f__law_honest : Addr} {od__law_honest an__law_honest : Option Addr} {sl__law_honest : Array (Option Value)} {oc__law_honest kV__law_honest dc__law_honest pm__law_honest cd__law_honest ct__law_honest : Value} (a__law_honest : PySem.W.nsIn K mainGlobals "_law_honest" = some (some (.ref f__law_honest))) (l__law_honest : K.lookup f__law_honest = some ⟨oc__law_honest, od__law_honest, .func (PySem.W.fnOf "_law_honest" "_law_honest" (defArgs s__law_honest) (defBody s__law_honest) (defScope s__law_honest) .none kV__law_honest dc__law_honest pm__law_honest an__law_honest cd__law_honest ct__law_honest), sl__law_honest⟩) (c__law_honest : PySem.W.codeIn K cd__law_honest "_law_honest" = true) (k__law_honest : PySem.W.keepIn K (.ref f__law_honest) = true)
    {f__law_lied : Addr} {od__law_lied an__law_lied : Option Addr} {sl__law_lied : Array (Option Value)} {oc__law_lied kV__law_lied dc__law_lied pm__law_lied cd__law_lied ct__law_lied : Value} (a__law_lied : PySem.W.nsIn K mainGlobals "_law_lied" = some (some (.ref f__law_lied))) (l__law_lied : K.lookup f__law_lied = some ⟨oc__law_lied, od__law_lied, .func (PySem.W.fnOf "_law_lied" "_law_lied" (defArgs s__law_lied) (defBody s__law_lied) (defScope s__law_lied) .none kV__law_lied dc__law_lied pm__law_lied an__law_lied cd__law_lied ct__law_lied), sl__law_lied⟩) (c__law_lied : PySem.W.codeIn K cd__law_lied "_law_lied" = true) (k__law_lied : PySem.W.keepIn K (.ref f__law_lied) = true)
    {f__law_deed : Addr} {od__law_deed an__law_deed : Option Addr} {sl__law_deed : Array (Option Value)} {oc__law_deed kV__law_deed dc__law_deed pm__law_deed cd__law_deed ct__law_deed : Value} (a__law_deed : PySem.W.nsIn K mainGlobals "_law_deed" = some (some (.ref f__law_deed))) (l__law_deed : K.lookup f__law_deed = some ⟨oc__law_deed, od__law_deed, .func (PySem.W.fnOf "_law_deed" "_law_deed" (defArgs s__law_deed) (defBody s__law_deed) (defScope s__law_deed) .none kV__law_deed dc__law_deed pm__law_deed an__law_deed cd__law_deed ct__law_deed), sl__law_deed⟩) (c__law_deed : PySem.W.codeIn K cd__law_deed "_law_deed" = true) (k__law_deed : PySem.W.keepIn K (.ref f__law_deed) = true)
    {f__law_is_it : Addr} {od__law_is_it an__law_is_it : Option Addr} {sl__law_is_it : Array (Option Value)} {oc__law_is_it kV__law_is_it dc__law_is_it pm__law_is_it cd__law_is_it ct__law_is_it : Value} (a__law_is_it : PySem.W.nsIn K mainGlobals "_law_is_it" = some (some (.ref f__law_is_it))) (l__law_is_it : K.lookup f__law_is_it = some ⟨oc__law_is_it, od__law_is_it, .func (PySem.W.fnOf "_law_is_it" "_law_is_it" (defArgs s__law_is_it) (defBody s__law_is_it) (defScope s__law_is_it) .none kV__law_is_it dc__law_is_it pm__law_is_it an__law_is_it cd__law_is_it ct__law_is_it), sl__law_is_it⟩) (c__law_is_it : PySem.W.codeIn K cd__law_is_it "_law_is_it" = true) (k__law_is_it : PySem.W.keepIn K (.ref f__law_is_it) = true)
    {f_Trail_omit : Addr} {od_Trail_omit an_Trail_omit : Option Addr} {sl_Trail_omit : Array (Option Value)} {oc_Trail_omit kV_Trail_omit dc_Trail_omit pm_Trail_omit cd_Trail_omit ct_Trail_omit : Value} (a_Trail_omit : PySem.W.findIn K (.ref CL_Trail) "omit" = some (some (.ref f_Trail_omit))) (i_Trail_omit : PySem.W.isFn K (.ref f_Trail_omit) = true) (l_Trail_omit : K.lookup f_Trail_omit = some ⟨oc_Trail_omit, od_Trail_omit, .func (PySem.W.fnOf "omit" "Trail.omit" (defArgs s_Trail_omit) (defBody s_Trail_omit) (defScope s_Trail_omit) .none kV_Trail_omit dc_Trail_omit pm_Trail_omit an_Trail_omit cd_Trail_omit ct_Trail_omit), sl_Trail_omit⟩) (c_Trail_omit : PySem.W.codeIn K cd_Trail_omit "Trail.omit" = true) (k_Trail_omit : PySem.W.keepIn K (.ref f_Trail_omit) = true)
    {f_Trail__check_makes : Addr} {od_Trail__check_makes an_Trail__check_makes : Option Addr} {sl_Trail__check_makes : Array (Option Value)} {oc_Trail__check_makes kV_Trail__check_makes dc_Trail__check_makes pm_Trail__check_makes cd_Trail__check_makes ct_Trail__check_makes : Value} (a_Trail__check_makes : PySem.W.findIn K (.ref CL_Trail) "_check_makes" = some (some (.ref f_Trail__check_makes))) (i_Trail__check_makes : PySem.W.isFn K (.ref f_Trail__check_makes) = true) (l_Trail__check_makes : K.lookup f_Trail__check_makes = some ⟨oc_Trail__check_makes, od_Trail__check_makes, .func (PySem.W.fnOf "_check_makes" "Trail._check_makes" (defArgs s_Trail__check_makes) (defBody s_Trail__check_makes) (defScope s_Trail__check_makes) .none kV_Trail__check_makes dc_Trail__check_makes pm_Trail__check_makes an_Trail__check_makes cd_Trail__check_makes ct_Trail__check_makes), sl_Trail__check_makes⟩) (c_Trail__check_makes : PySem.W.codeIn K cd_Trail__check_makes "Trail._check_makes" = true) (k_Trail__check_makes : PySem.W.keepIn K (.ref f_Trail__check_makes) = true)
    {f_Trail__take_away : Addr} {od_Trail__take_away an_Trail__take_away : Option Addr} {sl_Trail__take_away : Array (Option Value)} {oc_Trail__take_away kV_Trail__take_away dc_Trail__take_away pm_Trail__take_away cd_Trail__take_away ct_Trail__take_away : Value} (a_Trail__take_away : PySem.W.findIn K (.ref CL_Trail) "_take_away" = some (some (.ref f_Trail__take_away))) (i_Trail__take_away : PySem.W.isFn K (.ref f_Trail__take_away) = true) (l_Trail__take_away : K.lookup f_Trail__take_away = some ⟨oc_Trail__take_away, od_Trail__take_away, .func (PySem.W.fnOf "_take_away" "Trail._take_away" (defArgs s_Trail__take_away) (defBody s_Trail__take_away) (defScope s_Trail__take_away) .none kV_Trail__take_away dc_Trail__take_away pm_Trail__take_away an_Trail__take_away cd_Trail__take_away ct_Trail__take_away), sl_Trail__take_away⟩) (c_Trail__take_away : PySem.W.codeIn K cd_Trail__take_away "Trail._take_away" = true) (k_Trail__take_away : PySem.W.keepIn K (.ref f_Trail__take_away) = true)
    {f_Trail__happen_openly : Addr} {od_Trail__happen_openly an_Trail__happen_openly : Option Addr} {sl_Trail__happen_openly : Array (Option Value)} {oc_Trail__happen_openly kV_Trail__happen_openly dc_Trail__happen_openly pm_Trail__happen_openly cd_Trail__happen_openly ct_Trail__happen_openly : Value} (a_Trail__happen_openly : PySem.W.findIn K (.ref CL_Trail) "_happen_openly" = some (some (.ref f_Trail__happen_openly))) (i_Trail__happen_openly : PySem.W.isFn K (.ref f_Trail__happen_openly) = true) (l_Trail__happen_openly : K.lookup f_Trail__happen_openly = some ⟨oc_Trail__happen_openly, od_Trail__happen_openly, .func (PySem.W.fnOf "_happen_openly" "Trail._happen_openly" (defArgs s_Trail__happen_openly) (defBody s_Trail__happen_openly) (defScope s_Trail__happen_openly) .none kV_Trail__happen_openly dc_Trail__happen_openly pm_Trail__happen_openly an_Trail__happen_openly cd_Trail__happen_openly ct_Trail__happen_openly), sl_Trail__happen_openly⟩) (c_Trail__happen_openly : PySem.W.codeIn K cd_Trail__happen_openly "Trail._happen_openly" = true) (k_Trail__happen_openly : PySem.W.keepIn K (.ref f_Trail__happen_openly) = true)
    {f__check_are_two : Addr} {od__check_are_two an__check_are_two : Option Addr} {sl__check_are_two : Array (Option Value)} {oc__check_are_two kV__check_are_two dc__check_are_two pm__check_are_two cd__check_are_two ct__check_are_two : Value} (a__check_are_two : PySem.W.nsIn K mainGlobals "_check_are_two" = some (some (.ref f__check_are_two))) (l__check_are_two : K.lookup f__check_are_two = some ⟨oc__check_are_two, od__check_are_two, .func (PySem.W.fnOf "_check_are_two" "_check_are_two" (defArgs s__check_are_two) (defBody s__check_are_two) (defScope s__check_are_two) .none kV__check_are_two dc__check_are_two pm__check_are_two an__check_are_two cd__check_are_two ct__check_are_two), sl__check_are_two⟩) (c__check_are_two : PySem.W.codeIn K cd__check_are_two "_check_are_two" = true) (k__check_are_two : PySem.W.keepIn K (.ref f__check_are_two) = true)
    {f__law_did : Addr} {od__law_did an__law_did : Option Addr} {sl__law_did : Array (Option Value)} {oc__law_did kV__law_did dc__law_did pm__law_did cd__law_did ct__law_did : Value} (a__law_did : PySem.W.nsIn K mainGlobals "_law_did" = some (some (.ref f__law_did))) (l__law_did : K.lookup f__law_did = some ⟨oc__law_did, od__law_did, .func (PySem.W.fnOf "_law_did" "_law_did" (defArgs s__law_did) (defBody s__law_did) (defScope s__law_did) .none kV__law_did dc__law_did pm__law_did an__law_did cd__law_did ct__law_did), sl__law_did⟩) (c__law_did : PySem.W.codeIn K cd__law_did "_law_did" = true) (k__law_did : PySem.W.keepIn K (.ref f__law_did) = true)
    {f_Trail_make : Addr} {od_Trail_make an_Trail_make : Option Addr} {sl_Trail_make : Array (Option Value)} {oc_Trail_make kV_Trail_make dc_Trail_make pm_Trail_make cd_Trail_make ct_Trail_make : Value} (a_Trail_make : PySem.W.findIn K (.ref CL_Trail) "make" = some (some (.ref f_Trail_make))) (i_Trail_make : PySem.W.isFn K (.ref f_Trail_make) = true) (l_Trail_make : K.lookup f_Trail_make = some ⟨oc_Trail_make, od_Trail_make, .func (PySem.W.fnOf "make" "Trail.make" (defArgs s_Trail_make) (defBody s_Trail_make) (defScope s_Trail_make) .none kV_Trail_make dc_Trail_make pm_Trail_make an_Trail_make cd_Trail_make ct_Trail_make), sl_Trail_make⟩) (c_Trail_make : PySem.W.codeIn K cd_Trail_make "Trail.make" = true) (k_Trail_make : PySem.W.keepIn K (.ref f_Trail_make) = true)
    {f_Trail_treat : Addr} {od_Trail_treat an_Trail_treat : Option Addr} {sl_Trail_treat : Array (Option Value)} {oc_Trail_treat kV_Trail_treat dc_Trail_treat pm_Trail_treat cd_Trail_treat ct_Trail_treat : Value} (a_Trail_treat : PySem.W.findIn K (.ref CL_Trail) "treat" = some (some (.ref f_Trail_treat))) (i_Trail_treat : PySem.W.isFn K (.ref f_Trail_treat) = true) (l_Trail_treat : K.lookup f_Trail_treat = some ⟨oc_Trail_treat, od_Trail_treat, .func (PySem.W.fnOf "treat" "Trail.treat" (defArgs s_Trail_treat) (defBody s_Trail_treat) (defScope s_Trail_treat) .none kV_Trail_treat dc_Trail_treat pm_Trail_treat an_Trail_treat cd_Trail_treat ct_Trail_treat), sl_Trail_treat⟩) (c_Trail_treat : PySem.W.codeIn K cd_Trail_treat "Trail.treat" = true) (k_Trail_treat : PySem.W.keepIn K (.ref f_Trail_treat) = true)
    {f_Trail_inspect : Addr} {od_Trail_inspect an_Trail_inspect : Option Addr} {sl_Trail_inspect : Array (Option Value)} {oc_Trail_inspect kV_Trail_inspect dc_Trail_inspect pm_Trail_inspect cd_Trail_inspect ct_Trail_inspect : Value} (a_Trail_inspect : PySem.W.findIn K (.ref CL_Trail) "inspect" = some (some (.ref f_Trail_inspect))) (i_Trail_inspect : PySem.W.isFn K (.ref f_Trail_inspect) = true) (l_Trail_inspect : K.lookup f_Trail_inspect = some ⟨oc_Trail_inspect, od_Trail_inspect, .func (PySem.W.fnOf "inspect" "Trail.inspect" (defArgs s_Trail_inspect) (defBody s_Trail_inspect) (defScope s_Trail_inspect) .none kV_Trail_inspect dc_Trail_inspect pm_Trail_inspect an_Trail_inspect cd_Trail_inspect ct_Trail_inspect), sl_Trail_inspect⟩) (c_Trail_inspect : PySem.W.codeIn K cd_Trail_inspect "Trail.inspect" = true) (k_Trail_inspect : PySem.W.keepIn K (.ref f_Trail_inspect) = true)
    {f_Trail_dump : Addr} {od_Trail_dump an_Trail_dump : Option Addr} {sl_Trail_dump : Array (Option Value)} {oc_Trail_dump kV_Trail_dump dc_Trail_dump pm_Trail_dump cd_Trail_dump ct_Trail_dump : Value} (a_Trail_dump : PySem.W.findIn K (.ref CL_Trail) "dump" = some (some (.ref f_Trail_dump))) (i_Trail_dump : PySem.W.isFn K (.ref f_Trail_dump) = true) (l_Trail_dump : K.lookup f_Trail_dump = some ⟨oc_Trail_dump, od_Trail_dump, .func (PySem.W.fnOf "dump" "Trail.dump" (defArgs s_Trail_dump) (defBody s_Trail_dump) (defScope s_Trail_dump) .none kV_Trail_dump dc_Trail_dump pm_Trail_dump an_Trail_dump cd_Trail_dump ct_Trail_dump), sl_Trail_dump⟩) (c_Trail_dump : PySem.W.codeIn K cd_Trail_dump "Trail.dump" = true) (k_Trail_dump : PySem.W.keepIn K (.ref f_Trail_dump) = true)
    {f_Trail_conjure : Addr} {od_Trail_conjure an_Trail_conjure : Option Addr} {sl_Trail_conjure : Array (Option Value)} {oc_Trail_conjure kV_Trail_conjure dc_Trail_conjure pm_Trail_conjure cd_Trail_conjure ct_Trail_conjure : Value} (a_Trail_conjure : PySem.W.findIn K (.ref CL_Trail) "conjure" = some (some (.ref f_Trail_conjure))) (i_Trail_conjure : PySem.W.isFn K (.ref f_Trail_conjure) = true) (l_Trail_conjure : K.lookup f_Trail_conjure = some ⟨oc_Trail_conjure, od_Trail_conjure, .func (PySem.W.fnOf "conjure" "Trail.conjure" (defArgs s_Trail_conjure) (defBody s_Trail_conjure) (defScope s_Trail_conjure) .none kV_Trail_conjure dc_Trail_conjure pm_Trail_conjure an_Trail_conjure cd_Trail_conjure ct_Trail_conjure), sl_Trail_conjure⟩) (c_Trail_conjure : PySem.W.codeIn K cd_Trail_conjure "Trail.conjure" = true) (k_Trail_conjure : PySem.W.keepIn K (.ref f_Trail_conjure) = true)
    {f_Trail_sign : Addr} {od_Trail_sign an_Trail_sign : Option Addr} {sl_Trail_sign : Array (Option Value)} {oc_Trail_sign kV_Trail_sign dc_Trail_sign pm_Trail_sign cd_Trail_sign ct_Trail_sign : Value} (a_Trail_sign : PySem.W.findIn K (.ref CL_Trail) "sign" = some (some (.ref f_Trail_sign))) (i_Trail_sign : PySem.W.isFn K (.ref f_Trail_sign) = true) (l_Trail_sign : K.lookup f_Trail_sign = some ⟨oc_Trail_sign, od_Trail_sign, .func (PySem.W.fnOf "sign" "Trail.sign" (defArgs s_Trail_sign) (defBody s_Trail_sign) (defScope s_Trail_sign) .none kV_Trail_sign dc_Trail_sign pm_Trail_sign an_Trail_sign cd_Trail_sign ct_Trail_sign), sl_Trail_sign⟩) (c_Trail_sign : PySem.W.codeIn K cd_Trail_sign "Trail.sign" = true) (k_Trail_sign : PySem.W.keepIn K (.ref f_Trail_sign) = true)
    {f_Trail_write : Addr} {od_Trail_write an_Trail_write : Option Addr} {sl_Trail_write : Array (Option Value)} {oc_Trail_write kV_Trail_write dc_Trail_write pm_Trail_write cd_Trail_write ct_Trail_write : Value} (a_Trail_write : PySem.W.findIn K (.ref CL_Trail) "write" = some (some (.ref f_Trail_write))) (i_Trail_write : PySem.W.isFn K (.ref f_Trail_write) = true) (l_Trail_write : K.lookup f_Trail_write = some ⟨oc_Trail_write, od_Trail_write, .func (PySem.W.fnOf "write" "Trail.write" (defArgs s_Trail_write) (defBody s_Trail_write) (defScope s_Trail_write) .none kV_Trail_write dc_Trail_write pm_Trail_write an_Trail_write cd_Trail_write ct_Trail_write), sl_Trail_write⟩) (c_Trail_write : PySem.W.codeIn K cd_Trail_write "Trail.write" = true) (k_Trail_write : PySem.W.keepIn K (.ref f_Trail_write) = true)
    {f_Trail__move : Addr} {od_Trail__move an_Trail__move : Option Addr} {sl_Trail__move : Array (Option Value)} {oc_Trail__move kV_Trail__move dc_Trail__move pm_Trail__move cd_Trail__move ct_Trail__move : Value} (a_Trail__move : PySem.W.findIn K (.ref CL_Trail) "_move" = some (some (.ref f_Trail__move))) (i_Trail__move : PySem.W.isFn K (.ref f_Trail__move) = true) (l_Trail__move : K.lookup f_Trail__move = some ⟨oc_Trail__move, od_Trail__move, .func (PySem.W.fnOf "_move" "Trail._move" (defArgs s_Trail__move) (defBody s_Trail__move) (defScope s_Trail__move) .none kV_Trail__move dc_Trail__move pm_Trail__move an_Trail__move cd_Trail__move ct_Trail__move), sl_Trail__move⟩) (c_Trail__move : PySem.W.codeIn K cd_Trail__move "Trail._move" = true) (k_Trail__move : PySem.W.keepIn K (.ref f_Trail__move) = true)
    {f__law_modelled : Addr} {od__law_modelled an__law_modelled : Option Addr} {sl__law_modelled : Array (Option Value)} {oc__law_modelled kV__law_modelled dc__law_modelled pm__law_modelled cd__law_modelled ct__law_modelled : Value} (a__law_modelled : PySem.W.nsIn K mainGlobals "_law_modelled" = some (some (.ref f__law_modelled))) (l__law_modelled : K.lookup f__law_modelled = some ⟨oc__law_modelled, od__law_modelled, .func (PySem.W.fnOf "_law_modelled" "_law_modelled" (defArgs s__law_modelled) (defBody s__law_modelled) (defScope s__law_modelled) .none kV__law_modelled dc__law_modelled pm__law_modelled an__law_modelled cd__law_modelled ct__law_modelled), sl__law_modelled⟩) (c__law_modelled : PySem.W.codeIn K cd__law_modelled "_law_modelled" = true) (k__law_modelled : PySem.W.keepIn K (.ref f__law_modelled) = true)
    {f_Trail_hand : Addr} {od_Trail_hand an_Trail_hand : Option Addr} {sl_Trail_hand : Array (Option Value)} {oc_Trail_hand kV_Trail_hand dc_Trail_hand pm_Trail_hand cd_Trail_hand ct_Trail_hand : Value} (a_Trail_hand : PySem.W.findIn K (.ref CL_Trail) "hand" = some (some (.ref f_Trail_hand))) (i_Trail_hand : PySem.W.isFn K (.ref f_Trail_hand) = true) (l_Trail_hand : K.lookup f_Trail_hand = some ⟨oc_Trail_hand, od_Trail_hand, .func (PySem.W.fnOf "hand" "Trail.hand" (defArgs s_Trail_hand) (defBody s_Trail_hand) (defScope s_Trail_hand) .none kV_Trail_hand dc_Trail_hand pm_Trail_hand an_Trail_hand cd_Trail_hand ct_Trail_hand), sl_Trail_hand⟩) (c_Trail_hand : PySem.W.codeIn K cd_Trail_hand "Trail.hand" = true) (k_Trail_hand : PySem.W.keepIn K (.ref f_Trail_hand) = true)
    {f_Trail_pass_on : Addr} {od_Trail_pass_on an_Trail_pass_on : Option Addr} {sl_Trail_pass_on : Array (Option Value)} {oc_Trail_pass_on kV_Trail_pass_on dc_Trail_pass_on pm_Trail_pass_on cd_Trail_pass_on ct_Trail_pass_on : Value} (a_Trail_pass_on : PySem.W.findIn K (.ref CL_Trail) "pass_on" = some (some (.ref f_Trail_pass_on))) (i_Trail_pass_on : PySem.W.isFn K (.ref f_Trail_pass_on) = true) (l_Trail_pass_on : K.lookup f_Trail_pass_on = some ⟨oc_Trail_pass_on, od_Trail_pass_on, .func (PySem.W.fnOf "pass_on" "Trail.pass_on" (defArgs s_Trail_pass_on) (defBody s_Trail_pass_on) (defScope s_Trail_pass_on) .none kV_Trail_pass_on dc_Trail_pass_on pm_Trail_pass_on an_Trail_pass_on cd_Trail_pass_on ct_Trail_pass_on), sl_Trail_pass_on⟩) (c_Trail_pass_on : PySem.W.codeIn K cd_Trail_pass_on "Trail.pass_on" = true) (k_Trail_pass_on : PySem.W.keepIn K (.ref f_Trail_pass_on) = true)
    {f__law_written : Addr} {od__law_written an__law_written : Option Addr} {sl__law_written : Array (Option Value)} {oc__law_written kV__law_written dc__law_written pm__law_written cd__law_written ct__law_written : Value} (a__law_written : PySem.W.nsIn K mainGlobals "_law_written" = some (some (.ref f__law_written))) (l__law_written : K.lookup f__law_written = some ⟨oc__law_written, od__law_written, .func (PySem.W.fnOf "_law_written" "_law_written" (defArgs s__law_written) (defBody s__law_written) (defScope s__law_written) .none kV__law_written dc__law_written pm__law_written an__law_written cd__law_written ct__law_written), sl__law_written⟩) (c__law_written : PySem.W.codeIn K cd__law_written "_law_written" = true) (k__law_written : PySem.W.keepIn K (.ref f__law_written) = true)
    {f__law_told : Addr} {od__law_told an__law_told : Option Addr} {sl__law_told : Array (Option Value)} {oc__law_told kV__law_told dc__law_told pm__law_told cd__law_told ct__law_told : Value} (a__law_told : PySem.W.nsIn K mainGlobals "_law_told" = some (some (.ref f__law_told))) (l__law_told : K.lookup f__law_told = some ⟨oc__law_told, od__law_told, .func (PySem.W.fnOf "_law_told" "_law_told" (defArgs s__law_told) (defBody s__law_told) (defScope s__law_told) .none kV__law_told dc__law_told pm__law_told an__law_told cd__law_told ct__law_told), sl__law_told⟩) (c__law_told : PySem.W.codeIn K cd__law_told "_law_told" = true) (k__law_told : PySem.W.keepIn K (.ref f__law_told) = true)
    {f_law : Addr} {od_law an_law : Option Addr} {sl_law : Array (Option Value)} {oc_law kV_law dc_law pm_law cd_law ct_law : Value} (a_law : PySem.W.nsIn K mainGlobals "law" = some (some (.ref f_law))) (l_law : K.lookup f_law = some ⟨oc_law, od_law, .func (PySem.W.fnOf "law" "law" (defArgs s_law) (defBody s_law) (defScope s_law) .none kV_law dc_law pm_law an_law cd_law ct_law), sl_law⟩) (c_law : PySem.W.codeIn K cd_law "law" = true) (k_law : PySem.W.keepIn K (.ref f_law) = true)
    (z_int : PySem.W.nsIn K mainGlobals "int" = some none)
    (z_len : PySem.W.nsIn K mainGlobals "len" = some none)
    (z_list : PySem.W.nsIn K mainGlobals "list" = some none)
    (z_range : PySem.W.nsIn K mainGlobals "range" = some none)
    (z_sorted : PySem.W.nsIn K mainGlobals "sorted" = some none)
    (z_tuple : PySem.W.nsIn K mainGlobals "tuple" = some none)
    {RC TC fI : Addr} {nmR qR : Str} {NR : Addr} {bsR : List Value} {snR : List Str} {subR : List Value} {abR : Bool} {colR : Option Bool} {ddR : Option Addr} {r0 r1 r2 r3 r5 : Option Value} {odI anI : Option Addr} {slI : Array (Option Value)} {ocI kVI dcI pmI cdI ctI : Value} (aRC : PySem.W.nsIn K mainGlobals "Refused" = some (some (.ref RC))) (xRC : K.lookup RC = some (excClassObj nmR qR RC NR bsR [.ref TC, .type "ValueError", .type "Exception", .type "BaseException", .type "object"] true snR subR abR colR ddR r0 r1 r2 r3 r5 "ValueError.__new__")) (saR : PySem.W.findIn K (.ref RC) "__setattr__" = some (some (.builtin "object.__setattr__"))) (gaR : PySem.W.findIn K (.ref RC) "__getattribute__" = some (some (.builtin "BaseException.__getattribute__"))) (ggR : PySem.W.findIn K (.ref RC) "__getattr__" = some none) (nwR : PySem.W.findIn K (.ref RC) "what" = some none) (iR : PySem.W.findIn K (.ref RC) "__init__" = some (some (.ref fI))) (tIR : PySem.W.typeIn K (.ref fI) = some (.type "function")) (lI : K.lookup fI = some ⟨ocI, odI, .func (PySem.W.fnOf "__init__" "Refused.__init__" (defArgs s_init) (defBody s_init) (defScope s_init) .none kVI dcI pmI anI cdI ctI), slI⟩) (cI : PySem.W.codeIn K cdI "Refused.__init__" = true) (kI : PySem.W.keepIn K (.ref fI) = true) (kR : PySem.W.keepIn K (.ref RC) = true) (eR : PySem.W.subIn K (.ref RC) (.type "BaseException") = some true) (tR : PySem.W.typeIn K (.ref RC) = some (.type "type")) (hR : PySem.W.hasDictIn K RC = true) (icR : PySem.W.isClsIn K RC = true) (sR : PySem.W.subIn K (.ref RC) (.ref RC) = some true) :
    ∃ fd : FuncData, (∀ (s : Shared) (v : Value), BindsTo s fd ⟨[v], []⟩ [("script", v)]) ∧ ∀ base : Heap, K.In base → base.Ns mainGlobals mg → FnOk l.prog w K mg base CX0 7 fa fd ["script"] (SpG ⟨K, l.prog, w, []⟩ rel_law) := by
  have e := hfa.symm.trans (PySem.W.mg_of X G a_law)
  cases e
  have F_entry_at := fun_mk (st := s_entry_at) l_entry_at c_entry_at k_entry_at
  have b_entry_at := F_entry_at.binds (ps := ["file", "number"]) fun _ _ _ _ _ _ us hl => match us, hl with | [_, _], _ => rfl
  have g_entry_at := PySem.W.mg_of X G a_entry_at
  have F_entries_of := fun_mk (st := s_entries_of) l_entries_of c_entries_of k_entries_of
  have b_entries_of := F_entries_of.binds (ps := ["event"]) fun _ _ _ _ _ _ us hl => match us, hl with | [_], _ => rfl
  have g_entries_of := PySem.W.mg_of X G a_entries_of
  have F_Trail___init__ := fun_mk (st := s_Trail___init__) l_Trail___init__ c_Trail___init__ k_Trail___init__
  have b_Trail___init__ := F_Trail___init__.binds (ps := ["self", "kinds", "parties"]) fun _ _ _ _ _ _ us hl => match us, hl with | [_, _, _], _ => rfl
  have F_Trail_numbers := fun_mk (st := s_Trail_numbers) l_Trail_numbers c_Trail_numbers k_Trail_numbers
  have b_Trail_numbers := F_Trail_numbers.binds (ps := ["self"]) fun _ _ _ _ _ _ us hl => match us, hl with | [_], _ => rfl
  have F_Trail_stock := fun_mk (st := s_Trail_stock) l_Trail_stock c_Trail_stock k_Trail_stock
  have b_Trail_stock := F_Trail_stock.binds (ps := ["self", "party", "kind"]) fun _ _ _ _ _ _ us hl => match us, hl with | [_, _, _], _ => rfl
  have F_Trail_dishonest := fun_mk (st := s_Trail_dishonest) l_Trail_dishonest c_Trail_dishonest k_Trail_dishonest
  have b_Trail_dishonest := F_Trail_dishonest.binds (ps := ["self"]) fun _ _ _ _ _ _ us hl => match us, hl with | [_], _ => rfl
  have F_Trail_evidence := fun_mk (st := s_Trail_evidence) l_Trail_evidence c_Trail_evidence k_Trail_evidence
  have b_Trail_evidence := F_Trail_evidence.binds (ps := ["self"]) fun _ _ _ _ _ _ us hl => match us, hl with | [_], _ => rfl
  have F_Trail_history := fun_mk (st := s_Trail_history) l_Trail_history c_Trail_history k_Trail_history
  have b_Trail_history := F_Trail_history.binds (ps := ["self"]) fun _ _ _ _ _ _ us hl => match us, hl with | [_], _ => rfl
  have F_Trail__next_number := fun_mk (st := s_Trail__next_number) l_Trail__next_number c_Trail__next_number k_Trail__next_number
  have b_Trail__next_number := F_Trail__next_number.binds (ps := ["self"]) fun _ _ _ _ _ _ us hl => match us, hl with | [_], _ => rfl
  have F_Trail__are_dishonest := fun_mk (st := s_Trail__are_dishonest) l_Trail__are_dishonest c_Trail__are_dishonest k_Trail__are_dishonest
  have F__law_cell := fun_mk (st := s__law_cell) l__law_cell c__law_cell k__law_cell
  have b__law_cell := F__law_cell.binds (ps := ["script", "k"]) fun _ _ _ _ _ _ us hl => match us, hl with | [_, _], _ => rfl
  have g__law_cell := PySem.W.mg_of X G a__law_cell
  have F__law_draws := fun_mk (st := s__law_draws) l__law_draws c__law_draws k__law_draws
  have b__law_draws := F__law_draws.binds (ps := ["cell", "count"]) fun _ _ _ _ _ _ us hl => match us, hl with | [_, _], _ => rfl
  have g__law_draws := PySem.W.mg_of X G a__law_draws
  have F__law_noted := fun_mk (st := s__law_noted) l__law_noted c__law_noted k__law_noted
  have b__law_noted := F__law_noted.binds (ps := ["world", "giver", "taker", "kind", "amount", "is_sealed"]) fun _ _ _ _ _ _ us hl => match us, hl with | [_, _, _, _, _, _], _ => rfl
  have g__law_noted := PySem.W.mg_of X G a__law_noted
  have F__law_begun := fun_mk (st := s__law_begun) l__law_begun c__law_begun k__law_begun
  have b__law_begun := F__law_begun.binds (ps := ["kinds", "parties"]) fun _ _ _ _ _ _ us hl => match us, hl with | [_, _], _ => rfl
  have g__law_begun := PySem.W.mg_of X G a__law_begun
  have F__law_evidence := fun_mk (st := s__law_evidence) l__law_evidence c__law_evidence k__law_evidence
  have b__law_evidence := F__law_evidence.binds (ps := ["world"]) fun _ _ _ _ _ _ us hl => match us, hl with | [_], _ => rfl
  have g__law_evidence := PySem.W.mg_of X G a__law_evidence
  have F__law_why_not := fun_mk (st := s__law_why_not) l__law_why_not c__law_why_not k__law_why_not
  have b__law_why_not := F__law_why_not.binds (ps := ["world", "deed"]) fun _ _ _ _ _ _ us hl => match us, hl with | [_, _], _ => rfl
  have g__law_why_not := PySem.W.mg_of X G a__law_why_not
  have F_Trail__note := fun_mk (st := s_Trail__note) l_Trail__note c_Trail__note k_Trail__note
  have b_Trail__note := F_Trail__note.binds (ps := ["self", "event"]) fun _ _ _ _ _ _ us hl => match us, hl with | [_, _], _ => rfl
  have F__law_parties := fun_mk (st := s__law_parties) l__law_parties c__law_parties k__law_parties
  have b__law_parties := F__law_parties.binds (ps := ["cell", "most"]) fun _ _ _ _ _ _ us hl => match us, hl with | [_, _], _ => rfl
  have g__law_parties := PySem.W.mg_of X G a__law_parties
  have F__law_honest := fun_mk (st := s__law_honest) l__law_honest c__law_honest k__law_honest
  have b__law_honest := F__law_honest.binds (ps := ["world", "word", "party", "other", "kind", "amount", "is_sealed"]) fun _ _ _ _ _ _ us hl => match us, hl with | [_, _, _, _, _, _, _], _ => rfl
  have g__law_honest := PySem.W.mg_of X G a__law_honest
  have F__law_lied := fun_mk (st := s__law_lied) l__law_lied c__law_lied k__law_lied
  have b__law_lied := F__law_lied.binds (ps := ["world", "word", "party", "other", "kind", "amount", "is_sealed"]) fun _ _ _ _ _ _ us hl => match us, hl with | [_, _, _, _, _, _, _], _ => rfl
  have g__law_lied := PySem.W.mg_of X G a__law_lied
  have F__law_deed := fun_mk (st := s__law_deed) l__law_deed c__law_deed k__law_deed
  have b__law_deed := F__law_deed.binds (ps := ["cell", "world", "lying"]) fun _ _ _ _ _ _ us hl => match us, hl with | [_, _, _], _ => rfl
  have g__law_deed := PySem.W.mg_of X G a__law_deed
  have F__law_is_it := fun_mk (st := s__law_is_it) l__law_is_it c__law_is_it k__law_is_it
  have b__law_is_it := F__law_is_it.binds (ps := ["trail", "world"]) fun _ _ _ _ _ _ us hl => match us, hl with | [_, _], _ => rfl
  have g__law_is_it := PySem.W.mg_of X G a__law_is_it
  have F_Trail_omit := fun_mk (st := s_Trail_omit) l_Trail_omit c_Trail_omit k_Trail_omit
  have b_Trail_omit := F_Trail_omit.binds (ps := ["self", "party", "number"]) fun _ _ _ _ _ _ us hl => match us, hl with | [_, _, _], _ => rfl
  have F_Trail__check_makes := fun_mk (st := s_Trail__check_makes) l_Trail__check_makes c_Trail__check_makes k_Trail__check_makes
  have b_Trail__check_makes := F_Trail__check_makes.binds (ps := ["self", "party"]) fun _ _ _ _ _ _ us hl => match us, hl with | [_, _], _ => rfl
  have F_Trail__take_away := fun_mk (st := s_Trail__take_away) l_Trail__take_away c_Trail__take_away k_Trail__take_away
  have b_Trail__take_away := F_Trail__take_away.binds (ps := ["self", "party", "kind", "amount"]) fun _ _ _ _ _ _ us hl => match us, hl with | [_, _, _, _], _ => rfl
  have F_Trail__happen_openly := fun_mk (st := s_Trail__happen_openly) l_Trail__happen_openly c_Trail__happen_openly k_Trail__happen_openly
  have F__check_are_two := fun_mk (st := s__check_are_two) l__check_are_two c__check_are_two k__check_are_two
  have b__check_are_two := F__check_are_two.binds (ps := ["party", "other"]) fun _ _ _ _ _ _ us hl => match us, hl with | [_, _], _ => rfl
  have g__check_are_two := PySem.W.mg_of X G a__check_are_two
  have F__law_did := fun_mk (st := s__law_did) l__law_did c__law_did k__law_did
  have b__law_did := F__law_did.binds (ps := ["world", "deed"]) fun _ _ _ _ _ _ us hl => match us, hl with | [_, _], _ => rfl
  have g__law_did := PySem.W.mg_of X G a__law_did
  have F_Trail_make := fun_mk (st := s_Trail_make) l_Trail_make c_Trail_make k_Trail_make
  have b_Trail_make := F_Trail_make.binds (ps := ["self", "party", "kind", "amount"]) fun _ _ _ _ _ _ us hl => match us, hl with | [_, _, _, _], _ => rfl
  have F_Trail_treat := fun_mk (st := s_Trail_treat) l_Trail_treat c_Trail_treat k_Trail_treat
  have b_Trail_treat := F_Trail_treat.binds (ps := ["self", "party", "kind", "amount"]) fun _ _ _ _ _ _ us hl => match us, hl with | [_, _, _, _], _ => rfl
  have F_Trail_inspect := fun_mk (st := s_Trail_inspect) l_Trail_inspect c_Trail_inspect k_Trail_inspect
  have b_Trail_inspect := F_Trail_inspect.binds (ps := ["self", "party", "kind"]) fun _ _ _ _ _ _ us hl => match us, hl with | [_, _, _], _ => rfl
  have F_Trail_dump := fun_mk (st := s_Trail_dump) l_Trail_dump c_Trail_dump k_Trail_dump
  have b_Trail_dump := F_Trail_dump.binds (ps := ["self", "party", "kind", "amount"]) fun _ _ _ _ _ _ us hl => match us, hl with | [_, _, _, _], _ => rfl
  have F_Trail_conjure := fun_mk (st := s_Trail_conjure) l_Trail_conjure c_Trail_conjure k_Trail_conjure
  have b_Trail_conjure := F_Trail_conjure.binds (ps := ["self", "party", "kind", "amount"]) fun _ _ _ _ _ _ us hl => match us, hl with | [_, _, _, _], _ => rfl
  have F_Trail_sign := fun_mk (st := s_Trail_sign) l_Trail_sign c_Trail_sign k_Trail_sign
  have b_Trail_sign := F_Trail_sign.binds (ps := ["self", "giver", "taker", "kind", "amount", "sealed"]) fun _ _ _ _ _ _ us hl => match us, hl with | [_, _, _, _, _, _], _ => rfl
  have F_Trail_write := fun_mk (st := s_Trail_write) l_Trail_write c_Trail_write k_Trail_write
  have b_Trail_write := F_Trail_write.binds (ps := ["self", "party", "deed", "kind", "amount", "other"]) fun _ _ _ _ _ _ us hl => match us, hl with | [_, _, _, _, _, _], _ => rfl
  have F_Trail__move := fun_mk (st := s_Trail__move) l_Trail__move c_Trail__move k_Trail__move
  have b_Trail__move := F_Trail__move.binds (ps := ["self", "giver", "taker", "kind", "amount"]) fun _ _ _ _ _ _ us hl => match us, hl with | [_, _, _, _, _], _ => rfl
  have F__law_modelled := fun_mk (st := s__law_modelled) l__law_modelled c__law_modelled k__law_modelled
  have b__law_modelled := F__law_modelled.binds (ps := ["world", "deed"]) fun _ _ _ _ _ _ us hl => match us, hl with | [_, _], _ => rfl
  have g__law_modelled := PySem.W.mg_of X G a__law_modelled
  have F_Trail_hand := fun_mk (st := s_Trail_hand) l_Trail_hand c_Trail_hand k_Trail_hand
  have b_Trail_hand := F_Trail_hand.binds (ps := ["self", "giver", "taker", "kind", "amount", "sealed"]) fun _ _ _ _ _ _ us hl => match us, hl with | [_, _, _, _, _, _], _ => rfl
  have F_Trail_pass_on := fun_mk (st := s_Trail_pass_on) l_Trail_pass_on c_Trail_pass_on k_Trail_pass_on
  have b_Trail_pass_on := F_Trail_pass_on.binds (ps := ["self", "giver", "taker", "kind", "amount"]) fun _ _ _ _ _ _ us hl => match us, hl with | [_, _, _, _, _], _ => rfl
  have F__law_written := fun_mk (st := s__law_written) l__law_written c__law_written k__law_written
  have b__law_written := F__law_written.binds (ps := ["trail", "claim"]) fun _ _ _ _ _ _ us hl => match us, hl with | [_, _], _ => rfl
  have g__law_written := PySem.W.mg_of X G a__law_written
  have F__law_told := fun_mk (st := s__law_told) l__law_told c__law_told k__law_told
  have b__law_told := F__law_told.binds (ps := ["trail", "deed"]) fun _ _ _ _ _ _ us hl => match us, hl with | [_, _], _ => rfl
  have g__law_told := PySem.W.mg_of X G a__law_told
  have F_law := fun_mk (st := s_law) l_law c_law k_law
  have z_int := PySem.W.mg_none_of X G z_int
  have z_len := PySem.W.mg_none_of X G z_len
  have z_list := PySem.W.mg_none_of X G z_list
  have z_range := PySem.W.mg_none_of X G z_range
  have z_sorted := PySem.W.mg_none_of X G z_sorted
  have z_tuple := PySem.W.mg_none_of X G z_tuple
  refine ⟨PySem.W.fnOf "law" "law" (defArgs s_law) (defBody s_law) (defScope s_law) .none kV_law dc_law pm_law an_law cd_law ct_law, fun s v => .of_eq rfl, fun base _ _ => ?_⟩
  have CT_Trail : ClsT ⟨K, l.prog, w, []⟩ mg CL_Trail "Trail" ["_kinds", "_parties", "_have", "_files", "_finds", "_events", "_given", "_liars"] := ⟨⟨pg_Trail, hd_Trail, po_Trail, sa_Trail⟩, fun f hf => by simp only [List.mem_cons, List.not_mem_nil, or_false] at hf; rcases hf with rfl | rfl | rfl | rfl | rfl | rfl | rfl | rfl <;> assumption, PySem.W.mg_of X G aCL_Trail⟩
  have MK_Trail : Mk K CL_Trail f_Trail___init__ := ⟨mk_Trail, a_Trail___init__, i_Trail___init__, kc_Trail⟩
  have M_Trail_numbers : Meth K CL_Trail "numbers" f_Trail_numbers := ⟨a_Trail_numbers, i_Trail_numbers, k_Trail_numbers⟩
  have M_Trail_stock : Meth K CL_Trail "stock" f_Trail_stock := ⟨a_Trail_stock, i_Trail_stock, k_Trail_stock⟩
  have M_Trail_dishonest : Meth K CL_Trail "dishonest" f_Trail_dishonest := ⟨a_Trail_dishonest, i_Trail_dishonest, k_Trail_dishonest⟩
  have M_Trail_evidence : Meth K CL_Trail "evidence" f_Trail_evidence := ⟨a_Trail_evidence, i_Trail_evidence, k_Trail_evidence⟩
  have M_Trail_history : Meth K CL_Trail "history" f_Trail_history := ⟨a_Trail_history, i_Trail_history, k_Trail_history⟩
  have M_Trail__next_number : Meth K CL_Trail "_next_number" f_Trail__next_number := ⟨a_Trail__next_number, i_Trail__next_number, k_Trail__next_number⟩
  have M_Trail__are_dishonest : Meth K CL_Trail "_are_dishonest" f_Trail__are_dishonest := ⟨a_Trail__are_dishonest, i_Trail__are_dishonest, k_Trail__are_dishonest⟩
  have M_Trail__note : Meth K CL_Trail "_note" f_Trail__note := ⟨a_Trail__note, i_Trail__note, k_Trail__note⟩
  have M_Trail_omit : Meth K CL_Trail "omit" f_Trail_omit := ⟨a_Trail_omit, i_Trail_omit, k_Trail_omit⟩
  have M_Trail__check_makes : Meth K CL_Trail "_check_makes" f_Trail__check_makes := ⟨a_Trail__check_makes, i_Trail__check_makes, k_Trail__check_makes⟩
  have M_Trail__take_away : Meth K CL_Trail "_take_away" f_Trail__take_away := ⟨a_Trail__take_away, i_Trail__take_away, k_Trail__take_away⟩
  have M_Trail__happen_openly : Meth K CL_Trail "_happen_openly" f_Trail__happen_openly := ⟨a_Trail__happen_openly, i_Trail__happen_openly, k_Trail__happen_openly⟩
  have M_Trail_make : Meth K CL_Trail "make" f_Trail_make := ⟨a_Trail_make, i_Trail_make, k_Trail_make⟩
  have M_Trail_treat : Meth K CL_Trail "treat" f_Trail_treat := ⟨a_Trail_treat, i_Trail_treat, k_Trail_treat⟩
  have M_Trail_inspect : Meth K CL_Trail "inspect" f_Trail_inspect := ⟨a_Trail_inspect, i_Trail_inspect, k_Trail_inspect⟩
  have M_Trail_dump : Meth K CL_Trail "dump" f_Trail_dump := ⟨a_Trail_dump, i_Trail_dump, k_Trail_dump⟩
  have M_Trail_conjure : Meth K CL_Trail "conjure" f_Trail_conjure := ⟨a_Trail_conjure, i_Trail_conjure, k_Trail_conjure⟩
  have M_Trail_sign : Meth K CL_Trail "sign" f_Trail_sign := ⟨a_Trail_sign, i_Trail_sign, k_Trail_sign⟩
  have M_Trail_write : Meth K CL_Trail "write" f_Trail_write := ⟨a_Trail_write, i_Trail_write, k_Trail_write⟩
  have M_Trail__move : Meth K CL_Trail "_move" f_Trail__move := ⟨a_Trail__move, i_Trail__move, k_Trail__move⟩
  have M_Trail_hand : Meth K CL_Trail "hand" f_Trail_hand := ⟨a_Trail_hand, i_Trail_hand, k_Trail_hand⟩
  have M_Trail_pass_on : Meth K CL_Trail "pass_on" f_Trail_pass_on := ⟨a_Trail_pass_on, i_Trail_pass_on, k_Trail_pass_on⟩
  have oexT : OexC K RC := ⟨⟨nmR, qR, NR, bsR, _, snR, subR, abR, colR, ddR, r0, r1, r2, r3, r5, xRC, rfl⟩, saR, eR, tR, kR⟩
  have F_init := fun_mk (st := s_init) lI cI kI
  have b_init := F_init.binds (ps := ["self", "what"]) fun _ _ _ _ _ _ us hl => match us, hl with | [_, _], _ => rfl
  have RT : RefT ⟨K, l.prog, w, []⟩ mg base RC fI _ := ⟨oexT, ⟨gaR, ggR, eR, hR⟩, nwR, iR, tIR, ok_refInit (K := ⟨K, l.prog, w, []⟩) (mg := mg) (base := base) F_init oexT nwR, b_init, PySem.W.mg_of X G aRC, Ab.exm_self eR icR tR sR⟩
  have G_entry_at := ok_entry_at (K := ⟨K, l.prog, w, []⟩) (mg := mg) (base := base) F_entry_at
  have G_entries_of := ok_entries_of (K := ⟨K, l.prog, w, []⟩) (mg := mg) (base := base) F_entries_of
  have G_Trail___init__ := ok_Trail___init__ (K := ⟨K, l.prog, w, []⟩) (mg := mg) (base := base) CT_Trail F_Trail___init__ z_tuple
  have G_Trail_numbers := ok_Trail_numbers (K := ⟨K, l.prog, w, []⟩) (mg := mg) (base := base) CT_Trail F_Trail_numbers
  have G_Trail_stock := ok_Trail_stock (K := ⟨K, l.prog, w, []⟩) (mg := mg) (base := base) CT_Trail F_Trail_stock
  have G_Trail_dishonest := ok_Trail_dishonest (K := ⟨K, l.prog, w, []⟩) (mg := mg) (base := base) CT_Trail F_Trail_dishonest z_sorted z_tuple
  have G_Trail_evidence := ok_Trail_evidence (K := ⟨K, l.prog, w, []⟩) (mg := mg) (base := base) CT_Trail F_Trail_evidence z_tuple
  have G_Trail_history := ok_Trail_history (K := ⟨K, l.prog, w, []⟩) (mg := mg) (base := base) CT_Trail F_Trail_history z_list
  have G_Trail__next_number := ok_Trail__next_number (K := ⟨K, l.prog, w, []⟩) (mg := mg) (base := base) CT_Trail F_Trail__next_number
  have G_Trail__are_dishonest := ok_Trail__are_dishonest (K := ⟨K, l.prog, w, []⟩) (mg := mg) (base := base) CT_Trail F_Trail__are_dishonest
  have G__law_cell := ok__law_cell (K := ⟨K, l.prog, w, []⟩) (mg := mg) (base := base) F__law_cell z_len
  have G__law_draws := ok__law_draws (K := ⟨K, l.prog, w, []⟩) (mg := mg) (base := base) F__law_draws z_int z_range
  have G__law_noted := ok__law_noted (K := ⟨K, l.prog, w, []⟩) (mg := mg) (base := base) F__law_noted
  have G__law_begun := ok__law_begun (K := ⟨K, l.prog, w, []⟩) (mg := mg) (base := base) F__law_begun z_range
  have G__law_evidence := ok__law_evidence (K := ⟨K, l.prog, w, []⟩) (mg := mg) (base := base) F__law_evidence z_tuple
  have G__law_why_not := ok__law_why_not (K := ⟨K, l.prog, w, []⟩) (mg := mg) (base := base) F__law_why_not
  have G_Trail__note := ok_Trail__note (K := ⟨K, l.prog, w, []⟩) (mg := mg) (base := base) CT_Trail F_Trail__note F_entries_of G_entries_of b_entries_of g_entries_of
  have G__law_parties := ok__law_parties (K := ⟨K, l.prog, w, []⟩) (mg := mg) (base := base) F__law_parties F__law_draws G__law_draws b__law_draws g__law_draws z_int z_range z_tuple
  have G__law_honest := ok__law_honest (K := ⟨K, l.prog, w, []⟩) (mg := mg) (base := base) F__law_honest F__law_noted G__law_noted b__law_noted g__law_noted
  have G__law_lied := ok__law_lied (K := ⟨K, l.prog, w, []⟩) (mg := mg) (base := base) F__law_lied F__law_noted G__law_noted b__law_noted g__law_noted z_int z_len
  have G__law_deed := ok__law_deed (K := ⟨K, l.prog, w, []⟩) (mg := mg) (base := base) F__law_deed F__law_draws G__law_draws b__law_draws g__law_draws z_int z_len
  have G__law_is_it := ok__law_is_it (K := ⟨K, l.prog, w, []⟩) (mg := mg) (base := base) CT_Trail F__law_is_it F_Trail_dishonest G_Trail_dishonest b_Trail_dishonest M_Trail_dishonest F_Trail_evidence G_Trail_evidence b_Trail_evidence M_Trail_evidence F_Trail_history G_Trail_history b_Trail_history M_Trail_history F_Trail_numbers G_Trail_numbers b_Trail_numbers M_Trail_numbers F_Trail_stock G_Trail_stock b_Trail_stock M_Trail_stock F__law_evidence G__law_evidence b__law_evidence g__law_evidence z_len z_range z_sorted z_tuple
  have G_Trail_omit := ok_Trail_omit (K := ⟨K, l.prog, w, []⟩) (mg := mg) (base := base) RT CT_Trail F_Trail_omit F_Trail__are_dishonest G_Trail__are_dishonest M_Trail__are_dishonest F_entry_at G_entry_at b_entry_at g_entry_at
  have G_Trail__check_makes := ok_Trail__check_makes (K := ⟨K, l.prog, w, []⟩) (mg := mg) (base := base) RT CT_Trail F_Trail__check_makes
  have G_Trail__take_away := ok_Trail__take_away (K := ⟨K, l.prog, w, []⟩) (mg := mg) (base := base) RT CT_Trail F_Trail__take_away
  have G_Trail__happen_openly := ok_Trail__happen_openly (K := ⟨K, l.prog, w, []⟩) (mg := mg) (base := base) CT_Trail F_Trail__happen_openly F_Trail__next_number G_Trail__next_number b_Trail__next_number M_Trail__next_number F_Trail__note G_Trail__note b_Trail__note M_Trail__note
  have G__check_are_two := ok__check_are_two (K := ⟨K, l.prog, w, []⟩) (mg := mg) (base := base) RT F__check_are_two
  have G__law_did := ok__law_did (K := ⟨K, l.prog, w, []⟩) (mg := mg) (base := base) F__law_did F__law_honest G__law_honest b__law_honest g__law_honest F__law_lied G__law_lied b__law_lied g__law_lied
  have G_Trail_make := ok_Trail_make (K := ⟨K, l.prog, w, []⟩) (mg := mg) (base := base) RT CT_Trail F_Trail_make F_Trail__check_makes G_Trail__check_makes b_Trail__check_makes M_Trail__check_makes F_Trail__happen_openly G_Trail__happen_openly M_Trail__happen_openly
  have G_Trail_treat := ok_Trail_treat (K := ⟨K, l.prog, w, []⟩) (mg := mg) (base := base) RT CT_Trail F_Trail_treat F_Trail__happen_openly G_Trail__happen_openly M_Trail__happen_openly F_Trail__take_away G_Trail__take_away b_Trail__take_away M_Trail__take_away
  have G_Trail_inspect := ok_Trail_inspect (K := ⟨K, l.prog, w, []⟩) (mg := mg) (base := base) CT_Trail F_Trail_inspect F_Trail__happen_openly G_Trail__happen_openly M_Trail__happen_openly
  have G_Trail_dump := ok_Trail_dump (K := ⟨K, l.prog, w, []⟩) (mg := mg) (base := base) RT CT_Trail F_Trail_dump F_Trail__are_dishonest G_Trail__are_dishonest M_Trail__are_dishonest F_Trail__take_away G_Trail__take_away b_Trail__take_away M_Trail__take_away
  have G_Trail_conjure := ok_Trail_conjure (K := ⟨K, l.prog, w, []⟩) (mg := mg) (base := base) RT CT_Trail F_Trail_conjure F_Trail__are_dishonest G_Trail__are_dishonest M_Trail__are_dishonest F_Trail__check_makes G_Trail__check_makes b_Trail__check_makes M_Trail__check_makes
  have G_Trail_sign := ok_Trail_sign (K := ⟨K, l.prog, w, []⟩) (mg := mg) (base := base) RT CT_Trail F_Trail_sign F_Trail__are_dishonest G_Trail__are_dishonest M_Trail__are_dishonest F_Trail__next_number G_Trail__next_number b_Trail__next_number M_Trail__next_number F_Trail__note G_Trail__note b_Trail__note M_Trail__note F__check_are_two G__check_are_two b__check_are_two g__check_are_two
  have G_Trail_write := ok_Trail_write (K := ⟨K, l.prog, w, []⟩) (mg := mg) (base := base) RT CT_Trail F_Trail_write F_Trail__are_dishonest G_Trail__are_dishonest M_Trail__are_dishonest F_Trail__next_number G_Trail__next_number b_Trail__next_number M_Trail__next_number F__check_are_two G__check_are_two b__check_are_two g__check_are_two
  have G_Trail__move := ok_Trail__move (K := ⟨K, l.prog, w, []⟩) (mg := mg) (base := base) RT CT_Trail F_Trail__move F_Trail__take_away G_Trail__take_away b_Trail__take_away M_Trail__take_away F__check_are_two G__check_are_two b__check_are_two g__check_are_two
  have G__law_modelled := ok__law_modelled (K := ⟨K, l.prog, w, []⟩) (mg := mg) (base := base) F__law_modelled F__law_did G__law_did b__law_did g__law_did
  have G_Trail_hand := ok_Trail_hand (K := ⟨K, l.prog, w, []⟩) (mg := mg) (base := base) RT CT_Trail F_Trail_hand F_Trail__happen_openly G_Trail__happen_openly M_Trail__happen_openly F_Trail__move G_Trail__move b_Trail__move M_Trail__move
  have G_Trail_pass_on := ok_Trail_pass_on (K := ⟨K, l.prog, w, []⟩) (mg := mg) (base := base) RT CT_Trail F_Trail_pass_on F_Trail__are_dishonest G_Trail__are_dishonest M_Trail__are_dishonest F_Trail__move G_Trail__move b_Trail__move M_Trail__move
  have G__law_written := ok__law_written (K := ⟨K, l.prog, w, []⟩) (mg := mg) (base := base) RT CT_Trail F__law_written F_Trail_write G_Trail_write b_Trail_write M_Trail_write
  have G__law_told := ok__law_told (K := ⟨K, l.prog, w, []⟩) (mg := mg) (base := base) RT CT_Trail F__law_told F_Trail_conjure G_Trail_conjure b_Trail_conjure M_Trail_conjure F_Trail_dump G_Trail_dump b_Trail_dump M_Trail_dump F_Trail_hand G_Trail_hand b_Trail_hand M_Trail_hand F_Trail_inspect G_Trail_inspect b_Trail_inspect M_Trail_inspect F_Trail_make G_Trail_make b_Trail_make M_Trail_make F_Trail_omit G_Trail_omit b_Trail_omit M_Trail_omit F_Trail_pass_on G_Trail_pass_on b_Trail_pass_on M_Trail_pass_on F_Trail_sign G_Trail_sign b_Trail_sign M_Trail_sign F_Trail_treat G_Trail_treat b_Trail_treat M_Trail_treat F_Trail_write G_Trail_write b_Trail_write M_Trail_write z_int
  exact ok_law (K := ⟨K, l.prog, w, []⟩) CT_Trail F_law F_Trail___init__ G_Trail___init__ b_Trail___init__ MK_Trail F__law_begun G__law_begun b__law_begun g__law_begun F__law_cell G__law_cell b__law_cell g__law_cell F__law_deed G__law_deed b__law_deed g__law_deed F__law_is_it G__law_is_it b__law_is_it g__law_is_it F__law_modelled G__law_modelled b__law_modelled g__law_modelled F__law_parties G__law_parties b__law_parties g__law_parties F__law_told G__law_told b__law_told g__law_told F__law_why_not G__law_why_not b__law_why_not g__law_why_not F__law_written G__law_written b__law_written g__law_written z_list z_range
end K40
open PySem PySem.W PyProof.Rows
set_option maxHeartbeats 0 in
theorem PySem.Challenge.cw_notetrail_k40_trails_holds : PySem.Challenge.rw_notetrail_k40_trails.Holds := by
  w_on; o_law; k_head; (case hw => w_witness2)
  k_fill
  refine L2.walk_of (l := PySem.Challenge.rw_notetrail_k40_trails) (n := 63) (k := 7) (x := "script") (CX := fun _ => L2.CX0) (sp := fun w => Ab.SpG ⟨_, PySem.Challenge.rw_notetrail_k40_trails.prog, w, []⟩ K40.rel_law) rfl (by decide) rfl ⟨rfl, by decide, by decide⟩ (fun w h Y => PySem.W.kIn_of Y) ?F (fun _ _ a ns hl _ hS => Ab.sp_law hS fun C R q => ⟨ns, rfl, q⟩) (fun _ _ _ _ _ h => h)
  case F =>
    intro w mg fa h KX G hmg
    refine' K40.all_mk KX G hmg ?aCL_Trail ?pg_Trail ?hd_Trail ?po_Trail ?sa_Trail ?mk_Trail ?kc_Trail ?nf_Trail_0 ?nf_Trail_1 ?nf_Trail_2 ?nf_Trail_3 ?nf_Trail_4 ?nf_Trail_5 ?nf_Trail_6 ?nf_Trail_7 ?a_entry_at ?l_entry_at ?c_entry_at ?k_entry_at ?a_entries_of ?l_entries_of ?c_entries_of ?k_entries_of ?a_Trail___init__ ?i_Trail___init__ ?l_Trail___init__ ?c_Trail___init__ ?k_Trail___init__ ?a_Trail_numbers ?i_Trail_numbers ?l_Trail_numbers ?c_Trail_numbers ?k_Trail_numbers ?a_Trail_stock ?i_Trail_stock ?l_Trail_stock ?c_Trail_stock ?k_Trail_stock ?a_Trail_dishonest ?i_Trail_dishonest ?l_Trail_dishonest ?c_Trail_dishonest ?k_Trail_dishonest ?a_Trail_evidence ?i_Trail_evidence ?l_Trail_evidence ?c_Trail_evidence ?k_Trail_evidence ?a_Trail_history ?i_Trail_history ?l_Trail_history ?c_Trail_history ?k_Trail_history ?a_Trail__next_number ?i_Trail__next_number ?l_Trail__next_number ?c_Trail__next_number ?k_Trail__next_number ?a_Trail__are_dishonest ?i_Trail__are_dishonest ?l_Trail__are_dishonest ?c_Trail__are_dishonest ?k_Trail__are_dishonest ?a__law_cell ?l__law_cell ?c__law_cell ?k__law_cell ?a__law_draws ?l__law_draws ?c__law_draws ?k__law_draws ?a__law_noted ?l__law_noted ?c__law_noted ?k__law_noted ?a__law_begun ?l__law_begun ?c__law_begun ?k__law_begun ?a__law_evidence ?l__law_evidence ?c__law_evidence ?k__law_evidence ?a__law_why_not ?l__law_why_not ?c__law_why_not ?k__law_why_not ?a_Trail__note ?i_Trail__note ?l_Trail__note ?c_Trail__note ?k_Trail__note ?a__law_parties ?l__law_parties ?c__law_parties ?k__law_parties ?a__law_honest ?l__law_honest ?c__law_honest ?k__law_honest ?a__law_lied ?l__law_lied ?c__law_lied ?k__law_lied ?a__law_deed ?l__law_deed ?c__law_deed ?k__law_deed ?a__law_is_it ?l__law_is_it ?c__law_is_it ?k__law_is_it ?a_Trail_omit ?i_Trail_omit ?l_Trail_omit ?c_Trail_omit ?k_Trail_omit ?a_Trail__check_makes ?i_Trail__check_makes ?l_Trail__check_makes ?c_Trail__check_makes ?k_Trail__check_makes ?a_Trail__take_away ?i_Trail__take_away ?l_Trail__take_away ?c_Trail__take_away ?k_Trail__take_away ?a_Trail__happen_openly ?i_Trail__happen_openly ?l_Trail__happen_openly ?c_Trail__happen_openly ?k_Trail__happen_openly ?a__check_are_two ?l__check_are_two ?c__check_are_two ?k__check_are_two ?a__law_did ?l__law_did ?c__law_did ?k__law_did ?a_Trail_make ?i_Trail_make ?l_Trail_make ?c_Trail_make ?k_Trail_make ?a_Trail_treat ?i_Trail_treat ?l_Trail_treat ?c_Trail_treat ?k_Trail_treat ?a_Trail_inspect ?i_Trail_inspect ?l_Trail_inspect ?c_Trail_inspect ?k_Trail_inspect ?a_Trail_dump ?i_Trail_dump ?l_Trail_dump ?c_Trail_dump ?k_Trail_dump ?a_Trail_conjure ?i_Trail_conjure ?l_Trail_conjure ?c_Trail_conjure ?k_Trail_conjure ?a_Trail_sign ?i_Trail_sign ?l_Trail_sign ?c_Trail_sign ?k_Trail_sign ?a_Trail_write ?i_Trail_write ?l_Trail_write ?c_Trail_write ?k_Trail_write ?a_Trail__move ?i_Trail__move ?l_Trail__move ?c_Trail__move ?k_Trail__move ?a__law_modelled ?l__law_modelled ?c__law_modelled ?k__law_modelled ?a_Trail_hand ?i_Trail_hand ?l_Trail_hand ?c_Trail_hand ?k_Trail_hand ?a_Trail_pass_on ?i_Trail_pass_on ?l_Trail_pass_on ?c_Trail_pass_on ?k_Trail_pass_on ?a__law_written ?l__law_written ?c__law_written ?k__law_written ?a__law_told ?l__law_told ?c__law_told ?k__law_told ?a_law ?l_law ?c_law ?k_law ?z_int ?z_len ?z_list ?z_range ?z_sorted ?z_tuple ?aRC ?xRC ?saR ?gaR ?ggR ?nwR ?iR ?tIR ?lI ?cI ?kI ?kR ?eR ?tR ?hR ?icR ?sR
    (case aCL_Trail => k_is); (case pg_Trail => k_is); (case hd_Trail => k_is); (case po_Trail => k_is); (case sa_Trail => k_is); (case mk_Trail => k_is); (case kc_Trail => k_is); (case nf_Trail_0 => k_is); (case nf_Trail_1 => k_is); (case nf_Trail_2 => k_is); (case nf_Trail_3 => k_is); (case nf_Trail_4 => k_is); (case nf_Trail_5 => k_is); (case nf_Trail_6 => k_is); (case nf_Trail_7 => k_is); (case a_entry_at => k_is); (case l_entry_at => k_is); (case c_entry_at => k_is); (case k_entry_at => k_is); (case a_entries_of => k_is); (case l_entries_of => k_is); (case c_entries_of => k_is); (case k_entries_of => k_is); (case a_Trail___init__ => k_is); (case i_Trail___init__ => k_is); (case l_Trail___init__ => k_is); (case c_Trail___init__ => k_is); (case k_Trail___init__ => k_is); (case a_Trail_numbers => k_is); (case i_Trail_numbers => k_is); (case l_Trail_numbers => k_is); (case c_Trail_numbers => k_is); (case k_Trail_numbers => k_is); (case a_Trail_stock => k_is); (case i_Trail_stock => k_is); (case l_Trail_stock => k_is); (case c_Trail_stock => k_is); (case k_Trail_stock => k_is); (case a_Trail_dishonest => k_is); (case i_Trail_dishonest => k_is); (case l_Trail_dishonest => k_is); (case c_Trail_dishonest => k_is); (case k_Trail_dishonest => k_is); (case a_Trail_evidence => k_is); (case i_Trail_evidence => k_is); (case l_Trail_evidence => k_is); (case c_Trail_evidence => k_is); (case k_Trail_evidence => k_is); (case a_Trail_history => k_is); (case i_Trail_history => k_is); (case l_Trail_history => k_is); (case c_Trail_history => k_is); (case k_Trail_history => k_is); (case a_Trail__next_number => k_is); (case i_Trail__next_number => k_is); (case l_Trail__next_number => k_is); (case c_Trail__next_number => k_is); (case k_Trail__next_number => k_is); (case a_Trail__are_dishonest => k_is); (case i_Trail__are_dishonest => k_is); (case l_Trail__are_dishonest => k_is); (case c_Trail__are_dishonest => k_is); (case k_Trail__are_dishonest => k_is); (case a__law_cell => k_is); (case l__law_cell => k_is); (case c__law_cell => k_is); (case k__law_cell => k_is); (case a__law_draws => k_is); (case l__law_draws => k_is); (case c__law_draws => k_is); (case k__law_draws => k_is); (case a__law_noted => k_is); (case l__law_noted => k_is); (case c__law_noted => k_is); (case k__law_noted => k_is); (case a__law_begun => k_is); (case l__law_begun => k_is); (case c__law_begun => k_is); (case k__law_begun => k_is); (case a__law_evidence => k_is); (case l__law_evidence => k_is); (case c__law_evidence => k_is); (case k__law_evidence => k_is); (case a__law_why_not => k_is); (case l__law_why_not => k_is); (case c__law_why_not => k_is); (case k__law_why_not => k_is); (case a_Trail__note => k_is); (case i_Trail__note => k_is); (case l_Trail__note => k_is); (case c_Trail__note => k_is); (case k_Trail__note => k_is); (case a__law_parties => k_is); (case l__law_parties => k_is); (case c__law_parties => k_is); (case k__law_parties => k_is); (case a__law_honest => k_is); (case l__law_honest => k_is); (case c__law_honest => k_is); (case k__law_honest => k_is); (case a__law_lied => k_is); (case l__law_lied => k_is); (case c__law_lied => k_is); (case k__law_lied => k_is); (case a__law_deed => k_is); (case l__law_deed => k_is); (case c__law_deed => k_is); (case k__law_deed => k_is); (case a__law_is_it => k_is); (case l__law_is_it => k_is); (case c__law_is_it => k_is); (case k__law_is_it => k_is); (case a_Trail_omit => k_is); (case i_Trail_omit => k_is); (case l_Trail_omit => k_is); (case c_Trail_omit => k_is); (case k_Trail_omit => k_is); (case a_Trail__check_makes => k_is); (case i_Trail__check_makes => k_is); (case l_Trail__check_makes => k_is); (case c_Trail__check_makes => k_is); (case k_Trail__check_makes => k_is); (case a_Trail__take_away => k_is); (case i_Trail__take_away => k_is); (case l_Trail__take_away => k_is); (case c_Trail__take_away => k_is); (case k_Trail__take_away => k_is); (case a_Trail__happen_openly => k_is); (case i_Trail__happen_openly => k_is); (case l_Trail__happen_openly => k_is); (case c_Trail__happen_openly => k_is); (case k_Trail__happen_openly => k_is); (case a__check_are_two => k_is); (case l__check_are_two => k_is); (case c__check_are_two => k_is); (case k__check_are_two => k_is); (case a__law_did => k_is); (case l__law_did => k_is); (case c__law_did => k_is); (case k__law_did => k_is); (case a_Trail_make => k_is); (case i_Trail_make => k_is); (case l_Trail_make => k_is); (case c_Trail_make => k_is); (case k_Trail_make => k_is); (case a_Trail_treat => k_is); (case i_Trail_treat => k_is); (case l_Trail_treat => k_is); (case c_Trail_treat => k_is); (case k_Trail_treat => k_is); (case a_Trail_inspect => k_is); (case i_Trail_inspect => k_is); (case l_Trail_inspect => k_is); (case c_Trail_inspect => k_is); (case k_Trail_inspect => k_is); (case a_Trail_dump => k_is); (case i_Trail_dump => k_is); (case l_Trail_dump => k_is); (case c_Trail_dump => k_is); (case k_Trail_dump => k_is); (case a_Trail_conjure => k_is); (case i_Trail_conjure => k_is); (case l_Trail_conjure => k_is); (case c_Trail_conjure => k_is); (case k_Trail_conjure => k_is); (case a_Trail_sign => k_is); (case i_Trail_sign => k_is); (case l_Trail_sign => k_is); (case c_Trail_sign => k_is); (case k_Trail_sign => k_is); (case a_Trail_write => k_is); (case i_Trail_write => k_is); (case l_Trail_write => k_is); (case c_Trail_write => k_is); (case k_Trail_write => k_is); (case a_Trail__move => k_is); (case i_Trail__move => k_is); (case l_Trail__move => k_is); (case c_Trail__move => k_is); (case k_Trail__move => k_is); (case a__law_modelled => k_is); (case l__law_modelled => k_is); (case c__law_modelled => k_is); (case k__law_modelled => k_is); (case a_Trail_hand => k_is); (case i_Trail_hand => k_is); (case l_Trail_hand => k_is); (case c_Trail_hand => k_is); (case k_Trail_hand => k_is); (case a_Trail_pass_on => k_is); (case i_Trail_pass_on => k_is); (case l_Trail_pass_on => k_is); (case c_Trail_pass_on => k_is); (case k_Trail_pass_on => k_is); (case a__law_written => k_is); (case l__law_written => k_is); (case c__law_written => k_is); (case k__law_written => k_is); (case a__law_told => k_is); (case l__law_told => k_is); (case c__law_told => k_is); (case k__law_told => k_is); (case a_law => k_is); (case l_law => k_is); (case c_law => k_is); (case k_law => k_is); (case z_int => k_is); (case z_len => k_is); (case z_list => k_is); (case z_range => k_is); (case z_sorted => k_is); (case z_tuple => k_is); (case aRC => k_is); (case xRC => k_is); (case saR => k_is); (case gaR => k_is); (case ggR => k_is); (case nwR => k_is); (case iR => k_is); (case tIR => k_is); (case lI => k_is); (case cI => k_is); (case kI => k_is); (case kR => k_is); (case eR => k_is); (case tR => k_is); (case hR => k_is); (case icR => k_is); (case sR => first | rfl | k_is)

