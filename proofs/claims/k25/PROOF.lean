import PyProof.Rows.All
import Wide.All
import OpenK.AllK
import Wide.FinOn
import KE.KLam
import HandS.ForMost
import HandS.Codes
import HandS.Lambda
import HandS.Nested
import HandS.NestedK
import HandS.CallLocal
import KE.DatumOrd
import HandS.Rev
import HandS.SortInts
import KE.SortData
import HandS.SortKw
import KE.KDictLaws
import HandS.SetKeys
import HandS.Wide
import HandS.WideMore
import HandS.Conv
import HandS.IsInst
import HandS.WrittenGet
import HandS.HeadHook4
import HandS.HeadWalk
import HandS.Defaults
import HandS.TupSets
import HandS.OwnEq
import HandS.Deep
import HandS.DictTup
import PyProof.DictMoreH
import HandS.ExcOwn
import HandS.TryOnly
import HandS.HeadHook1
import HandS.Style
import HandS.Strs
import KE.DataCmp
import PySem.Challenge.RW_parley_k25_order_of_behaviours
import HandS.Head0
import HandS.Head1
import HandS.Head2
import HandS.HeadEnd
import HandS.HeadHook2
import HandS.HeadHook3
set_option Elab.async false
set_option linter.all false
set_option maxRecDepth 100000
set_option maxHeartbeats 4000000
namespace VA
open PySem PySem.Spec PyProof.Rows L2 LamX NdefX
/-! lambdas as made functions: F's statements are not used, b is the expression -/
def LamO (f : Addr) (F : NF) (b : Expr) : HO :=
  .ext fun h => ∃ (od : Option Addr) (sl : Array (Option Value)) (pm ctv : Value),
    h.get? f = some (⟨.type "function", od, .func (PySem.W.kla_fn F.name F.qual F.params b F.scope F.cl pm (.ref F.c) ctv), sl⟩ : Obj)
theorem lamO_ne {f : Addr} {F : NF} {b : Expr} (ps : Array Value) : LamO f F b ≠ .tbl ps := by
  intro z; unfold LamO at z; cases z
theorem lamO_at {P : Program} {w : World} {H : Hp} {h : Heap} {f : Addr} {F : NF} {b : Expr}
    (hok : HOk P w H h) (e : H f = some (LamO f F b)) :
    ∃ (od : Option Addr) (sl : Array (Option Value)) (pm ctv : Value),
      h.get? f = some (⟨.type "function", od, .func (PySem.W.kla_fn F.name F.qual F.params b F.scope F.cl pm (.ref F.c) ctv), sl⟩ : Obj) := by
  have z := hok f _ e
  exact z.1
abbrev lamF (q : Str) (params : Arguments) (scope : Scope) (cl : List (Str × Addr)) (c : Addr) : NF :=
  ⟨"<lambda>", q, params, [], scope, cl, c⟩
section
variable {X : Cx} {pins : List (Addr × Obj)} {σ : L2.St} {H : Hp} {s : Shared}
theorem inv_lam {F : NF} {b : Expr} {o : Obj} {t' : Nat} {pm ctv : Value} (I : Inv X pins σ H s)
    (ho : o = { cls := .type "function", data := .func (PySem.W.kla_fn F.name F.qual F.params b F.scope F.cl pm (.ref F.c) ctv) }) :
    Inv X pins σ (upd H s.heap.objs.size (LamO s.heap.objs.size F b)) { s with heap := s.heap.push o, toks := t' } := by
  subst ho
  have e : (s.heap.push ({ cls := .type "function", data := .func (PySem.W.kla_fn F.name F.qual F.params b F.scope F.cl pm (.ref F.c) ctv) } : Obj)).get? s.heap.objs.size
      = some ({ cls := .type "function", data := .func (PySem.W.kla_fn F.name F.qual F.params b F.scope F.cl pm (.ref F.c) ctv) } : Obj) :=
    Heap.get?_push_size _ rfl
  refine I.laid (a := s.heap.objs.size) (fun b u q => Heap.get?_push_of_some _ q) (Nat.le_refl _) ⟨⟨_, _, pm, ctv, e⟩, ⟨_, e⟩, ?_⟩
  rintro h1 h2 ⟨od, sl, p, t, z⟩ st
  exact ⟨od, sl, p, t, st _ z⟩
theorem lam_mk {T : List (Addr × Str)} {c P : Addr} {params : Arguments} {body : Expr} {scope : Scope} {pos : Pos}
    {E : Value → Shared → Prop} {Q : Value → Shared → Prop} (I : Inv X pins σ H s) (TB : TabB X.base X.mg c P)
    (hcode : X.env.code = .ref c) (hm : (P, X.env.qual ++ "<lambda>") ∈ T)
    (hu : ∀ p ∈ T, p.1 = P → p.2 = X.env.qual ++ "<lambda>") (hT : Tabs T H)
    (hdef : defaultsOf params X.env = ([], []))
    (hfree : ∀ y ∈ scope.names, y.2 = .free → ∃ c, X.env.cells.lookup y.1 = some c)
    (h : ∀ (f c' : Addr) (H1 : Hp) (s' : Shared), Inv X pins σ H1 s' → ExtN H H1 → (∀ b, H1 b = Option.none → H b = Option.none) →
      Tabs T H1 → H f = none →
      H1 f = some (LamO f (lamF (X.env.qual ++ "<lambda>") params scope (cloFrom X.env.cells scope.names []) c') body) →
      H1 c' = some (CodeO c' (X.env.qual ++ "<lambda>")) → Q (.ref f) s') :
    wpAny (model X.prog X.w) X.A (eval (.Lambda params body scope pos) X.env) Q E s := by
  obtain ⟨ps, hP, ht, ha⟩ := hT _ hm
  refine PySem.W.kla_eval hdef ?_
  have bP : s.heap.BuiltinsAt X.mg P := TB.bm.keeps I.bk
  have hP' : s.heap.get? P = some { cls := .none, data := .fields ps } := I.hok P _ hP
  cases hc : codeAmong pos ps.toList with
  | none =>
    refine PySem.W.kla_makeFunction (mg := X.mg) (c := c) (P := P) (ps := ps) (closure_ok hfree) I.ok.glob (I.mod.glob.keeps I.bk)
      hcode (TB.code.keeps I.bk) hP' ht hc TB.gP bP ?_
    rintro c' ctv h' tk hx hge hlt ⟨c2, oc, vs, t, e2, hoc, hd, hv⟩ htb
    cases e2
    have nC : H c' = none := I.hok.fresh hge
    have I1 := inv_table (t' := tk) (q := X.env.qual ++ "<lambda>") (more := #[rawInt pos.line, rawInt pos.col, .ref c']) (h' := h')
      I hP (fun b o hb e => hx b o hb e) htb hge ⟨oc, vs, t, hoc, hd, hv⟩
    have hE : ExtN H (upd (upd H P (.tbl (ps ++ #[rawInt pos.line, rawInt pos.col, .ref c']))) c' (CodeO c' (X.env.qual ++ "<lambda>"))) := by
      intro b o e n
      have n1 : b ≠ P := fun z => n ps (Option.some.inj (e.symm.trans (by rw [z]; exact hP)))
      rw [upd_ne (ne_of_none e nC), upd_ne n1, e]
    have eL : (ps ++ #[rawInt pos.line, rawInt pos.col, .ref c']).toList = ps.toList ++ [rawInt pos.line, rawInt pos.col, .ref c'] := by simp
    have T1 : Tabs T (upd (upd H P (.tbl (ps ++ #[rawInt pos.line, rawInt pos.col, .ref c']))) c' (CodeO c' (X.env.qual ++ "<lambda>"))) := by
      intro p hp
      by_cases hb : p.1 = P
      · rw [hu p hp hb, hb]
        refine ⟨_, by rw [upd_ne (ne_of_none hP nC), upd_same], by rw [eL]; exact PySem.TriplesOk_snoc _ _ _ _ ht, fun p' cv hcv => ?_⟩
        rw [eL] at hcv
        rcases among_app _ ht hcv with z | z
        · obtain ⟨c0, e1, e2⟩ := ha p' cv z
          exact ⟨c0, e1, hE _ _ e2 codeO_ne⟩
        · exact ⟨c', z, upd_same⟩
      · obtain ⟨ps', a1, a2, a3⟩ := hT p hp
        refine ⟨ps', ?_, a2, fun p' cv hcv => ?_⟩
        · rw [upd_ne (ne_of_none a1 nC), upd_ne hb, a1]
        · obtain ⟨c0, e1, e2⟩ := a3 p' cv hcv
          exact ⟨c0, e1, hE _ _ e2 codeO_ne⟩
    have nF := I1.hok.fresh (Nat.le_refl _)
    have I2 := inv_lam (F := lamF (X.env.qual ++ "<lambda>") params scope (cloFrom X.env.cells scope.names []) c') (b := body) (t' := tk)
      (pm := (X.mg "__name__").getD .none) (ctv := ctv) I1 rfl
    refine h h'.objs.size c' _ _ I2 ?_ (fun b e => upd_none (upd_none (upd_none e))) (T1.ext fun b o e => ?_)
      (I.hok.fresh (Nat.le_trans hge (Nat.le_of_lt hlt))) upd_same ?_
    · intro b o e n
      have e1 := hE b o e n
      exact (upd_ne (ne_of_none e1 nF)).trans e1
    · exact (upd_ne (ne_of_none e nF)).trans e
    · exact (upd_ne (Nat.ne_of_lt hlt)).trans upd_same
  | some cv =>
    obtain ⟨c', e, hco⟩ := ha pos cv hc
    subst e
    refine PySem.W.kla_makeFunctionHit (mg := X.mg) (c := c) (P := P) (ps := ps) (closure_ok hfree) I.ok.glob (I.mod.glob.keeps I.bk)
      hcode (TB.code.keeps I.bk) hP' ht hc bP ?_
    intro ctv h' tk hx hsz
    have I1 : Inv X pins σ H { s with heap := h', toks := tk } := I.kept hx
    have nF : H h'.objs.size = none := I1.hok.fresh (Nat.le_refl _)
    have I2 := inv_lam (F := lamF (X.env.qual ++ "<lambda>") params scope (cloFrom X.env.cells scope.names []) c') (b := body) (t' := tk)
      (pm := (X.mg "__name__").getD .none) (ctv := ctv) I1 rfl
    refine h h'.objs.size c' _ _ I2 ?_ (fun b e => upd_none e) (hT.ext fun b o e => ?_) nF upd_same ?_
    · intro b o e n
      exact (upd_ne (ne_of_none e nF)).trans e
    · exact (upd_ne (ne_of_none e nF)).trans e
    · exact (upd_ne (ne_of_none hco nF)).trans hco
/-- the reading of «lambda ..: b» as a value -/
def tLam (T : List (Addr × Str)) (mk : Addr → NF) (b : Expr) : TE := fun σ H Q => Tabs T H ∧
  ∀ (f c' : Addr) (H1 : Hp), ExtN H H1 → (∀ b, H1 b = Option.none → H b = Option.none) → Tabs T H1 → H f = none →
    H1 f = some (LamO f (mk c') b) → H1 c' = some (CodeO c' (mk c').qual) → Q (.ref f) H1
theorem pe_lam {T : List (Addr × Str)} {c P : Addr} {params : Arguments} {body : Expr} {scope : Scope} {pos : Pos}
    (TB : TabB X.base X.mg c P) (hcode : X.env.code = .ref c) (hm : (P, X.env.qual ++ "<lambda>") ∈ T)
    (hu : ∀ p ∈ T, p.1 = P → p.2 = X.env.qual ++ "<lambda>") (hdef : defaultsOf params X.env = ([], []))
    (hfree : ∀ y ∈ scope.names, y.2 = .free → X.env.scope.names.lookup y.1 = some .cell ∨ X.env.scope.names.lookup y.1 = some .free) :
    PE X (.Lambda params body scope pos) (tLam T (lamF (X.env.qual ++ "<lambda>") params scope (cloFrom X.env.cells scope.names [])) body) := by
  refine ⟨fun pins s σ H Q I h => ?_⟩
  obtain ⟨hT, h⟩ := h
  refine lam_mk I TB hcode hm hu hT hdef (fun y hy e => ?_) fun f c' H1 s' I1 eN nn T1 f0 f1 c1 => ?_
  · exact (hfree y hy e).elim (fun z => I.ok.has _ (.inl z)) fun z => I.ok.has _ (.inr z)
  · exact ⟨.ref f, H1, I1, rfl, h f c' H1 eN nn T1 f0 f1 c1⟩
end
/-! a value that may be called: φ tells what must stand in the heap -/
structure VCall (P : Program) (w : World) (K : PySem.W.Frag) (mg : Str → Option Value) (base : Heap) (k : Nat) (f : Addr) (φ : Hp → Prop) (sp : Sp) : Prop where
  fn : ∀ (h : Heap) (H : Hp), HOk P w H h → K.In h → φ H → PySem.W.FnAt f h
  run : ∀ (A : Around) (outer : List Env) (s : Shared) (H : Hp) (us : List Value) (vs : List V) (Q : VK) (E : XK), Room k A →
    Env0 P w K mg base A outer s H → φ H → Vals vs us → sp vs H Q E →
    codeAny (model P w) A (.call (.ref f) ⟨us, []⟩) (CR CX0 outer P w H s Q E) s
section
variable {P : Program} {w : World} {K : PySem.W.Frag} {mg : Str → Option Value} {base : Heap} {k j : Nat} {f : Addr} {φ : Hp → Prop} {sp sp' : Sp}
theorem VCall.mono (c : VCall P w K mg base j f φ sp) (h : j ≤ k) : VCall P w K mg base k f φ sp :=
  ⟨c.fn, fun A outer s H us vs Q E hr => c.run A outer s H us vs Q E (hr.mono h)⟩
theorem VCall.imp (c : VCall P w K mg base k f φ sp) (h : ∀ vs H Q E, sp' vs H Q E → sp vs H Q E) : VCall P w K mg base k f φ sp' :=
  ⟨c.fn, fun A outer s H us vs Q E hr e0 hf r q => c.run A outer s H us vs Q E hr e0 hf r (h _ _ _ _ q)⟩
/-- a def of the module -/
theorem VCall.def_ {fd : FuncData} {ps : List Str} (F : FnOk P w K mg base CX0 k f fd ps sp) (b : Binds K fd ps [])
    (lk : ∃ oc od sl, K.lookup f = some ⟨oc, od, .func fd, sl⟩) : VCall P w K mg base k f (fun _ => True) sp := by
  obtain ⟨oc, od, sl, lk⟩ := lk
  refine ⟨fun h H _ kin _ => ⟨oc, od, fd, sl, kin _ _ lk⟩, fun A outer s H us vs Q E hr e0 _ r q => ?_⟩
  have KX : K.In s.heap := e0.mod.kin.keeps fun b o e => (e0.bs b o e).1
  have hl : us.length = ps.length := by rw [← r.length]; exact F.len _ _ _ _ q
  have hb := b s us KX (by simpa using hl)
  rw [List.append_nil] at hb
  exact F.run A outer s H ⟨us, []⟩ us vs Q E hr e0 hb r q
end
end VA

set_option Elab.async false
set_option linter.all false
set_option maxRecDepth 100000
set_option maxHeartbeats 4000000
namespace VA
open PySem PySem.Spec PyProof.Rows L2 LamX NdefX
section
variable {prog : Program} {w : World} {A : Around} {E : Value → Shared → Prop} {s : Shared}
/-- the test of a slice of step one -/
def selF (a n : Int) (i : Nat) : Bool :=
  if (1 : Int) > 0 then a ≤ i && i < n && (i - a) % 1 == 0
  else n < i && i ≤ a && (a - i) % (-1) == 0
theorem sel_from (a n k : Nat) (hk : k < n) : selF (a : Int) (n : Int) k = decide (a ≤ k) := by
  unfold selF
  by_cases h : a ≤ k
  · have h1 : (a : Int) ≤ k := by omega
    have h2 : (k : Int) < n := by omega
    have h3 : ((k : Int) - a) % 1 = 0 := by omega
    simp [h, h1, h2, h3]
  · have h1 : ¬ (a : Int) ≤ k := by omega
    simp [h, h1]
theorem keep_from (a : Nat) : ∀ (xs : List Value) (i n : Nat), i + xs.length ≤ n →
    (xs.zipIdx i).filterMap (fun (x, k) => if selF (a : Int) (n : Int) k then none else some x) = xs.take (a - i)
  | [], i, n, _ => by simp
  | x :: xs, i, n, h => by
    have hn : i + 1 + xs.length ≤ n := by rw [List.length_cons] at h; omega
    have hk : i < n := by rw [List.length_cons] at h; omega
    rw [List.zipIdx_cons, List.filterMap_cons, keep_from a xs (i + 1) n hn]
    have hs := sel_from a n i hk
    by_cases q : a ≤ i
    · have e : a - i = 0 := by omega
      have e2 : a - (i + 1) = 0 := by omega
      simp [hs, q, e, e2]
    · have e : a - i = (a - (i + 1)) + 1 := by omega
      simp [hs, q, e]
theorem bounds_from {a n : Nat} (h : a ≤ n) : sliceBounds (some (a : Int)) none none n = ((a : Int), (n : Int), 1) := by
  simp only [sliceBounds, Option.getD_none]
  have h1 : ¬ ((a : Int) < 0) := by omega
  simp only [h1, if_false, show (1 : Int) > 0 by decide, if_true]
  congr 1
  omega
theorem delItem_tail {l sl : Addr} {items : List Value} {n : Nat} {vl : Value} {a : Nat} {Q : Unit → Shared → Prop}
    (e : s.heap.get? l = some { cls := .type "list", data := .seq items.toArray n }) (hs : s.heap.IsSliceOf sl vl .none .none)
    (pl : IsPart vl (some (a : Int))) (ha : a ≤ items.length) (hsz : items.length ≤ sizeLine)
    (h : Q () { s with heap := s.heap.update l (Obj.mapSeq fun xs => (xs.toList.zipIdx.filterMap fun (x, k) => if selF (a : Int) (items.length : Int) k then none else some x).toArray) }) :
    wpAny (model prog w) A (delItem (.ref l) (.ref sl)) Q E s := by
  have hl : s.heap.IsList l items.toArray := PySem.IsL.isList e
  obtain ⟨os, hos, hcs, hds⟩ := id hs
  have hTs : s.TypeIs (.ref sl) "slice" := ⟨os, hos, hcs⟩
  have hstep : ¬ ((rawPart none == rawInt 0) = true) := Bool.false_ne_true
  have hz' : ((fun xs : Array Value => (xs.toList.zipIdx.filterMap fun (x, k) => if selF (a : Int) (items.length : Int) k then none else some x).toArray) items.toArray).size ≤ sizeLine + 1 := by
    show (items.zipIdx.filterMap _).toArray.size ≤ _
    rw [List.size_toArray]
    refine Nat.le_trans (List.length_filterMap_le _ _) ?_
    rw [List.length_zipIdx]; omega
  unfold delItem
  try with_reducible refine wpAny_holding ?_
  first | refine wpAny_bind (wpAny_pure ?_) | skip
  refine wpAny_bind (wpAny_sequenceKey hl.typeIs (by decide) ?_)
  refine wpAny_bind (wpAny_callSpecial?_slot (name := Str.ofString "__delitem__") hl.typeIs PySem.F.slot_list_delitem
    (wpAny_call_entry PySem.F.slot_list_delitem hl.typeIs PySem.F.entry_list_delitem ?_ (PySem.F.args_list_delitem_2 _ _)))
  show wpAny _ _ (Builtin.List.listSubscript? (.ref sl) >>= _) _ _ s
  refine wpAny_bind ?_
  unfold Builtin.List.listSubscript?
  refine wpAny_bind (wpAny_specialOf hTs slice_no_index ?_)
  simp only [Option.isNone_none, if_true]
  refine wpAny_pure ?_
  show wpAny _ _ (typeOf (.ref sl) >>= _) _ _ s
  refine wpAny_bind (wpAny_typeOf hTs ?_)
  first
    | rw [if_neg (by decide)]
    | refine PySem.W.KFB.if_not (by decide) ?_
  rw [listSliceParts_eq]
  refine wpAny_bind (wpAny_bind (wpAny_field hos hds (x := .none) rfl (wpAny_bind (wpAny_listPart .none ?_))))
  rw [if_neg hstep]
  refine wpAny_bind (wpAny_field hos hds (x := vl) rfl (wpAny_bind (wpAny_listPart pl ?_)))
  refine wpAny_bind (wpAny_field hos hds (x := .none) rfl (wpAny_bind (wpAny_listPart .none (wpAny_pure ?_))))
  unfold Builtin.List.listItems
  refine wpAny_bind (wpAny_bind (wpAny_seqItems e rfl (wpAny_pure ?_)))
  refine wpAny_bind (wpAny_of_eq ((sliceIndices_raw (some (a : Int)) none none items.toArray.size (by simp)).trans (congrArg (pure : Int × Int × Int → Sem (Int × Int × Int)) (bounds_from (n := items.toArray.size) (by simpa using ha)))) ?_)
  refine wpAny_bind (wpAny_rule ?_)
  have esz : ((items.toArray.size : Nat) : Int) = (items.length : Int) := by rw [List.size_toArray]
  rw [esz]
  refine wpAny_bind (wpAny_updateSeq (hz := by rw [List.size_toArray]; exact hsz) (_hz' := hz') e rfl ?_)
  refine wpAny_bind (wpAny_letGo ?_)
  first
    | exact wpAny_bind (wpAny_pure (wpAny_pure ⟨.none, rfl, wpAny_pure h⟩))
    | exact wpAny_pure ⟨.none, rfl, wpAny_pure h⟩
end
section
variable {X : Cx} {pos tpos p2 : Pos}
/-- del xs[a:] of a list -/
def tDelFrom (to tl : TE) : TS := fun D σ H => to σ H fun x H1 => tl σ H1 fun y H2 =>
  ∃ (l : Addr) (xs : List V) (a : Nat), x = .ref l ∧ y = .int a ∧ H2 l = some (.lst xs) ∧ a ≤ xs.length ∧ D.nx σ (upd H2 l (.lst (xs.take a)))
theorem ps_delFrom {o lo : Expr} {to tl : TE} (ho : PE X o to) (hl : PE X lo tl) :
    PS X (.Delete [.Subscript o (.Slice (some lo) none none p2) tpos] pos) (tDelFrom to tl) := by
  refine ⟨fun pins s σ H D I h => ?_⟩
  refine wpAny_Delete (wpAny_deleteEach_cons (wpAny_delete_Subscript (thn (ho.run pins s σ H _ I h) fun u s1 ⟨x, H1, I1, rx, q1⟩ => ?_)))
  refine wpAny_Slice ?_
  rw [evalPart_some]
  refine thn (hl.run pins s1 σ H1 _ I1 q1) fun vl s2 ⟨y, H2, I2, ry, q2⟩ => ?_
  rw [evalPart_none]
  refine wpAny_pure (wpAny_pure ?_)
  obtain ⟨l, xs, a, ex, ey, hH, ha, q⟩ := q2
  subst ex
  subst ey
  cases (show u = Value.ref l from rx)
  obtain ⟨t, rfl⟩ := (show ∃ t, vl = Value.int (a : Int) t from ry)
  have I3 : Inv X pins σ H2 { s2 with heap := s2.heap.push { cls := .type "slice", data := .fields #[.int (a : Int) t, .none, .none] } } :=
    I2.kept (t' := s2.toks) fun b ob q => Heap.get?_push_of_some _ q
  obtain ⟨hz, its, n, rv, hlen, e⟩ := I3.lstM hH
  refine delItem_tail (n := n) e (Heap.IsSliceOf.new ..) (.int _ _) (by omega) (by omega) ?_
  refine wpAny_deleteEach_nil ⟨σ, upd H2 l (.lst (xs.take a)), ?_, q⟩
  refine I3.lset (its' := its.take a) (t' := s2.toks) hH e ?_ (rv.take _) (by rw [List.length_take]; omega)
  show (List.filterMap _ (its.toArray.toList.zipIdx)).toArray = _
  rw [List.toList_toArray]
  exact congrArg List.toArray (keep_from a its 0 its.length (by omega))
end
end VA

set_option Elab.async false
set_option linter.all false
set_option maxRecDepth 100000
set_option maxHeartbeats 4000000
namespace VA
open PySem PySem.Spec PyProof.Rows L2 LamX NdefX
theorem each_vals {β : Type} (emb : β → V) : ∀ {bs : List β} {us : List Value}, Vals (bs.map emb) us → PySem.W.EachIs (fun u b => RelV (emb b) u) us bs
  | [], us, r => by rw [List.map_nil] at r; cases r; exact .nil
  | b :: bs, us, r => by
    rw [List.map_cons] at r
    cases r with
    | cons h t => exact .cons h (each_vals emb t)
theorem vals_each {β : Type} (emb : β → V) : ∀ {bs : List β} {us : List Value}, PySem.W.EachIs (fun u b => RelV (emb b) u) us bs → Vals (bs.map emb) us
  | _, _, .nil => .nil
  | _, _, .cons h t => .cons h (vals_each emb t)
theorem each_reads {β : Type} {X : Cx} {pins : List (Addr × Obj)} {σ : L2.St} {H : Hp} {s : Shared} (I : Inv X pins σ H s) (emb : β → V) (enc : β → PyData) :
    ∀ {bs : List β} {us : List Value}, (∀ b ∈ bs, Dp X.K H (emb b) (enc b)) → Vals (bs.map emb) us → PySem.W.EachIs (fun u b => ∃ as, Reads s.heap u (enc b) as) us bs
  | [], us, _, r => by rw [List.map_nil] at r; cases r; exact .nil
  | b :: bs, us, hd, r => by
    rw [List.map_cons] at r
    cases r with
    | cons h t =>
      exact .cons (Dp.reads I _ _ _ (hd b List.mem_cons_self) h) (each_reads I emb enc (fun c hc => hd c (List.mem_cons_of_mem _ hc)) t)
/-- sorted(xs), any alike data: bs are the items, emb their values, enc their data -/
def rSortedB {β : Type} (K : PySem.W.Frag) (emb : β → V) (enc : β → PyData) : List V → Hp → VK → Prop := fun vs H Q =>
  ∃ (a : Addr) (bs : List β), vs = [V.ref a] ∧ SqL K H a (bs.map emb) ∧ (∀ b ∈ bs, Dp K H (emb b) (enc b)) ∧
    PySem.W.AllAlike (bs.map enc) ∧ PySem.W.Sortable (bs.map enc) ∧ (∀ b ∈ bs, (enc b).depth ≤ 8) ∧
    ∀ p : Addr, H p = none → Q (.ref p) (upd H p (.lst ((bs.mergeSort (PySem.W.dataLe false enc)).map emb)))
section
variable {X : Cx}
theorem cr_sortedB {β : Type} {k : Nat} (emb : β → V) (enc : β → PyData) (hr : Room k X.A) : CallR X (.builtin "sorted") (rSortedB X.K emb enc) := by
  intro pins s σ H vs us Q I r h
  obtain ⟨a, bs, rfl, hs, hd, hal, hk, hdp, q⟩ := h
  obtain ⟨its, rv, hl, hz⟩ := I.list hs
  rw [Vals.ref1 r]
  have hun := hr.un
  have hlen : bs.length ≤ sizeLine := by rw [List.length_map] at hz; exact hz
  refine PySem.W.sorted_data (R := fun u b => RelV (emb b) u) hl.isList (each_vals emb rv) (each_reads I emb enc hd rv) hal hk hlen
    (fun b hb => by have := hdp b hb; omega) fun out ho he => ?_
  obtain ⟨ep, he'⟩ := PyProof.Rows.sortedAll_at s.heap its out.toArray
  have hl2 : ((bs.mergeSort (PySem.W.dataLe false enc)).map emb).length ≤ sizeLine := by
    rw [List.length_map, List.length_mergeSort]; exact hlen
  exact ⟨.ref _, upd H (s.heap.objs.size + 1) (.lst ((bs.mergeSort (PySem.W.dataLe false enc)).map emb)),
    I.laid (t' := s.toks) (fun _ _ => PyProof.Rows.sortedAll_old) (Nat.le_succ _) ⟨hl2, out, ep, vals_each emb he, he'⟩, rfl, q _ (I.hok.fresh (Nat.le_succ _))⟩
/-- max(xs, default=d), whole numbers -/
def rMaxD (K : PySem.W.Frag) : List V → List V → Hp → VK → Prop := fun vs zs H Q =>
  ∃ (a : Addr) (ns : List Int) (d : Int), vs = [V.ref a] ∧ zs = [.int d] ∧ SqL K H a (ns.map V.int) ∧
    Q (.int (match ns with | [] => d | n :: r => r.foldl max n)) H
theorem reads_ints {h : Heap} : ∀ {us : List Value} {ns : List Int}, IntsAre us ns → ReadsAll h us (ns.map .int) []
  | _, _, .nil => .nil
  | _, _, .cons n t r => ReadsAll.cons (as := []) (bs := []) (.int n t) (reads_ints r)
theorem alike_ints (ns : List Int) : PySem.W.AlikeAll (ns.map .int) := by
  refine ⟨fun x hx y hy => ?_, fun x hx => ?_⟩
  · obtain ⟨n, _, rfl⟩ := List.mem_map.mp hx
    obtain ⟨m, _, rfl⟩ := List.mem_map.mp hy
    rfl
  · obtain ⟨n, _, rfl⟩ := List.mem_map.mp hx
    intro z; cases z
theorem depth_ints : ∀ ns : List Int, PyData.depthAll (ns.map PyData.int) = 0
  | [] => rfl
  | n :: r => by
    rw [List.map_cons]
    simp only [PyData.depthAll, PyData.depth, depth_ints r, Nat.max_self]
theorem cr_maxD {k : Nat} (hc : X.calm = true) (hr : Room k X.A) : CallRK X (.builtin "max") [Str.ofString "default"] (rMaxD X.K) := by
  intro pins s σ H vs zs us ws Q I r rz h
  obtain ⟨a, ns, d, rfl, rfl, hs, q⟩ := h
  obtain rfl := Vals.ref1 r
  obtain ⟨w1, rfl, e1⟩ := vals1 rz
  obtain ⟨t, rfl⟩ := e1
  obtain ⟨its, rv, hl, hz⟩ := I.list hs
  have hi := rv.ints
  have hun := hr.un
  have hin : X.A.handled = none := I.ok.hd hc
  refine PySem.W.max_list_default (xs := ns.map .int) hin hl.isList (by simpa using reads_ints (h := s.heap) hi) (alike_ints ns) (by rw [depth_ints]; omega)
    (fun e h' tk hk => ?_) fun y ys i v h' tk bs e hv hr2 hk => ?_
  · have e0 : ns = [] := List.map_eq_nil_iff.mp e
    subst e0
    exact ⟨.int d, H, I.kept (t' := tk) hk, ⟨t, rfl⟩, q⟩
  · cases ns with
    | nil => cases e
    | cons n rr =>
      rw [List.map_cons] at e
      injection e with e1 e2
      subst e1
      subst e2
      rw [PySem.W.maxD_ints] at hr2
      cases hr2 with
      | int z tz => exact ⟨.int (rr.foldl max n), H, I.kept (t' := tk) hk, ⟨tz, rfl⟩, q⟩
end
/-! calls of a value -/
section
variable {X : Cx} {k j i : Nat} {x : Str} {p pos : Pos} {e : Expr} {es : List Expr} {t : TA}
/-- x(..), x a name that holds a function value -/
def tCallVal (P : Program) (w : World) (K : PySem.W.Frag) (mg : Str → Option Value) (base : Heap) (k i : Nat) (t : TA) : TE := fun σ H Q =>
  ∃ (f : Addr) (φ : Hp → Prop) (sp : Sp), σ[i]? = some (some (.ref f)) ∧ VCall P w K mg base k f φ sp ∧ φ H ∧ t σ H fun vs H1 => φ H1 ∧ sp vs H1 Q E0
theorem pe_callVal (hr : Room j X.A) (hk : k ≤ j) (hN : X.N[i]? = some x) (hv : Vis X.env.scope x) (ha : PA X (e :: es) t)
    (hdb : (x == ("__debug__" : Str)) = false := by decide) (hcd : (x == ("__classdict__" : Str)) = false := by decide)
    (he : starEach (e :: es) X.env = (false, eval e X.env) :: starEach es X.env := by rfl) (hpl : (backTo pos (starEach es X.env)).any (·.1) = false := by rfl) :
    PE X (.Call (.Name x p) (e :: es) [] pos) (tCallVal X.prog X.w X.K X.mg X.base k i t) := by
  refine ⟨fun pins s σ H Q I h => ?_⟩
  obtain ⟨f, φ, sp, hs, c, hf, ht⟩ := h
  refine wpAny_Call_Name_kw (thn ((pe_var (pos := p) hN hv hdb hcd).run pins s σ H (fun v H1 => v = .ref f ∧ H1 = H) I ⟨.ref f, hs, rfl, rfl⟩) fun u s1 ⟨v, H1, I1, r1, q1⟩ => ?_)
  obtain ⟨ev, eH⟩ := q1
  subst ev
  subst eH
  obtain rfl : u = Value.ref f := r1
  refine PySem.W.callWith_F (first := []) (c.fn _ _ I1.hok I1.kIn hf) (thn (ha.run pos pins s1 σ _ _ I1 ht) fun us s2 ⟨vs, H2, I2, r, h2, q⟩ => ⟨c.fn _ _ I2.hok I2.kIn h2, ?_⟩) he hpl
  show wpAny _ _ (call (.ref f) us) _ _ _
  refine wpAny_call (codeAny_mono (c.run X.A X.stack s2 H2 us vs Q E0 (hr.mono hk) I2.env0 h2 r q) fun r s' hq => ?_)
  cases r with
  | error e => exact hq.elim
  | ok fl =>
    cases fl with
    | ret u => exact I2.after hq
    | next => exact hq.elim
    | brk => exact hq.elim
    | cont => exact hq.elim
end
/-- a lambda without captured names, by its expression -/
def lamAt (f : Addr) (F : NF) (b : Expr) : Hp → Prop := fun H => H f = some (LamO f F b) ∧ H F.c = some (CodeO F.c F.qual)
section
variable {P : Program} {w : World} {K : PySem.W.Frag} {mg : Str → Option Value} {base : Heap} {N ps : List Str} {F : NF} {b : Expr} {f : Addr} {k : Nat} {sp : Sp}
theorem VCall.lam (S : NScope N ps [] F.scope) (hcl : F.cl = [])
    (hb : ∀ (pm ctv : Value) (us : List Value), us.length = ps.length → bindArgs (PySem.W.kla_fn F.name F.qual F.params b F.scope F.cl pm (.ref F.c) ctv) ⟨us, []⟩ = pure (ps.zip us))
    (len : ∀ vs H Q E, sp vs H Q E → vs.length = ps.length)
    (hbody : ∀ (A : Around) (outer : List Env) (s : Shared) (H : Hp) (vs : List V) (Q : VK) (E : XK), Room k (A.deeper (envF F f s.heap.objs.size)) → lamAt f F b H → sp vs H Q E →
      ∃ t, PE (ncx CX0 P w K mg base N F f A outer s H E).nox b t ∧ t (startF N vs []) H Q) :
    VCall P w K mg base (k + 1) f (lamAt f F b) sp := by
  refine ⟨fun h H hok _ hf => ?_, fun A outer s H us vs Q E hr e0 hf r hsp => ?_⟩
  · obtain ⟨od, sl, pm, ctv, z⟩ := lamO_at hok hf.1
    exact ⟨_, od, _, sl, z⟩
  · have hl := len _ _ _ _ hsp
    have lim : s.heap.NoLimit := e0.mod.nolimit.keeps fun b o e => (e0.bs b o e).1
    obtain ⟨od, sl, pm, ctv, ho⟩ := lamO_at e0.hok hf.1
    refine PySem.W.kla_callFunE hr.depth ho rfl S.co S.gen rfl (codeO_at e0.hok hf.2) ?_
    rw [hb pm ctv us (by rw [← r.length]; exact hl)]
    refine wpAny_pure (wpAny_newFunctionEnv S.nocell (fun ⟨n, _⟩ hy => S.par n (List.of_mem_zip hy).1) (fun h₁ hns hsb => ⟨lim.fresh _ hsb, ?_⟩) S.kind)
    show codeAny _ _ (.expr b (envF F f s.heap.objs.size)) _ _
    have kp : ∀ b o, s.heap.get? b = some o → h₁.get? b = some o := fun b o e =>
      hsb.extBut b o (Nat.ne_of_lt (Heap.lt_size e)) (Heap.get?_push_of_some _ e)
    obtain ⟨t, ht, hq⟩ := hbody A outer s H vs Q E (hr.deeper _) hf hsp
    have C : CellsAt F.cl ([] : List Str) ([] : List (Option V)) s.heap H := by
      have no : ∀ (y : Str) (c : Addr), F.cl.lookup y ≠ some c := fun y c e => by
        rw [hcl] at e
        exact nomatch (show (none : Option Addr) = some c from e)
      exact ⟨rfl, fun y c e => absurd e (no y c), fun x y c e _ => absurd e (no x c), fun i y e => nomatch (show (none : Option Str) = some y from (by simpa using e))⟩
    have J : Inv (ncx CX0 P w K mg base N F f A outer s H E) [] (startF N vs []) H { s with heap := h₁, toks := s.toks + (ps.zip us).length } := inv_startN S hr.hd e0 hl r C hns kp
    refine PySem.W.kla_codeExpr (wpAny_mono (ht.nox.run [] _ (startF N vs []) H Q J hq) (fun v s' z => ?_) fun e s' z => z)
    obtain ⟨w', H', J', rv, q⟩ := z
    exact ⟨w', H', J'.os, J'.bare, J'.base, J'.hok, rv, q⟩
end
end VA

set_option Elab.async false
set_option linter.all false
set_option maxRecDepth 100000
set_option maxHeartbeats 4000000
namespace VS
open PySem PySem.Spec PyProof.Rows L2
/-! sets of keys (whole numbers and texts) that can be walked: as SetR, over the mixed keys -/
def kOf (e : Int × Value) : Key := match e.2 with
  | .int k _ => Sum.inl k
  | .str x _ => Sum.inr x
  | _ => Sum.inl 0
def Fit (w : World) (e : Int × Value) : Prop := ∃ k : Key, keyIs k e.2 = true ∧ e.1 = keyH w k
theorem kOf_is {e : Int × Value} {k : Key} (h : keyIs k e.2 = true) : kOf e = k := by
  unfold kOf
  rcases keyIs_shape h with ⟨i, t, rfl, q⟩ | ⟨x, t, rfl, q⟩ <;> rw [q]
theorem keyIs_kOf {w : World} {e : Int × Value} (g : Fit w e) (k : Key) : keyIs k e.2 = true ↔ kOf e = k := by
  obtain ⟨k0, h0, _⟩ := g
  have e0 := kOf_is h0
  constructor
  · exact kOf_is
  · intro z
    rw [e0] at z
    rw [← z]
    exact h0
theorem fit_scan {w : World} {e : Int × Value} (g : Fit w e) : e.2.scannable = true := by
  obtain ⟨k0, h0, _⟩ := g
  rcases keyIs_shape h0 with ⟨i, t, _, q⟩ | ⟨x, t, _, q⟩ <;> rw [q] <;> rfl
/-- the set at a: its members are those of S, n of them -/
def SetM (w : World) (h : Heap) (a : Addr) (S : Key → Bool) (n : Nat) : Prop :=
  ∃ ob es ep tb, h.get? a = some ob ∧ ob.ExactSet ∧ ob.data = .set es ep tb ∧ (∀ e ∈ es.toList, Fit w e) ∧ (es.toList.map kOf).Nodup ∧
    (∀ k, S k = true ↔ k ∈ es.toList.map kOf) ∧ es.size < scanBound ∧ tb.fits es.size = true ∧ es.size = n ∧ Ris tb.place.toList ∧
    (w.params.followText "set-order" = true ∨ tb.led = true)
section
variable {P : Program} {w : World} {h h' : Heap} {a : Addr} {S : Key → Bool} {n : Nat}
theorem SetM.at (m : SetM w h a S n) (kp : ∀ ob, h.get? a = some ob → h'.get? a = some ob) : SetM w h' a S n := by
  obtain ⟨ob, es, ep, tb, ho, r⟩ := m
  exact ⟨ob, es, ep, tb, kp ob ho, r⟩
theorem fit_elems {l : List (Int × Value)} (g : ∀ e ∈ l, Fit w e) : ElemsOf (mixKind P w) l := by
  intro e he
  obtain ⟨k, h1, h2⟩ := g e he
  exact ⟨⟨k, h1, h2⟩, fit_scan (g e he)⟩
theorem fit_mem {l : List (Int × Value)} (g : ∀ e ∈ l, Fit w e) (k : Key) : k ∈ l.map kOf ↔ ∃ e ∈ l, (mixKind P w).is k e.2 = true := by
  rw [List.mem_map]
  constructor
  · rintro ⟨e, he, q⟩; exact ⟨e, he, (keyIs_kOf (g e he) k).2 q⟩
  · rintro ⟨e, he, q⟩; exact ⟨e, he, (keyIs_kOf (g e he) k).1 q⟩
theorem SetM.setOf (m : SetM w h a S n) : h.SetOf (mixKind P w) a S n := by
  obtain ⟨ob, es, ep, tb, ho, hx, hd, g, nd, hm, hb, hf, hn, _⟩ := m
  exact ⟨ob, es, ep, tb, ho, hx, hd, fit_elems g, fun k => Iff.trans (hm k) (fit_mem g k), hb, hf, hn⟩
end
section
variable {P : Program} {w : World} {A : Around} {E : Value → Shared → Prop} {s : Shared} {a : Addr} {S : Key → Bool} {n : Nat}
theorem add_tailM {gv : Bool → Sem Unit} (hgv : ∀ (b : Bool) (z : Shared) (F : Unit → Shared → Prop), F () z → wpAny (model P w) A (gv b) F E z)
    {ob : Obj} {es : Array (Int × Value)} {ep : Nat} {tb : SetTable} (ho : s.heap.get? a = some ob) (hex : ob.ExactSet) (hd : ob.data = .set es ep tb)
    {e1 : Array (Int × Value)} {t1 : SetTable} {S1 : Key → Bool} (g1 : ∀ e ∈ e1.toList, Fit w e) (nd1 : (e1.toList.map kOf).Nodup)
    (m1 : ∀ k, S1 k = true ↔ k ∈ e1.toList.map kOf) (hb1 : e1.size < scanBound) (hf1 : t1.fits e1.size = true) (hr1 : Ris t1.place.toList)
    (hl1 : w.params.followText "set-order" = true ∨ t1.led = true) {wasDummy : Bool} {F : Option Bool → Shared → Prop}
    (hF : ∀ h', Heap.SameBut a s.heap h' → SetM w h' a S1 e1.size → F (some true) { s with heap := h' }) :
    wpAny (model P w) A (do
      storeSet a e1 t1
      if (!wasDummy && t1.tooFull) = true then do
          gv (relayAll t1 e1 (SetTable.grown e1.size)).2.2
          storeSet a (relayAll t1 e1 (SetTable.grown e1.size)).1 (relayAll t1 e1 (SetTable.grown e1.size)).2.1
          pure (some true)
        else pure (some true)) F E s := by
  have at1 := store_at (es' := e1) (t' := t1) ho hd
  have but1 := Heap.SameBut.update s.heap a (Obj.putSet e1 t1)
  refine wpAny_bind (wpAny_storeSet_of ho hd ?_ (fits_of_scanBound hb1))
  split
  · have p2 := relayAll_perm t1 e1 (SetTable.grown e1.size)
    have f2 := relayAll_fits t1 e1 (SetTable.grown e1.size)
    have r2 := relayAll_ris t1 e1 (SetTable.grown e1.size)
    have l2 := relayAll_led t1 e1 (SetTable.grown e1.size)
    generalize relayAll t1 e1 (SetTable.grown e1.size) = Y at p2 f2 r2 l2 ⊢
    obtain ⟨e2, t2, gave⟩ := Y
    dsimp only at p2 f2 r2 l2 ⊢
    have z2 : e2.size = e1.size := by rw [← Array.length_toList, p2.length_eq, Array.length_toList]
    have b2 : e2.size < scanBound := z2 ▸ hb1
    refine wpAny_bind (hgv _ _ _ (wpAny_bind (wpAny_storeSet_of at1 rfl ?_ (fits_of_scanBound b2))))
    have at2 := store_at (es' := e2) (t' := t2) at1 rfl
    have pk := p2.map kOf
    refine wpAny_pure (hF _ (but1.trans (Heap.SameBut.update _ a _)) ⟨_, e2, _, t2, at2, hex, rfl, ?_, ?_, ?_, b2, f2, z2, r2, ?_⟩)
    · intro e he; exact g1 e (p2.mem_iff.mp he)
    · exact pk.nodup_iff.mpr nd1
    · intro k; exact Iff.trans (m1 k) pk.mem_iff.symm
    · exact hl1.imp id fun z => by rw [l2]; exact z
  · exact wpAny_pure (hF _ but1 ⟨_, e1, _, t1, at1, hex, rfl, g1, nd1, m1, hb1, hf1, rfl, hr1, hl1⟩)
theorem add_hashedM {k : Key} {u : Value} {F : Bool → Shared → Prop} (hkey : (mixKind P w).is k u = true) (hsc : u.scannable = true)
    (m : SetM w s.heap a S n) (room : n + 1 < scanBound)
    (hF : ∀ h', Heap.SameBut a s.heap h' → SetM w h' a (fun j => S j || decide (j = k)) (if S k = true then n else n + 1) → F (!S k) { s with heap := h' }) :
    wpAny (model P w) A (setAddHashed a u ((mixKind P w).hash k)) F E s := by
  obtain ⟨ob, es, ep, tb, ho, hex, hd, g, nd, hm, hb, hf, hn, hr, hl⟩ := m
  have hel : ElemsOf (mixKind P w) es.toList := fit_elems g
  unfold setAddHashed setAddHashedIn
  refine wpAny_holding (wpAny_bind (wpAny_setState_of ho hd hf ?_))
  dsimp only
  rw [byScan_of hsc hb hel]
  simp only [↓reduceIte]
  unfold setAddByScan
  refine wpAny_bind (wpAny_bind (wpAny_rule (wpAny_bind (wpAny_setScan_of hkey ho hd hf hel ?_))))
  cases hfi : List.findIdx? (fun e => (mixKind P w).is k e.2) es.toList with
  | some j =>
    obtain ⟨hj, pj, _⟩ := List.findIdx?_eq_some_iff_getElem.mp hfi
    have inS : S k = true := (hm k).2 ((fit_mem (P := P) (w := w) g k).2 ⟨es.toList[j], List.getElem_mem hj, pj⟩)
    dsimp only
    have mem : ∀ i, (S i || decide (i = k)) = true ↔ i ∈ es.toList.map kOf := by
      intro i
      rw [Bool.or_eq_true, decide_eq_true_eq, ← hm i]
      exact ⟨fun z => z.elim id (fun e => e ▸ inS), .inl⟩
    have q := hF s.heap (Heap.SameBut.refl a s.heap) ⟨ob, es, ep, tb, ho, hex, hd, g, nd, mem, hb, hf, by rw [if_pos inS]; exact hn, hr, hl⟩
    rw [inS] at q
    exact wpAny_pure (wpAny_pure q)
  | none =>
    have out : k ∉ es.toList.map kOf := by
      intro z
      obtain ⟨e, he, q⟩ := (fit_mem (P := P) (w := w) g k).1 z
      have c := List.findIdx?_eq_none_iff.mp hfi e he
      rw [q] at c
      cases c
    have offS : S k = false := by
      cases q : S k with
      | false => rfl
      | true => exact absurd ((hm k).1 q) out
    dsimp only
    have gw : ∀ (b : Bool) {z : Shared} {F' : Unit → Shared → Prop}, F' () z →
        wpAny (model P w) A (match b with | true => rule "set.scan.the-table-gave-way" | false => pure ()) F' E z := by
      intro b z F' q
      cases b
      · exact wpAny_pure q
      · exact wpAny_rule q
    have p1 := layNew_perm tb es ((mixKind P w).hash k) u
    have f1 := layNew_fits tb es ((mixKind P w).hash k) u
    have r1 := layNew_ris tb es ((mixKind P w).hash k) u hr
    have l1 := layNew_led tb es ((mixKind P w).hash k) u
    generalize layNew tb es ((mixKind P w).hash k) u = Y at p1 f1 r1 l1 ⊢
    obtain ⟨e1, t1, wasDummy, gave⟩ := Y
    dsimp only at p1 f1 r1 l1 ⊢
    rw [Array.toList_push] at p1
    have pc : e1.toList.Perm (((mixKind P w).hash k, u) :: es.toList) := p1.trans (List.perm_append_singleton _ _)
    have hk1 : kOf ((mixKind P w).hash k, u) = k := kOf_is hkey
    have pk : (e1.toList.map kOf).Perm (k :: es.toList.map kOf) := by
      have z := pc.map kOf
      rw [List.map_cons, hk1] at z
      exact z
    have g1 : ∀ e ∈ e1.toList, Fit w e := by
      intro e he
      rcases List.mem_cons.mp (pc.mem_iff.mp he) with z | z
      · rw [z]; exact ⟨k, hkey, rfl⟩
      · exact g e z
    have nd1 : (e1.toList.map kOf).Nodup := pk.nodup_iff.mpr (List.nodup_cons.mpr ⟨out, nd⟩)
    have m1 : ∀ i, (S i || decide (i = k)) = true ↔ i ∈ e1.toList.map kOf := by
      intro i
      rw [Bool.or_eq_true, decide_eq_true_eq, hm i, pk.mem_iff, List.mem_cons]
      exact Or.comm
    have sz : e1.size = n + 1 := by rw [← Array.length_toList, pc.length_eq, List.length_cons, Array.length_toList, hn]
    have b1 : e1.size < scanBound := by rw [sz]; exact room
    have led1 : w.params.followText "set-order" = true ∨ t1.led = true := hl.imp id fun z => by rw [l1]; exact z
    have fin : ∀ h', Heap.SameBut a s.heap h' → SetM w h' a (fun j => S j || decide (j = k)) e1.size → F true { s with heap := h' } := by
      intro h' sb r
      have q := hF h' sb
      rw [offS] at q
      rw [sz] at r
      exact q r
    refine wpAny_bind (gw _ ?_)
    split
    · refine wpAny_bind ?_
      rw [hashByValue_scannable 8 hsc]
      refine wpAny_pure (add_tailM ?_ ho hex hd g1 nd1 m1 b1 ?_ ?_ ?_ fun h' sb r => ?_)
      · intro b z F' q
        cases b
        · first | exact wpAny_pure q | exact wpAny_rule q
        · first | exact wpAny_rule q | exact wpAny_pure q
      · first | (split <;> first | exact f1 | exact SetTable.fits_plain_off f1) | exact f1
      · first | (split <;> exact r1) | exact r1
      · first | (split <;> exact led1) | exact led1
      · dsimp only; exact wpAny_pure (fin h' sb r)
    · refine wpAny_bind (wpAny_pure ?_)
      simp only [↓reduceIte]
      refine add_tailM ?_ ho hex hd g1 nd1 m1 b1 f1 r1 led1 fun h' sb r => ?_
      · intro b z F' q
        cases b
        · first | exact wpAny_pure q | exact wpAny_rule q
        · first | exact wpAny_rule q | exact wpAny_pure q
      · dsimp only; exact wpAny_pure (fin h' sb r)
theorem call_addM {k : Key} {u : Value} {F : Value → Shared → Prop} (hkey : (mixKind P w).is k u = true) (hsc : u.scannable = true)
    (m : SetM w s.heap a S n) (room : n + 1 < scanBound)
    (hF : ∀ h', Heap.SameBut a s.heap h' → SetM w h' a (fun j => S j || decide (j = k)) (if S k = true then n else n + 1) → F .none { s with heap := h', toks := s.toks + 1 }) :
    wpAny (model P w) A (call (.builtin "set.add") [.ref a, u]) F E s := by
  have so : s.heap.SetOf (mixKind P w) a S n := m.setOf
  refine wpAny_call_entry PySem.F.slot_set_add so.typeIs PySem.F.entry_set_add ?_ (PySem.F.args_set_add_2 _ _)
  unfold Builtin.«set.add» Builtin.Frozenset.oneOther
  simp only [List.isEmpty_nil, bind_assoc]
  unfold Builtin.Frozenset.addrOf setAdd
  refine wpAny_bind (wpAny_pure ?_)
  try dsimp only
  refine wpAny_bind (wpAny_pure ?_)
  try dsimp only
  refine wpAny_bind (wpAny_holding (wpAny_bind ((mixKind P w).pyHash hkey ?_)))
  refine add_hashedM (s := { s with toks := s.toks + 1 }) hkey hsc m room fun h' sb r => ?_
  show wpAny _ _ (ret Value.none) _ _ _
  exact wpAny_pure ⟨_, rfl, hF h' sb r⟩
theorem freshM {h : Heap} (w : World) : SetM w (h.push { cls := .type "set", dict := none, data := .set #[] 0 (.fresh 0 0 (!w.params.followText "set-order")) }) h.objs.size (fun _ => false) 0 := by
  refine ⟨_, #[], 0, _, Heap.get?_push_size _ rfl, ⟨rfl, rfl, rfl⟩, rfl, (fun e he => by simp at he), (by simp), (fun k => by simp), (by decide), (by rfl), rfl, List.Pairwise.nil, ?_⟩
  show _ ∨ (!w.params.followText "set-order") = true
  cases w.params.followText "set-order"
  · exact .inr rfl
  · exact .inl rfl
end
/-! over the layer -/
def SetMO (w : World) (a : Addr) (S : Key → Bool) (n : Nat) : HO := .ext fun h => SetM w h a S n
section
variable {X : Cx}
theorem setMO_new {w : World} {P : Program} {H : Hp} {h : Heap} {a : Addr} {S : Key → Bool} {n : Nat} (m : SetM w h a S n) : ObjOk P w H h a (SetMO w a S n) := by
  have ⟨o, _, _, _, ho, _⟩ := m
  exact ⟨m, ⟨o, ho⟩, fun _ _ p q => SetM.at p q⟩
theorem setMO_get {pins : List (Addr × Obj)} {σ : L2.St} {H : Hp} {s : Shared} {a : Addr} {S : Key → Bool} {n : Nat} (I : Inv X pins σ H s)
    (ha : H a = some (SetMO X.w a S n)) : SetM X.w s.heap a S n := by
  have z := I.hok a _ ha
  exact z.1
/-- set() -/
def rSet0M (w : World) : List V → Hp → VK → Prop := fun xs H Q => xs = [] ∧ ∀ p, H p = none → Q (.ref p) (upd H p (SetMO w p (fun _ => false) 0))
theorem cr_set0M : CallR X (.type "set") (rSet0M X.w) := by
  intro pins s σ H xs us Q I r h
  obtain ⟨rfl, q⟩ := h
  cases r
  refine setR_new fun _ => ?_
  have fr : H s.heap.objs.size = none := I.hok.fresh (Nat.le_refl _)
  exact ⟨.ref _, upd H s.heap.objs.size (SetMO X.w s.heap.objs.size (fun _ => false) 0),
    I.laid (t' := s.toks) (fun b u e => Heap.get?_push_of_some _ e) (Nat.le_refl _) (setMO_new (freshM X.w)), rfl, q _ fr⟩
/-- found.add(k) -/
def tSAddM (w : World) (to te : TE) : TE := fun σ H Q => to σ H fun x H1 => (∃ a S n, x = V.ref a ∧ H1 a = some (SetMO w a S n)) ∧
  te σ H1 fun y H2 => ∃ (a : Addr) (k : Key) (S : Key → Bool) (n : Nat), x = V.ref a ∧ y = kV k ∧ H2 a = some (SetMO w a S n) ∧ n + 1 < scanBound ∧
    Q .non (upd H2 a (SetMO w a (fun j => S j || decide (j = k)) (if S k = true then n else n + 1)))
variable {o e : Expr} {to te : TE} {apos cpos : Pos}
theorem pe_saddM (ho : PE X o to) (he : PE X e te)
    (hbase : attributeBase o "add" X.env (eval o X.env) = eval o X.env := by rfl)
    (hfew : ((backTo cpos (starEach [e] X.env)).all (fun x => !x.1) && (backToKw cpos (keywordEach [] X.env)).all (fun x => x.1.isSome)
      && decide (([e] : List Expr).length + ([] : List Keyword).length + (if ([] : List Keyword).isEmpty then 0 else 1) < 30)) = true := by rfl)
    (hline : (apos.endLine == cpos.line) = true := by rfl) (hs : starEach [e] X.env = (false, eval e X.env) :: starEach [] X.env := by rfl) :
    PE X (.Call (.Attribute o "add" apos) [e] [] cpos) (tSAddM X.w to te) := by
  refine ⟨fun pins s σ H Q I h => ?_⟩
  refine wpAny_Call_method_late hbase hfew hline rfl (thn (ho.run pins s σ H _ I h) fun v s1 ⟨x, H1, I1, r1, ty, q1⟩ => ?_)
  obtain ⟨a, S, n, ex, hka⟩ := ty
  subst ex
  have m1 := setMO_get I1 hka
  obtain rfl : v = Value.ref a := r1
  have so : s1.heap.SetOf (mixKind X.prog X.w) a S n := m1.setOf
  refine ⟨"set", "set.add", PySem.F.plainAttrs_set, PySem.F.slot_set_add, PySem.F.type_set_add, so.typeIs, so.noDict, ?_⟩
  rw [hs]
  refine Calls.callWith_builtin (by rfl) (Calls.evalArgs_plain (Calls.spliced_cons (thn (he.run pins s1 σ H1 _ I1 q1) fun u s2 ⟨y, H2, I2, ry, q2⟩ => Calls.spliced_nil ?_)))
  obtain ⟨a2, k, S2, n2, ea, ey, hk2, room, q⟩ := q2
  obtain rfl : a = a2 := V.ref.inj ea
  subst ey
  refine call_addM (kV_is ry) (key_scan ry) (setMO_get I2 hk2) room fun h' sb new => ?_
  have there : ∃ o', h'.get? a = some o' := by
    have ⟨o', _, _, _, ho', _⟩ := new
    exact ⟨o', ho'⟩
  exact ⟨.non, upd H2 a (SetMO X.w a (fun j => S2 j || decide (j = k)) (if S2 k = true then n2 else n2 + 1)),
    I2.write (e := a) (t' := s2.toks + 1) (by rw [hk2]; trivial) (.inl rfl) (fun b u' hb hu => (sb.2 b hb).trans hu) there (setMO_new new), rfl, q⟩
/-- the order of texts -/
def leS (a b : Str) : Bool := decide (a.cps.toList ≤ b.cps.toList)
/-- sorted(found), the members texts -/
def rSortedM (w : World) : List V → Hp → VK → Prop := fun vs H Q => ∃ (a : Addr) (S : Key → Bool) (n : Nat), vs = [V.ref a] ∧ H a = some (SetMO w a S n) ∧
  (∀ k, S k = true → ∃ x, k = Sum.inr x) ∧ ∀ (ss : List Str) (p : Addr), ss.Nodup → (∀ x, x ∈ ss ↔ S (Sum.inr x) = true) → ss.length = n → H p = none →
    Q (.ref p) (upd H p (.lst ((ss.mergeSort leS).map V.str)))
theorem key_str {e : Int × Value} {w : World} (g : Fit w e) {x : Str} (hk : kOf e = Sum.inr x) : RelV (V.str x) e.2 := by
  obtain ⟨k0, h0, _⟩ := g
  have e0 := kOf_is h0
  rw [hk] at e0
  subst e0
  rcases keyIs_shape h0 with ⟨i, t, z, _⟩ | ⟨y, t, z, q⟩
  · cases z
  · cases z
    exact ⟨t, q⟩
theorem cr_sortedM {k : Nat} (hc : X.calm = true) (hr : Room k X.A) : CallR X (.builtin "sorted") (rSortedM X.w) := by
  intro pins s σ H vs us Q I r h
  obtain ⟨a, S, n, rfl, ha, ks, q⟩ := h
  obtain ⟨ob, es, ep, tb, ho, hex, hd, g, nd, hm, hb, hf, hn, hri, hl⟩ := setMO_get I ha
  rw [Vals.ref1 r]
  have hun := hr.un
  have hh : X.A.handled = none := I.ok.hd hc
  refine Calls.call_function_entry kind_sorted plain_sorted entry_sorted (args_sorted1 _) ?_
  unfold Builtin.«sorted»
  refine wpAny_bind (m := checkCount "sorted" 1 1 _) (wpAny_pure ?_)
  refine wpAny_bind (collect_set (A := X.A.in1) hh ⟨ob, ho, hex.1, hd⟩ hf hb hri hl fun s1 us1 k1 hz g1 o1 pm => ?_)
  -- the texts, in the order met
  have hv : ∀ u ∈ us1, ∃ x, RelV (V.str x) u ∧ S (Sum.inr x) = true := by
    intro u hu
    obtain ⟨e, he, z⟩ := List.mem_map.mp (pm.mem_iff.mp hu)
    have inS : S (kOf e) = true := (hm _).2 (List.mem_map.mpr ⟨e, he, rfl⟩)
    obtain ⟨x, hx⟩ := ks _ inS
    exact ⟨x, by rw [← z]; exact key_str (g e he) hx, by rw [← hx]; exact inS⟩
  let tx : Value → Str := fun u => match u with | .str x _ => x | _ => Str.empty
  have htx : ∀ {u : Value} {x : Str}, RelV (V.str x) u → tx u = x := by
    intro u x z
    obtain ⟨t, z⟩ := z
    rw [z]
  have each : ∀ l : List Value, (∀ u ∈ l, ∃ x, RelV (V.str x) u ∧ S (Sum.inr x) = true) → PySem.W.EachIs (fun u x => RelV (V.str x) u) l (l.map tx) := by
    intro l
    induction l with
    | nil => intro _; exact .nil
    | cons u l ih =>
      intro hl2
      obtain ⟨x, hx, _⟩ := hl2 u List.mem_cons_self
      exact .cons (by rw [htx hx]; exact hx) (ih fun v hv => hl2 v (List.mem_cons_of_mem _ hv))
  have e1 := each us1 hv
  have pk : ((us1.map tx).map Sum.inr).Perm (es.toList.map kOf) := by
    have z := pm.map (fun u => (Sum.inr (tx u) : Key))
    rw [List.map_map] at z
    rw [List.map_map]
    refine z.trans (List.Perm.of_eq ?_)
    refine List.map_congr_left fun e he => ?_
    obtain ⟨x, hx⟩ := ks _ ((hm _).2 (List.mem_map.mpr ⟨e, he, rfl⟩))
    show (Sum.inr (tx e.2) : Key) = kOf e
    rw [htx (key_str (g e he) hx), hx]
  have ndS : (us1.map tx).Nodup := by
    have z := pk.nodup_iff.mpr nd
    exact List.Pairwise.of_map _ (fun x y hxy e => hxy (congrArg Sum.inr e)) z
  have memS : ∀ x, x ∈ us1.map tx ↔ S (Sum.inr x) = true := by
    intro x
    rw [hm, ← pk.mem_iff]
    refine ⟨fun z => List.mem_map.mpr ⟨x, z, rfl⟩, fun z => ?_⟩
    obtain ⟨y, hy, e⟩ := List.mem_map.mp z
    cases e
    exact hy
  have lenS : (us1.map tx).length = n := by
    rw [List.length_map, pm.length_eq, List.length_map, Array.length_toList]; exact hn
  have few : us1.length ≤ sizeLine := by
    have z := lenS
    rw [List.length_map] at z
    rw [z, ← hn]
    exact fits_of_scanBound hb
  refine wpAny_bind (wpAny_newList ?_ few)
  have hoL : (s1.heap.push (seqObj "list" us1.toArray 0)).get? s1.heap.objs.size = some (seqObj "list" us1.toArray 0) := Heap.get?_push_size _ rfl
  have hbs : ((us1.map tx).map PyData.str).length = us1.length := by rw [List.length_map, List.length_map]
  refine wpAny_bind (wpAny_holding (PySem.W.list_sort_data (enc := PyData.str) (bs := us1.map tx) (R := fun u x => RelV (V.str x) u) hoL e1 ?_ ?_ ?_ (by rw [List.length_map]; exact few) ?_ fun out lo eo => ?_))
  · exact e1.mono fun u x ⟨t, z⟩ => ⟨[], by rw [z]; exact .str x t, by simp⟩
  · intro d hd' d' hd''
    obtain ⟨x, _, rfl⟩ := List.mem_map.mp hd'
    obtain ⟨y, _, rfl⟩ := List.mem_map.mp hd''
    rfl
  · refine .inr fun d hd' => ?_
    obtain ⟨x, _, rfl⟩ := List.mem_map.mp hd'
    exact ⟨fun z => PyData.noConfusion z, fun xs z => PyData.noConfusion z⟩
  · intro b hb'
    show X.A.units + 1 + 1 + 0 < cLine
    omega
  · obtain ⟨c, hc'⟩ := sortedHeap_at (vs := us1) (out := out.toArray) hoL
    have kp : ∀ b u, s.heap.get? b = some u → (PyProof.Rows.sortedHeap (s1.heap.push (seqObj "list" us1.toArray 0)) s1.heap.objs.size us1 out.toArray).get? b = some u := by
      intro b u e
      have z := k1 b u e
      have hlt := Heap.lt_size z
      rw [sortedHeap_old (Nat.ne_of_lt hlt) (by rw [size_push']; exact Nat.lt_succ_of_lt hlt)]
      exact Heap.get?_push_of_some _ z
    have eS : (PySem.W.dataLe false PyData.str : Str → Str → Bool) = leS := PySem.W.dataLe_str (fun x => x)
    rw [eS] at eo
    have fr : H s1.heap.objs.size = none := I.hok.fresh hz
    have rv : Vals ((((us1.map tx).mergeSort leS)).map V.str) out := VA.vals_each V.str eo
    have lim : ((((us1.map tx).mergeSort leS)).map V.str).length ≤ sizeLine := by
      rw [List.length_map, List.length_mergeSort, List.length_map]; exact few
    have J : Inv X pins σ (upd H s1.heap.objs.size (.lst (((us1.map tx).mergeSort leS).map V.str)))
        { s with heap := PyProof.Rows.sortedHeap (s1.heap.push (seqObj "list" us1.toArray 0)) s1.heap.objs.size us1 out.toArray, gens := s1.gens, drawn := s1.drawn, toks := s1.toks } :=
      I.call (ch := []) (Un.laid kp hz fr) (I.hok.laid kp hz ⟨lim, out, c, rv, hc'⟩) (by rw [g1]; exact I.bare) (fun _ z => nomatch z)
    have es' : ({ s1 with heap := PyProof.Rows.sortedHeap (s1.heap.push (seqObj "list" us1.toArray 0)) s1.heap.objs.size us1 out.toArray } : Shared) =
        { s with heap := PyProof.Rows.sortedHeap (s1.heap.push (seqObj "list" us1.toArray 0)) s1.heap.objs.size us1 out.toArray, gens := s1.gens, drawn := s1.drawn, toks := s1.toks } := by
      rw [← o1]
    refine wpAny_pure ⟨_, rfl, ?_⟩
    rw [es']
    exact ⟨.ref _, _, J, rfl, q (us1.map tx) _ ndS memS lenS fr⟩
end
end VS

set_option Elab.async false
set_option linter.all false
set_option maxRecDepth 100000
set_option maxHeartbeats 4000000
namespace VB
open PySem PySem.Spec PyProof.Rows L2 LamX NdefX
/-! a def of the text under its name -/
abbrev FnP (K : PySem.W.Frag) (x : Str) (st : Stmt) (f : Addr) (fd : FuncData) : Prop := FunD K x x (defArgs st) (defBody st) (defScope st) [] [] f fd
def Df (K : PySem.W.Frag) (mg : Str → Option Value) (x : Str) (st : Stmt) : Prop := ∃ (f : Addr) (fd : FuncData), FnP K x st f fd ∧ mg x = some (.ref f)
abbrev BindOk (x : Str) (st : Stmt) (ps : List Str) : Prop := ∀ (kV doc pm : Value) (an : Option Addr) (cdv ct : Value) (us : List Value), us.length = ps.length →
  bindArgs (PySem.W.fnOf x x (defArgs st) (defBody st) (defScope st) .none kV doc pm an cdv ct) ⟨us, []⟩ = pure (ps.zip us)
section
variable {P : Program} {w : World} {K : PySem.W.Frag} {mg : Str → Option Value} {base : Heap}
theorem Df.cal {x : Str} {st : Stmt} {N ps : List Str} {k : Nat} {sp : Sp} (D : Df K mg x st) (S : FnScope N ps (defScope st)) (hb : BindOk x st ps)
    (len : ∀ vs H Q E, sp vs H Q E → vs.length = ps.length)
    (hbody : ∀ (f : Addr) (cdv : Value) (A : Around) (outer : List Env) (s : Shared) (H : Hp) (vs : List V) (Q : VK) (E : XK),
      Room k (A.deeper (envOfC x (defScope st) s.heap.objs.size f cdv)) → sp vs H Q E →
      ∃ t, PSs (cxOf CX0 P w K mg base N x (defScope st) f cdv A outer s H E).nox (defBody st) t ∧ t { nx := fun _ H' => Q .non H', rt := Q } (start N vs) H) :
    C8.Cal P w K mg base (k + 1) x sp [] := by
  obtain ⟨f, fd, F, hm⟩ := D
  refine ⟨f, fd, ps, [], F.ok S len (fun cdv A outer s H vs Q E hr h => ?_), hm, F.kp, F.bindsN hb, .nil⟩
  obtain ⟨t, a, b⟩ := hbody f cdv A outer s H vs Q E hr h
  exact ⟨t, a.nox, b⟩
theorem calMono {x : Str} {j k : Nat} {sp : Sp} {dvs : List V} (c : C8.Cal P w K mg base j x sp dvs) (h : j ≤ k) : C8.Cal P w K mg base k x sp dvs := by
  obtain ⟨f, fd, ps, ds, F, r⟩ := c.ex
  exact ⟨f, fd, ps, ds, F.mono h, r⟩
theorem calImp {x : Str} {k : Nat} {sp sp' : Sp} {dvs : List V} (c : C8.Cal P w K mg base k x sp dvs) (h : ∀ vs H Q E, sp' vs H Q E → sp vs H Q E) : C8.Cal P w K mg base k x sp' dvs := by
  obtain ⟨f, fd, ps, ds, F, r⟩ := c.ex
  exact ⟨f, fd, ps, ds, F.imp h, r⟩
end
/-! heaps -/
/-- all but the object at a is as it was -/
def But (a : Addr) (H H' : Hp) : Prop := ∀ b o, b ≠ a → H b = some o → H' b = some o
/-- tuples and what is locked stay -/
structure Kp (H H' : Hp) : Prop where
  tup : ∀ b xs, H b = some (.tup xs) → H' b = some (.tup xs)
  frz : ∀ b o u, H b = some (.frz o u) → H' b = some (.frz o u)
theorem But.refl (a : Addr) (H : Hp) : But a H H := fun _ _ _ h => h
theorem But.trans {a : Addr} {H H1 H2 : Hp} (x : But a H H1) (y : But a H1 H2) : But a H H2 := fun b o n h => y b o n (x b o n h)
theorem But.of {a : Addr} {H H' : Hp} (x : Same H H') : But a H H' := fun b o _ h => x b o h
theorem But.upd {a : Addr} {H : Hp} (o : HO) : But a H (upd H a o) := fun b u n h => by rw [upd_ne n]; exact h
theorem same_upd {H : Hp} {p : Addr} (h : H p = none) (o : HO) : Same H (upd H p o) := fun b u q => by rw [upd_ne (ne_of_none q h)]; exact q
theorem Kp.refl (H : Hp) : Kp H H := ⟨fun _ _ h => h, fun _ _ _ h => h⟩
theorem Kp.trans {H H1 H2 : Hp} (x : Kp H H1) (y : Kp H1 H2) : Kp H H2 := ⟨fun b xs h => y.tup b xs (x.tup b xs h), fun b o u h => y.frz b o u (x.frz b o u h)⟩
theorem Kp.of {H H' : Hp} (x : Same H H') : Kp H H' := ⟨fun b xs h => x b _ h, fun b o u h => x b _ h⟩
theorem Kp.ofExtN {H H' : Hp} (x : ExtN H H') : Kp H H' := ⟨fun b xs h => x b _ h (fun ps z => by cases z), fun b o u h => x b _ h (fun ps z => by cases z)⟩
theorem Kp.ofBut {a : Addr} {H H' : Hp} {ys : List V} (x : But a H H') (h : H a = some (.lst ys)) : Kp H H' :=
  ⟨fun b xs q => x b _ (ne_of q h (by intro z; cases z)) q, fun b o u q => x b _ (ne_of q h (by intro z; cases z)) q⟩
theorem Kp.updL {H : Hp} {a : Addr} {ys : List V} (h : H a = some (.lst ys)) (o : HO) : Kp H (upd H a o) := Kp.ofBut (But.upd o) h
theorem Kp.updE {H : Hp} {a : Addr} {φ : Heap → Prop} (h : H a = some (.ext φ)) (o : HO) : Kp H (upd H a o) :=
  ⟨fun b xs q => by rw [upd_ne (ne_of q h (by intro z; cases z))]; exact q, fun b u v q => by rw [upd_ne (ne_of q h (by intro z; cases z))]; exact q⟩
theorem Kp.updN {H : Hp} {a : Addr} (h : H a = none) (o : HO) : Kp H (upd H a o) := Kp.of (same_upd h o)
theorem Kp.sqT {K : PySem.W.Frag} {H H' : Hp} {a : Addr} {xs : List V} (x : Kp H H') (h : SqT K H a xs) : SqT K H' a xs := by
  rcases h with (h | ⟨o, h⟩) | h
  · exact .inl (.inl (x.tup _ _ h))
  · exact .inl (.inr ⟨o, x.frz _ _ _ h⟩)
  · exact .inr h
theorem Same.sqT {K : PySem.W.Frag} {H H' : Hp} {a : Addr} {xs : List V} (x : Same H H') (h : SqT K H a xs) : SqT K H' a xs := (Kp.of x).sqT h
theorem same_none {H H' : Hp} (x : Same H H') {b : Addr} (h : H' b = none) : H b = none := x.free h
theorem But.none {a b : Addr} {H H' : Hp} (x : But a H H') (n : b ≠ a) (h : H' b = Option.none) : H b = Option.none := by
  cases q : H b with
  | none => rfl
  | some o => rw [x b o n q] at h; cases h
/-! data of tuples alone -/
mutual
def flatD : PyData → Bool
  | .none => true
  | .bool _ => true
  | .int _ => true
  | .str _ => true
  | .tuple xs => flatAll xs
  | _ => false
def flatAll : List PyData → Bool
  | [] => true
  | x :: xs => flatD x && flatAll xs
end
mutual
theorem Dp.kp {K : PySem.W.Frag} {H H' : Hp} (x : Kp H H') : ∀ (d : PyData) (v : V), flatD d = true → Dp K H v d → Dp K H' v d
  | .none, _, _, h => by cases h; exact .non
  | .bool _, _, _, h => by cases h; exact .bl _
  | .int _, _, _, h => by cases h; exact .int _
  | .str _, _, _, h => by cases h; exact .str _
  | .tuple ds, _, hf, h => by
    cases h with
    | tup h1 h2 => exact .tup (x.sqT h1) (DpAll.kp x ds _ (by simpa only [flatD] using hf) h2)
theorem DpAll.kp {K : PySem.W.Frag} {H H' : Hp} (x : Kp H H') : ∀ (ds : List PyData) (vs : List V), flatAll ds = true → DpAll K H vs ds → DpAll K H' vs ds
  | [], _, _, h => by cases h; exact .nil
  | d :: ds, _, hf, h => by
    cases h with
    | cons h1 h2 =>
      simp only [flatAll, Bool.and_eq_true] at hf
      exact .cons (Dp.kp x d _ hf.1 h1) (DpAll.kp x ds _ hf.2 h2)
end
theorem DpAll.len {K : PySem.W.Frag} {H : Hp} : ∀ {vs : List V} {ds : List PyData}, DpAll K H vs ds → vs.length = ds.length
  | _, _, .nil => rfl
  | _, _, .cons _ t => congrArg Nat.succ (DpAll.len t)
theorem DpAll.get {K : PySem.W.Frag} {H : Hp} : ∀ {vs : List V} {ds : List PyData}, DpAll K H vs ds → ∀ {i : Nat} {d : PyData}, ds[i]? = some d → ∃ v, vs[i]? = some v ∧ Dp K H v d
  | _, _, .nil, i, d, e => by simp at e
  | _, _, .cons (v := v) h t, 0, d, e => by simp at e; subst e; exact ⟨v, rfl, h⟩
  | _, _, .cons h t, i + 1, d, e => by
    obtain ⟨v, h1, h2⟩ := DpAll.get t (i := i) (d := d) (by simpa using e)
    exact ⟨v, by simpa using h1, h2⟩
/-! .. and any list, where all that was tracked stays -/
mutual
theorem Dp.same {K : PySem.W.Frag} {H H' : Hp} (x : Same H H') : ∀ (d : PyData) (v : V), Dp K H v d → Dp K H' v d
  | .none, _, h => by cases h; exact .non
  | .bool _, _, h => by cases h; exact .bl _
  | .int _, _, h => by cases h; exact .int _
  | .str _, _, h => by cases h; exact .str _
  | .tuple ds, _, h => by
    cases h with
    | tup h1 h2 => exact .tup (Same.sqT x h1) (DpAll.same x ds _ h2)
  | .list ds, _, h => by
    cases h with
    | lst h1 h2 => exact .lst (x.seq h1) (DpAll.same x ds _ h2)
theorem DpAll.same {K : PySem.W.Frag} {H H' : Hp} (x : Same H H') : ∀ (ds : List PyData) (vs : List V), DpAll K H vs ds → DpAll K H' vs ds
  | [], _, h => by cases h; exact .nil
  | d :: ds, _, h => by
    cases h with
    | cons h1 h2 => exact .cons (Dp.same x d _ h1) (DpAll.same x ds _ h2)
end
theorem dpAll_strs {K : PySem.W.Frag} {H : Hp} : ∀ ss : List Str, DpAll K H (ss.map V.str) (ss.map PyData.str)
  | [] => .nil
  | s :: ss => .cons (.str s) (dpAll_strs ss)
/-- the order of texts has one sorted list -/
theorem leS_total (a b : Str) : (VS.leS a b || VS.leS b a) = true := by
  unfold VS.leS
  rw [Bool.or_eq_true, decide_eq_true_eq, decide_eq_true_eq]
  exact List.le_total _ _
theorem leS_trans (a b c : Str) (h1 : VS.leS a b = true) (h2 : VS.leS b c = true) : VS.leS a c = true := by
  unfold VS.leS at *
  rw [decide_eq_true_eq] at *
  exact List.le_trans h1 h2
theorem leS_anti {a b : Str} (h1 : VS.leS a b = true) (h2 : VS.leS b a = true) : a = b := by
  unfold VS.leS at *
  rw [decide_eq_true_eq] at *
  exact PyProof.Rows.ext_toList (List.le_antisymm h1 h2)
theorem sort_perm {xs ys : List Str} (h : xs.Perm ys) : xs.mergeSort VS.leS = ys.mergeSort VS.leS := by
  have h1 := List.pairwise_mergeSort (le := VS.leS) leS_trans leS_total xs
  have h2 := List.pairwise_mergeSort (le := VS.leS) leS_trans leS_total ys
  have p : (xs.mergeSort VS.leS).Perm (ys.mergeSort VS.leS) := (List.mergeSort_perm xs _).trans (h.trans (List.mergeSort_perm ys _).symm)
  exact p.eq_of_pairwise (fun a b _ _ x y => leS_anti x y) h1 h2
theorem sort_mem {xs ys : List Str} (n1 : xs.Nodup) (n2 : ys.Nodup) (h : ∀ x, x ∈ xs ↔ x ∈ ys) : xs.mergeSort VS.leS = ys.mergeSort VS.leS :=
  sort_perm ((List.perm_ext_iff_of_nodup n1 n2).mpr h)
end VB

set_option Elab.async false
set_option linter.all false
set_option maxRecDepth 100000
set_option maxHeartbeats 4000000
namespace VK
open PySem PySem.Spec PyProof.Rows L2 LamX NdefX VB
/-! rules told with the written part by its name (within a comprehension's block the context has names of its own) -/
section
variable {X : Cx} {K : PySem.W.Frag} (h : X.K = K)
include h
theorem ixL : IxR X (rIxL K) := by subst h; exact ix_list
theorem ixT : IxR X (rIxT K) := by subst h; exact ix_tup
theorem ixQ : IxR X (rIx K) := by subst h; exact ix_seq
theorem slL : SlR X (rSlL K) := by subst h; exact sl_list
theorem slT : SlR X (rSlT K) := by subst h; exact sl_tup
theorem catT : OpR X (binaryOp .Add) (rCatT K) := by subst h; exact op_catT
theorem inQ : OpR X (compareOp .In) (rIn K false) := by subst h; exact op_in_seq
theorem notInQ : OpR X (compareOp .NotIn) (rIn K true) := by subst h; exact op_notIn_seq
theorem eqD (hu : X.A.units + 64 < cLine) : OpR X (compareOp .Eq) (rEqD K) := by subst h; exact op_eqD hu
theorem neD (hu : X.A.units + 64 < cLine) : OpR X (compareOp .NotEq) (rNeD K) := by subst h; exact op_neD hu
theorem maxL (hc : X.calm = true) : CallR X (.builtin "max") (rMax K) := by subst h; exact cr_max hc
theorem allL (hc : X.calm = true) : CallR X (.builtin "all") (rAll K) := by subst h; exact cr_all hc
theorem isi : CallR X (.builtin "isinstance") (rIsi K) := by subst h; exact call_isi
end
def rLenQ (K : PySem.W.Frag) : List V → Hp → VK → Prop := fun xs H Q => ∃ p ys, xs = [.ref p] ∧ (SqL K H p ys ∨ SqT K H p ys) ∧ Q (.int ys.length) H
def rListQ (K : PySem.W.Frag) : List V → Hp → VK → Prop := fun xs H Q => ∃ p ys, xs = [.ref p] ∧ (SqL K H p ys ∨ SqT K H p ys) ∧ ∀ l, H l = none → Q (.ref l) (upd H l (.lst ys))
def rTupQ (K : PySem.W.Frag) : List V → Hp → VK → Prop := fun xs H Q => ∃ p ys, xs = [.ref p] ∧ ((SqL K H p ys ∧ ∀ l, H l = none → Q (.ref l) (upd H l (.tup ys))) ∨ (SqT K H p ys ∧ Q (.ref p) H))
section
variable {X : Cx} {K : PySem.W.Frag} (h : X.K = K)
include h
theorem lenQ : CallR X (.builtin "len") (rLenQ K) := by subst h; exact call_len_seq
theorem listQ : CallR X (.type "list") (rListQ K) := by subst h; exact call_list_of
theorem tupQ : CallR X (.type "tuple") (rTupQ K) := by subst h; exact call_tuple_of
end
end VK
namespace VK
open PySem PySem.Spec PyProof.Rows L2 LamX NdefX VB
/-- sorted of texts, any number of them -/
def rSortS (K : PySem.W.Frag) : List V → Hp → VK → Prop := fun vs H Q => ∃ (a : Addr) (ss : List Str), vs = [V.ref a] ∧ SqL K H a (ss.map V.str) ∧
  ∀ p : Addr, H p = none → Q (.ref p) (upd H p (.lst ((ss.mergeSort VS.leS).map V.str)))
theorem sortedS {X : Cx} {K : PySem.W.Frag} (h : X.K = K) {k : Nat} (hr : Room k X.A) : CallR X (.builtin "sorted") (rSortS K) := by
  subst h
  intro pins s σ H vs us Q I r hh
  obtain ⟨a, ss, rfl, hs, q⟩ := hh
  have eS : (PySem.W.dataLe false PyData.str : Str → Str → Bool) = VS.leS := PySem.W.dataLe_str (fun x => x)
  refine VA.cr_sortedB V.str PyData.str hr pins s σ H [V.ref a] us Q I r ⟨a, ss, rfl, hs, fun b _ => .str b, ?_, ?_, ?_, fun p np => ?_⟩
  · intro d hd d' hd'
    obtain ⟨x, _, rfl⟩ := List.mem_map.mp hd
    obtain ⟨y, _, rfl⟩ := List.mem_map.mp hd'
    rfl
  · refine .inr fun d hd => ?_
    obtain ⟨x, _, rfl⟩ := List.mem_map.mp hd
    exact ⟨fun z => PyData.noConfusion z, fun xs z => PyData.noConfusion z⟩
  · intro b _
    show (0 : Nat) ≤ 8
    decide
  · rw [eS]
    exact q p np
end VK
namespace VK
open PySem PySem.Spec PyProof.Rows L2 LamX NdefX VB
/-! sets, told with the world by its name -/
section
variable {X : Cx} {w : World} (h : X.w = w)
include h
theorem set0M : CallR X (.type "set") (VS.rSet0M w) := by subst h; exact VS.cr_set0M
theorem sortedM {k : Nat} (hc : X.calm = true) (hr : Room k X.A) : CallR X (.builtin "sorted") (VS.rSortedM w) := by subst h; exact VS.cr_sortedM hc hr
theorem saddM {o e : Expr} {to te : TE} {apos cpos : Pos} (ho : PE X o to) (he : PE X e te)
    (hbase : attributeBase o "add" X.env (eval o X.env) = eval o X.env := by rfl)
    (hfew : ((backTo cpos (starEach [e] X.env)).all (fun x => !x.1) && (backToKw cpos (keywordEach [] X.env)).all (fun x => x.1.isSome)
      && decide (([e] : List Expr).length + ([] : List Keyword).length + (if ([] : List Keyword).isEmpty then 0 else 1) < 30)) = true := by rfl)
    (hline : (apos.endLine == cpos.line) = true := by rfl) (hs : starEach [e] X.env = (false, eval e X.env) :: starEach [] X.env := by rfl) :
    PE X (.Call (.Attribute o "add" apos) [e] [] cpos) (VS.tSAddM w to te) := by subst h; exact VS.pe_saddM ho he hbase hfew hline hs
end
end VK

set_option Elab.async false
set_option linter.all false
set_option maxRecDepth 100000
set_option maxHeartbeats 4000000
namespace VT
open PySem PySem.Spec PyProof.Rows L2
/-! sets of tuples of keys, any kind of keys, fewer than 64 members. The table's laws are the library's (L2.TabOk and what stands around it). -/
section
variable {P : Program} {w : World} {κ : Type} [DecidableEq κ]
/-- no reference -/
def NoRef (v : Value) : Prop := ∀ a, v ≠ .ref a
theorem noRef_of {v : Value} (h : carriedByValue v = true) : NoRef v := fun a e => by
  rw [e] at h
  simp [carriedByValue] at h
theorem class_no {v : Value} (h : NoRef v) (n : Nat) : ofAClassStatement n v = pure false := by
  cases v with
  | ref a => exact absurd rfl (h a)
  | _ => cases n <;> rfl
theorem hash_some {v : Value} (h : NoRef v) (n : Nat) : ∃ b, hashByValue n v = pure b := by
  cases v with
  | ref a => exact absurd rfl (h a)
  | _ => cases n <;> exact ⟨_, rfl⟩
variable {A : Around} {E : Value → Shared → Prop} {s : Shared} {knd : KeyKind P w κ}
theorem items_noRef {k : List κ} {vs : List Value} (h : ItemsAre knd k vs) : ∀ v ∈ vs, NoRef v := fun v hv => noRef_of (h.byValue v hv)
theorem class_tuple {k : List κ} {b : Addr} {Q : Bool → Shared → Prop} (hk : IsTupleKey knd s.heap k b) (h : Q false s) : wpAny (model P w) A (ofAClassStatement 8 (.ref b)) Q E s := by
  have hT := hk.typeIs
  obtain ⟨o, items, n, ho, _, hd, hi⟩ := hk
  have plain := items_noRef hi
  unfold ofAClassStatement
  refine wpAny_bind (wpAny_typeOf hT ?_)
  simp only [show (("tuple" : String) == "tuple") = true by decide, if_true, Bool.not_true, Bool.false_eq_true, if_false]
  try refine wpAny_bind (wpAny_pure ?_)
  try simp only [Bool.not_true, Bool.false_eq_true, if_false]
  show wpAny _ _ (seqItems? (.ref b) >>= _) _ _ s
  refine wpAny_bind (wpAny_seqItems ho hd ?_)
  refine wpAny_bind ?_
  show wpAny _ _ (forIn items _ _) _ _ s
  rw [← Array.forIn_toList]
  refine wpAny_forIn_list _ (fun rest r s' => (r.1 = none ∧ s' = s) ∧ ∀ v ∈ rest, NoRef v) _ ?_ ?_ _ _ ⟨⟨rfl, rfl⟩, plain⟩
  · rintro v rest r s' ⟨⟨hr, rfl⟩, all⟩
    rw [class_no (all v List.mem_cons_self)]
    refine wpAny_bind (wpAny_pure ?_)
    simp only [Bool.false_eq_true, if_false]
    exact wpAny_pure ⟨⟨rfl, rfl⟩, fun u hu => all u (List.mem_cons_of_mem _ hu)⟩
  · rintro ⟨r1, r2⟩ s' ⟨⟨hr, rfl⟩, _⟩
    simp only at hr
    subst hr
    exact wpAny_pure h
theorem byValue_tuple {k : List κ} {b : Addr} {Q : Bool → Shared → Prop} (hk : IsTupleKey knd s.heap k b) (h : ∀ c, Q c s) : wpAny (model P w) A (hashByValue 8 (.ref b)) Q E s := by
  have hT := hk.typeIs
  obtain ⟨o, items, n, ho, _, hd, hi⟩ := hk
  have plain := items_noRef hi
  unfold hashByValue
  refine wpAny_bind (wpAny_specialOf hT F.slot_tuple_hash.lookup ?_)
  show wpAny _ _ (seqItems? (.ref b) >>= _) _ _ s
  refine wpAny_bind (wpAny_seqItems ho hd ?_)
  refine wpAny_bind ?_
  show wpAny _ _ (forIn items _ _) _ _ s
  rw [← Array.forIn_toList]
  refine wpAny_forIn_list _ (fun rest r s' => (r.1 = none ∧ s' = s) ∧ ∀ v ∈ rest, NoRef v) _ ?_ ?_ _ _ ⟨⟨rfl, rfl⟩, plain⟩
  · rintro v rest r s' ⟨⟨hr, rfl⟩, all⟩
    obtain ⟨c, e⟩ := hash_some (all v List.mem_cons_self) 7
    rw [e]
    refine wpAny_bind (wpAny_pure ?_)
    cases c with
    | true =>
      simp only [Bool.not_true, Bool.false_eq_true, if_false]
      exact wpAny_pure ⟨⟨rfl, rfl⟩, fun u hu => all u (List.mem_cons_of_mem _ hu)⟩
    | false =>
      simp only [Bool.not_false, if_true]
      exact wpAny_pure (wpAny_pure (h false))
  · rintro ⟨r1, r2⟩ s' ⟨⟨hr, rfl⟩, _⟩
    simp only at hr
    subst hr
    exact wpAny_pure (h true)
/-- nobody sees a search among such tuples -/
theorem unseen {k : List κ} {b : Addr} {Q : Bool → Shared → Prop} (hk : IsTupleKey knd s.heap k b) {ys : List Value} (hy : ∀ y ∈ ys, ∃ k' c, y = Value.ref c ∧ IsTupleKey knd s.heap k' c) (h : Q false s) :
    wpAny (model P w) A (searchCouldBeSeen (.ref b) ys) Q E s := by
  unfold searchCouldBeSeen
  refine wpAny_bind (wpAny_forIn_list _ (fun rest r s' => (r.1 = none ∧ s' = s) ∧ ∀ y ∈ rest, ∃ k' c, y = Value.ref c ∧ IsTupleKey knd s.heap k' c) _ ?_ ?_ _ _ ⟨⟨rfl, rfl⟩, hy⟩)
  · rintro v rest r s' ⟨⟨hr, rfl⟩, all⟩
    obtain ⟨k', c, rfl, hc⟩ := all v List.mem_cons_self
    have tail := fun u (hu : u ∈ rest) => all u (List.mem_cons_of_mem _ hu)
    dsimp only
    split
    · exact wpAny_pure ⟨⟨rfl, rfl⟩, tail⟩
    · refine wpAny_bind (wpAny_eqIsQuiet_tuple hk ?_)
      simp only [Bool.not_true, Bool.false_eq_true, if_false]
      refine wpAny_bind (wpAny_eqIsQuiet_tuple hc ?_)
      simp only [Bool.not_true, Bool.false_eq_true, if_false]
      refine wpAny_bind (class_tuple hk ?_)
      simp only [Bool.false_eq_true, if_false]
      refine wpAny_bind (class_tuple hc ?_)
      simp only [Bool.false_eq_true, if_false]
      exact wpAny_pure ⟨⟨rfl, rfl⟩, tail⟩
  · rintro ⟨r1, r2⟩ s' ⟨⟨hr, rfl⟩, _⟩
    simp only at hr
    subst hr
    exact wpAny_pure h
/-! the set: its members in the order of the table -/
abbrev hOf (knd : KeyKind P w κ) (k : List κ) : Int := tupleKeyHash knd k
def ent (knd : KeyKind P w κ) (p : Addr × List κ) : Int × Value := (hOf knd p.2, Value.ref p.1)
/-- members L in the entries es and the table t -/
structure Laid (knd : KeyKind P w κ) (h : Heap) (L : List (Addr × List κ)) (es : Array (Int × Value)) (t : SetTable) : Prop where
  rows : es.toList = L.map (ent knd)
  tab : TabOk t (L.map fun p => hOf knd p.2)
  nd : (L.map (·.2)).Nodup
  mem : ∀ p ∈ L, IsTupleKey knd h p.2 p.1
  led : w.params.followText "set-order" = true ∨ t.led = true
def SetK (knd : KeyKind P w κ) (h : Heap) (a : Addr) (L : List (Addr × List κ)) : Prop :=
  ∃ o es ep t, h.get? a = some o ∧ o.ExactSet ∧ o.data = .set es ep t ∧ Laid knd h L es t ∧ L.length * 5 < t.mask * 3 ∧ L.length < 64
variable {L : List (Addr × List κ)} {es : Array (Int × Value)} {t : SetTable}
theorem Laid.size {h : Heap} (R : Laid knd h L es t) : es.size = L.length := by
  rw [← Array.length_toList, R.rows, List.length_map]
theorem Laid.places {h : Heap} (R : Laid knd h L es t) : t.place.toList.length = L.length := by
  rw [Array.length_toList, R.tab.sz, List.length_map]
theorem Laid.fits {h : Heap} (R : Laid knd h L es t) (hm : L.length ≤ t.mask) : t.fits es.size = true := by
  have h2 := R.size
  have h3 := R.places
  rw [Array.length_toList] at h3
  unfold SetTable.fits SetTable.fill
  rw [R.tab.dm, Bool.and_eq_true, beq_iff_eq, decide_eq_true_eq]
  exact ⟨by omega, (by show t.place.size + 0 ≤ t.mask; omega)⟩
theorem Laid.entry {h : Heap} (R : Laid knd h L es t) {i : Nat} {p : Addr × List κ} (e : L[i]? = some p) : es[i]? = some (hOf knd p.2, Value.ref p.1) := by
  rw [← Array.getElem?_toList, R.rows, List.getElem?_map, e] <;> rfl
theorem Laid.hashAt {h : Heap} (R : Laid knd h L es t) {i : Nat} {p : Addr × List κ} (e : L[i]? = some p) : (es[i]?.map (·.1)).getD 0 = hOf knd p.2 := by
  rw [R.entry e] <;> rfl
theorem Laid.at_ {h : Heap} (R : Laid knd h L es t) {i j : Nat} (e : t.place.toList[i]? = some j) : ∃ p, L[i]? = some p := by
  have h1 := (List.getElem?_eq_some_iff.mp e).1
  rw [R.places] at h1
  exact ⟨_, List.getElem?_eq_getElem h1⟩
/-- the c-th place of the way, as the search keeps it -/
abbrev pr (m : Nat) (h : Int) (c : Nat) : SetTable.Probe := nth m (runAt m (SetTable.bits h % (m + 1)) (SetTable.bits h)) c
theorem nth_noDummy (m : Nat) : ∀ (n : Nat) (p : SetTable.Probe), p.dummy = none → (nth m p n).dummy = none
  | 0, _, h => h
  | n + 1, p, h => nth_noDummy m n (adv m p) (by unfold adv; split <;> exact h)
theorem pr_add (m : Nat) (h : Int) (c q : Nat) : nth m (pr m h c) q = pr m h (c + q) := (nth_add m c _ q).symm
/-- one look of the search, from the place c on: the first member of this hash not before it, or the free place K -/
theorem look {hp : Heap} (R : Laid knd hp L es t) (h : Int) {K c : Nat} (hKf : K < 10 * SetTable.turns t.mask) (hK : way t.mask h K ∉ t.place.toList) (hb : ∀ k, k < K → way t.mask h k ∈ t.place.toList) (hc : c ≤ K) :
    (∃ d i, c ≤ d ∧ d < K ∧ t.place.toList[i]? = some (way t.mask h d) ∧ (∀ (d' i' : Nat) (p : Addr × List κ), c ≤ d' → d' < d → t.place.toList[i']? = some (way t.mask h d') → L[i']? = some p → hOf knd p.2 ≠ h) ∧
      t.probe (fun i => (es[i]?.map (·.1)).getD 0) h (pr t.mask h c) = some (.candidate (way t.mask h d) i (pr t.mask h (d + 1)))) ∨
    ((∀ (d' i' : Nat) (p : Addr × List κ), c ≤ d' → d' < K → t.place.toList[i']? = some (way t.mask h d') → L[i']? = some p → hOf knd p.2 ≠ h) ∧
      t.probe (fun i => (es[i]?.map (·.1)).getD 0) h (pr t.mask h c) = some (.empty (way t.mask h K) none)) := by
  have ej : ∀ q, (nth t.mask (pr t.mask h c) q).j = way t.mask h (c + q) := fun q => congrArg SetTable.Probe.j (pr_add t.mask h c q)
  have back : ∀ d, c ≤ d → c + (d - c) = d := fun d z => by omega
  rcases go_spec t R.tab.ris R.tab.dm (fun i => (es[i]?.map (·.1)).getD 0) h (10 * SetTable.turns t.mask) (K - c) (pr t.mask h c) (nth_noDummy _ _ _ rfl) (by omega)
      (fun q hq => by rw [ej]; exact hb _ (by omega)) (by rw [ej, back K hc]; exact hK) with ⟨q, i, h1, h2, h3, h4, h5⟩ | ⟨h4, h5⟩
  · refine .inl ⟨c + q, i, by omega, by omega, by rw [← ej]; exact h2, fun d' i' p z1 z2 z3 z4 e => ?_, ?_⟩
    · refine h4 (d' - c) i' (by omega) (by rw [ej, back d' z1]; exact z3) ?_
      exact (R.hashAt z4).trans e
    · have e1 : pr t.mask h (c + q + 1) = nth t.mask (pr t.mask h c) (q + 1) := by rw [pr_add]; rfl
      rw [e1, ← ej]
      exact h5
  · refine .inr ⟨fun d' i' p z1 z2 z3 z4 e => ?_, ?_⟩
    · refine h4 (d' - c) i' (by omega) (by rw [ej, back d' z1]; exact z3) ?_
      exact (R.hashAt z4).trans e
    · have e1 : way t.mask h K = (nth t.mask (pr t.mask h c) (K - c)).j := by rw [ej, back K hc]
      rw [e1]
      exact h5
variable {a : Addr} {o : Obj} {ep : Nat}
/-- the search of a tuple of the keys k -/
theorem search (ho : s.heap.get? a = some o) (hd : o.data = .set es ep t) (R : Laid knd s.heap L es t) (hm : L.length ≤ t.mask) {x : Addr} {k : List κ} (hx : IsTupleKey knd s.heap k x) (hu : A.units < cLine)
    {K : Nat} (hKf : K < 10 * SetTable.turns t.mask) (hK : way t.mask (hOf knd k) K ∉ t.place.toList) (hb : ∀ d, d < K → way t.mask (hOf knd k) d ∈ t.place.toList) {Q : SetFound → Shared → Prop}
    (yes : k ∈ L.map (·.2) → Q (.there none) s) (no : k ∉ L.map (·.2) → Q (.free (way t.mask (hOf knd k) K) false) s) :
    ∀ (f c : Nat) (stand : Option SetTable.Probe), stand.getD (t.probeStart (hOf knd k)) = pr t.mask (hOf knd k) c → c ≤ K → K - c < f →
      (∀ (d i : Nat) (p : Addr × List κ), d < c → t.place.toList[i]? = some (way t.mask (hOf knd k) d) → L[i]? = some p → p.2 ≠ k) →
      wpAny (model P w) A (setSearchFrom a (.ref x) (hOf knd k) true f stand) Q E s := by
  intro f
  induction f with
  | zero => exact fun c stand _ _ z _ => absurd z (Nat.not_lt_zero _)
  | succ f ih =>
    intro c stand est hc hf past
    rw [setSearchFrom_succ]
    refine wpAny_bind (wpAny_setState_of ho hd (R.fits hm) ?_)
    dsimp only
    refine wp_if_neg (by unfold SetTable.gaveWay; rw [mask_odd R.tab.mok]; decide) ?_
    try refine wpAny_bind (wpAny_pure ?_)
    rw [est]
    rcases look R (hOf knd k) hKf hK hb hc with ⟨d, i, d1, d2, d3, d4, e⟩ | ⟨d4, e⟩
    · rw [e]
      dsimp only
      obtain ⟨p, hp⟩ := R.at_ d3
      have hpm := List.mem_of_getElem? hp
      have cont : wpAny (model P w) A (searchRest a (.ref x) (hOf knd k) true f es t (way t.mask (hOf knd k) d) i (pr t.mask (hOf knd k) (d + 1))) Q E s := by
        unfold searchRest
        rw [R.entry hp]
        refine wpAny_bind (wpAny_holding (wpAny_eqBool_tuple hu (R.mem p hpm) hx ?_))
        refine wpAny_bind (wpAny_setState_of ho hd (R.fits hm) ?_)
        dsimp only
        by_cases same : p.2 = k
        · refine wp_if_pos (by simp [same]) (wpAny_pure (yes ?_))
          rw [← same]
          exact List.mem_map_of_mem hpm
        · refine wp_if_neg (by simp [same]) ?_
          try refine wpAny_bind (wpAny_pure ?_)
          rw [sameMem]
          simp only [if_true, slot_live R.tab.ris d3, R.entry hp]
          refine wpAny_bind (wpAny_isSame_ref_self (wpAny_bind (wpAny_pure ?_)))
          simp only [if_true]
          refine wp_if_neg (by simp [same]) ?_
          refine ih (d + 1) _ rfl d2 (by omega) fun d' i' p' z1 z2 z3 z4 => ?_
          rcases Nat.lt_or_ge d' c with y | y
          · exact past d' i' p' y z2 z3 z4
          · rcases Nat.lt_or_ge d' d with u | u
            · exact d4 d' i' p' y u z2 z3 (by rw [z4])
            · obtain rfl : d' = d := by omega
              have s1 := slot_live R.tab.ris z2
              rw [slot_live R.tab.ris d3] at s1
              injection s1 with s1
              rw [← s1, hp] at z3
              exact same (by rw [Option.some.inj z3]; exact z4)
      cases hl : t.led with
      | true =>
        refine wp_if_neg (by simp) ?_
        try refine wpAny_bind (wpAny_pure ?_)
        exact cont
      | false =>
        refine wp_if_pos (by simp) (wpAny_bind (unseen hx (fun y hy => ?_) ?_))
        · obtain ⟨g, hg, rfl⟩ := List.mem_map.mp hy
          have hg2 : g ∈ es.toList := by
            have z : g ∈ es ∧ g.1 = hOf knd k := by simpa using hg
            simpa using z.1
          rw [R.rows] at hg2
          obtain ⟨p2, hp2, rfl⟩ := List.mem_map.mp hg2
          exact ⟨p2.2, p2.1, rfl, R.mem p2 hp2⟩
        · refine wp_if_neg (by decide) ?_
          try refine wpAny_bind (wpAny_pure ?_)
          exact cont
    · rw [e]
      refine wpAny_pure (no fun hin => ?_)
      obtain ⟨p, hp, ek⟩ := List.mem_map.mp hin
      obtain ⟨i, hi, eg⟩ := List.getElem_of_mem hp
      have g1 : L[i]? = some p := by rw [List.getElem?_eq_getElem hi, eg]
      have g2 : (L.map fun p => hOf knd p.2)[i]? = some (hOf knd k) := by rw [List.getElem?_map, g1, ← ek] <;> rfl
      have hj : i < t.place.toList.length := by rw [R.places]; exact hi
      obtain ⟨d, z1, z2⟩ := R.tab.before hK g2 (List.getElem?_eq_getElem hj)
      have g3 : t.place.toList[i]? = some (way t.mask (hOf knd k) d) := by rw [List.getElem?_eq_getElem hj, z2]
      rcases Nat.lt_or_ge d c with y | y
      · exact past d i p y g3 g1 ek
      · exact d4 d i p y z1 g3 g1 (by rw [ek])
theorem range_all {α : Type} : ∀ l : List α, (List.range l.length).filterMap (fun i => l[i]?) = l
  | [] => rfl
  | x :: l => by
    rw [List.length_cons, List.range_succ_eq_map, List.filterMap_cons_some (f := fun i => (x :: l)[i]?) (b := x) rfl, List.filterMap_map]
    exact congrArg (x :: ·) (range_all l)
/-- the entries in another order -/
theorem reorder (rows : es.toList = L.map (ent knd)) {order : Array Nat} (hp : order.toList.Perm (List.range L.length)) :
    ∃ L2 : List (Addr × List κ), (order.filterMap (es[·]?)).toList = L2.map (ent knd) ∧ L2.Perm L ∧ (L2.map fun p => hOf knd p.2) = order.toList.map fun i => (es.map (·.1)).getD i 0 := by
  have e1 : (fun i : Nat => es[i]?) = fun i => (L[i]?).map (ent knd) := funext fun i => by rw [← Array.getElem?_toList, rows, List.getElem?_map]
  refine ⟨order.toList.filterMap fun i => L[i]?, ?_, ?_, ?_⟩
  · rw [Array.toList_filterMap, e1, List.map_filterMap]
  · have z := hp.filterMap (fun i => L[i]?)
    rw [range_all] at z
    exact z
  · have low : ∀ i ∈ order.toList, i < L.length := fun i hi => List.mem_range.mp (hp.mem_iff.mp hi)
    revert low
    generalize order.toList = l
    intro low
    induction l with
    | nil => rfl
    | cons i l ih =>
      have hi := low i List.mem_cons_self
      have e2 : es[i]? = some (ent knd L[i]) := by rw [congrFun e1 i, List.getElem?_eq_getElem hi] <;> rfl
      have e3 : (es.map (·.1)).getD i 0 = hOf knd (L[i]).2 := by
        rw [Array.getD_eq_getD_getElem?, Array.getElem?_map, e2] <;> rfl
      rw [List.filterMap_cons_some (List.getElem?_eq_getElem hi), List.map_cons, List.map_cons, ih fun j hj => low j (List.mem_cons_of_mem _ hj), e3]
theorem tuple_stays {h h' : Heap} {k : List κ} {b : Addr} (hb : IsTupleKey knd h k b) (ho : h.get? a = some o) (hd : o.data = .set es ep t) (hs : Heap.SameBut a h h') : IsTupleKey knd h' k b := by
  obtain ⟨o', items, n, ho', hc, hd', hi⟩ := hb
  refine ⟨o', items, n, (hs.2 b fun z => ?_).trans ho', hc, hd', hi⟩
  rw [z, ho] at ho'
  rw [← Option.some.inj ho', hd] at hd'
  cases hd'
theorem tuple_keep {h h' : Heap} {k : List κ} {b : Addr} (hb : IsTupleKey knd h k b) (e : ∀ o, h.get? b = some o → h'.get? b = some o) : IsTupleKey knd h' k b := by
  obtain ⟨o, items, n, ho, r⟩ := hb
  exact ⟨o, items, n, e o ho, r⟩
/-- a larger table -/
theorem relay (ho : s.heap.get? a = some o) (hex : o.ExactSet) (hd : o.data = .set es ep t) (R : Laid knd s.heap L es t) (hm : L.length ≤ t.mask) (few : L.length < 64) {wanted M : Nat}
    (hw : SetTable.sizeAbove wanted - 1 = M) (hM : MaskOk M) (hw2 : SetTable.sizeAbove wanted ≤ 128) (hn : L.length * 5 < M * 3) {Q : Unit → Shared → Prop}
    (hQ : ∀ h' L', Heap.SameBut a s.heap h' → SetK knd h' a L' → L'.Perm L → Q () { s with heap := h' }) : wpAny (model P w) A (setRelay a wanted) Q E s := by
  have sz := R.size
  obtain ⟨t', order, e, hp, T, em, el, _, ed⟩ := relaid_ok t (hs := es.map (·.1)) (wanted := wanted) hw hM (by rw [Array.size_map, sz]; omega)
  rw [Array.size_map, sz] at hp
  obtain ⟨L2, r1, r2, r3⟩ := reorder R.rows hp
  rw [← r3] at T
  have sz2 : (order.filterMap (es[·]?)).size = es.size := by rw [← Array.length_toList, r1, List.length_map, r2.length_eq, sz]
  rw [setRelay_eq]
  refine wpAny_bind (wpAny_setState_of ho hd (R.fits hm) ?_)
  dsimp only
  refine wp_if_neg (by rw [sizeLine_eq]; omega) ?_
  try refine wpAny_bind (wpAny_pure ?_)
  rw [e]
  refine wpAny_bind ?_
  dsimp only
  refine wp_if_neg (by rw [sz2]; simp) ?_
  try refine wpAny_bind (wpAny_pure ?_)
  refine wpAny_pure (wpAny_storeSet_of ho hd ?_ (by rw [sz2, sz, sizeLine_eq]; omega))
  have sb : Heap.SameBut a s.heap (s.heap.update a (Obj.putSet (order.filterMap (es[·]?)) t')) := Heap.SameBut.update ..
  refine hQ _ L2 sb ⟨_, _, _, t', store_at ho hd, hex, rfl, ⟨r1, T, (r2.map (·.2)).nodup_iff.mpr R.nd, fun p hp' => tuple_stays (R.mem p (r2.mem_iff.mp hp')) ho hd sb, by rw [el]; exact R.led⟩, ?_, ?_⟩ r2
  · rw [r2.length_eq, em]; exact hn
  · rw [r2.length_eq]; exact few
/-- a member is added -/
theorem add (M : SetK knd s.heap a L) {x : Addr} {k : List κ} (hx : IsTupleKey knd s.heap k x) (hu : A.units < cLine) (few : L.length + 1 < 64) {Q : Bool → Shared → Prop}
    (hQ : ∀ b h' L', Heap.SameBut a s.heap h' → SetK knd h' a L' → (k ∈ L.map (·.2) → L' = L) → (k ∉ L.map (·.2) → L'.Perm ((x, k) :: L)) → Q b { s with heap := h' }) :
    wpAny (model P w) A (setAddHashed a (.ref x) (hOf knd k)) Q E s := by
  obtain ⟨o, es, ep, t, ho, hex, hd, R, room, few0⟩ := M
  have hm : L.length ≤ t.mask := by omega
  have sz := R.size
  unfold setAddHashed
  refine wpAny_holding ?_
  rw [show (100000 : Nat) = 99999 + 1 from rfl, setAddHashedIn_succ]
  refine wpAny_bind (wpAny_setState_of ho hd (R.fits hm) ?_)
  dsimp only
  refine wp_if_neg (by simp [byScan, Value.scannable]) ?_
  try refine wpAny_bind (wpAny_pure ?_)
  obtain ⟨K, hKf, hK, hb⟩ := R.tab.first (by rw [List.length_map]; exact hm) (hOf knd k)
  have turns : 10 * SetTable.turns t.mask ≤ 2000 := by
    unfold SetTable.turns
    rcases R.tab.mok with e | e | e <;> omega
  unfold setSearch
  refine wpAny_bind (search ho hd R hm hx hu hKf hK hb (fun hin => ?_) (fun hin => ?_) 100000 0 none rfl (Nat.zero_le _) (by omega) fun d _ _ z => absurd z (Nat.not_lt_zero d))
  · exact wpAny_pure (hQ false s.heap L (Heap.SameBut.refl a s.heap) ⟨o, es, ep, t, ho, hex, hd, R, room, few0⟩ (fun _ => rfl) fun z => absurd hin z)
  dsimp only
  refine wpAny_bind (wpAny_setState_of ho hd (R.fits hm) ?_)
  dsimp only
  obtain ⟨q1, q2, q3, q4, q5, q6, q7, q8, q9⟩ := R.tab.put hK hb
  revert q1 q2 q3 q4 q5 q6 q7 q8 q9
  generalize t.put (way t.mask (hOf knd k) K) = pt
  obtain ⟨t1, at_⟩ := pt
  intro q1 q2 q3 q4 q5 q6 q7 q8 q9
  dsimp only at q1 q3 q4 q5 q6 q7 q8 q9 ⊢
  rw [← q1] at q2 q3
  rw [List.length_map] at q2 q9
  have pm := put_perm L at_ (x, k)
  have len1 : (L.take at_ ++ (x, k) :: L.drop at_).length = L.length + 1 := pm.length_eq
  have rows1 : (SetTable.insertAt es at_ (hOf knd k, Value.ref x)).toList = (L.take at_ ++ (x, k) :: L.drop at_).map (ent knd) := by
    rw [SetTable.toList_insertAt, R.rows, List.map_append, List.map_cons, List.map_take, List.map_drop] <;> rfl
  have hash1 : (L.take at_ ++ (x, k) :: L.drop at_).map (fun p => hOf knd p.2) = (L.map fun p => hOf knd p.2).take at_ ++ hOf knd k :: (L.map fun p => hOf knd p.2).drop at_ := by
    rw [List.map_append, List.map_cons, List.map_take, List.map_drop]
  rw [← hash1] at q3
  have nd1 : ((L.take at_ ++ (x, k) :: L.drop at_).map (·.2)).Nodup := by
    rw [(pm.map (·.2)).nodup_iff, List.map_cons, List.nodup_cons]
    exact ⟨hin, R.nd⟩
  revert rows1 pm len1 q3 nd1
  generalize L.take at_ ++ (x, k) :: L.drop at_ = L1
  generalize SetTable.insertAt es at_ (hOf knd k, Value.ref x) = es1
  clear hash1
  intro q3 pm len1 rows1 nd1
  have sz1 : es1.size = L.length + 1 := by rw [← Array.length_toList, rows1, List.length_map, len1]
  -- the marks of the table do not matter
  have done : ∀ t2 : SetTable, t2.place = t1.place → t2.dummies = t1.dummies → t2.mask = t1.mask → t2.led = t1.led →
      wpAny (model P w) A (do
        storeSet a es1 t2
        if (!false && t2.tooFull) = true then do
          setRelay a (SetTable.grown (es.size + 1))
          pure true
        else pure true) Q E s := by
    intro t2 g1 g2 g3 g4
    have T2 : TabOk t2 (L1.map fun p => hOf knd p.2) :=
      ⟨by rw [g1]; exact q3.ris, by rw [g2]; exact q3.dm, by rw [g1]; exact q3.sz, by rw [g3]; exact q3.mok, by rw [g1, g3]; exact q3.bd, by rw [g1, g3]; exact q3.reach⟩
    have fill2 : t2.fill = L.length + 1 := by
      rw [← q9]
      unfold SetTable.fill
      rw [g1, g2]
    refine wpAny_bind (wpAny_storeSet_of ho hd ?_ (by rw [sz1, sizeLine_eq]; omega))
    have sb : Heap.SameBut a s.heap (s.heap.update a (Obj.putSet es1 t2)) := Heap.SameBut.update ..
    have ho1 := store_at (es' := es1) (t' := t2) ho hd
    generalize s.heap.update a (Obj.putSet es1 t2) = h1 at sb ho1 ⊢
    have R1 : Laid knd h1 L1 es1 t2 := ⟨rows1, T2, nd1, fun p hp => by
      rcases List.mem_cons.mp (pm.mem_iff.mp hp) with e | z
      · rw [e]; exact tuple_stays hx ho hd sb
      · exact tuple_stays (R.mem p z) ho hd sb, by rw [g4, q5]; exact R.led⟩
    have ex1 : Obj.ExactSet { cls := o.cls, dict := o.dict, data := Data.set es1 (ep + 1) t2, slots := o.slots } := ⟨hex.1, hex.2.1, hex.2.2⟩
    have full : (t2.tooFull = true) ↔ t.mask * 3 ≤ (L.length + 1) * 5 := by
      unfold SetTable.tooFull
      rw [decide_eq_true_eq, fill2, g3, q4]
    by_cases tf : t2.tooFull = true
    · refine wp_if_pos (by simp [tf]) ?_
      have big := full.mp tf
      rw [sz]
      refine wpAny_bind ?_
      have fin : ∀ (M : Nat), SetTable.sizeAbove (SetTable.grown (L.length + 1)) - 1 = M → MaskOk M → SetTable.sizeAbove (SetTable.grown (L.length + 1)) ≤ 128 → (L.length + 1) * 5 < M * 3 →
          wpAny (model P w) A (setRelay a (SetTable.grown (L.length + 1))) (fun _ s' => wpAny (model P w) A (pure true) Q E s') E { s with heap := h1 } := fun M z1 z2 z3 z4 =>
        relay (s := { s with heap := h1 }) ho1 ex1 rfl R1 (by rw [len1, g3, q4]; rcases R.tab.mok with e | e | e <;> omega) (by rw [len1]; exact few) z1 z2 z3 (by rw [len1]; exact z4)
          fun h2 L2 sb2 M2 pm2 => wpAny_pure (hQ true h2 L2 (sb.trans sb2) M2 (fun z => absurd z hin) fun _ => pm2.trans pm)
      rcases R.tab.mok with e | e | e
      · have e4 : L.length = 4 := by omega
        exact fin 31 (by rw [e4, size_20]) (.inr (.inl rfl)) (by rw [e4, size_20]; decide) (by omega)
      · have e4 : L.length = 18 := by omega
        exact fin 127 (by rw [e4, size_76]) (.inr (.inr rfl)) (by rw [e4, size_76]; decide) (by omega)
      · omega
    · refine wp_if_neg (by simp [tf]) ?_
      refine wpAny_pure (hQ true h1 L1 sb ⟨_, es1, _, t2, ho1, ex1, rfl, R1, ?_, by rw [len1]; exact few⟩ (fun z => absurd z hin) fun _ => pm)
      have small : ¬ t.mask * 3 ≤ (L.length + 1) * 5 := fun z => tf (full.mpr z)
      rw [len1, g3, q4]
      omega
  by_cases pl : t1.plain = true
  · rw [if_pos pl]
    refine wpAny_bind (byValue_tuple hx fun c => ?_)
    cases c with
    | true => exact done t1 rfl rfl rfl rfl
    | false => exact done { t1 with plain := false } rfl rfl rfl rfl
  · rw [if_neg pl]
    refine wpAny_bind (wpAny_pure ?_)
    exact done t1 rfl rfl rfl rfl
end
end VT

set_option Elab.async false
set_option linter.all false
set_option maxRecDepth 100000
set_option maxHeartbeats 4000000
namespace VT
open PySem PySem.Spec PyProof.Rows L2
/-! set(xs), xs a list, by what adding a member means: J i tells the set's state after i items -/
section
variable {P : Program} {w : World} {A : Around} {E : Value → Shared → Prop} {s : Shared}
/-- what was in h0, and the object at S, stays -/
def Holds0 (h0 : Heap) (S : Addr) (h h' : Heap) : Prop := ∀ b o, (b = S ∨ h0.get? b ≠ none) → h.get? b = some o → h'.get? b = some o
def Old (h0 h : Heap) : Prop := ∀ b o, h0.get? b = some o → h.get? b = some o
structure Adds (P : Program) (w : World) (S : Addr) (h0 : Heap) (n : Nat) (Pv : Nat → Value → Prop) (J : Nat → Heap → Prop) : Prop where
  keep : ∀ i h h', J i h → Holds0 h0 S h h' → J i h'
  step : ∀ (A : Around) (E : Value → Shared → Prop) (i : Nat) (v : Value) (s : Shared) (F : Bool → Shared → Prop), A.units < cLine → i < n → Pv i v → J i s.heap → Old h0 s.heap →
    (∀ b h' tk, Heap.SameBut S s.heap h' → J (i + 1) h' → F b { s with heap := h', toks := s.toks + tk }) → wpAny (model P w) A (setAdd S v) F E s
variable {I S : Addr} {fp wr : List Addr} {G : Array GenState → Array GenState → Prop} {n : Nat} {Pv : Nat → Value → Prop} {St : Nat → Shared → Prop} {R : Result → Shared → Prop} {h0 : Heap} {J : Nat → Heap → Prop}
theorem loop_adds (W : WalksS P w A.in1 I fp wr G n Pv St) (hS : S ∉ fp) (hS0 : h0.get? S = none) (hw : ∀ b ∈ wr, h0.get? b = none) (D : Adds P w S h0 n Pv J) (hu : A.in1.units < cLine) :
    ∀ (m i : Nat) (s : Shared), n - i = m → i ≤ n → St i s → Old h0 s.heap → J i s.heap →
      (∀ s', Moved (S :: wr) G s s' → J n s'.heap → Old h0 s'.heap → R (.ok (.ret .none)) s') →
      codeAny (model P w) A (.builtin "set.update.loop" ⟨[.ref S, .ref I], []⟩) R s := by
  have nS : S ∉ wr := fun z => hS (W.sub _ z)
  have up : ∀ {s s' : Shared}, Moved wr G s s' → Old h0 s.heap → Old h0 s'.heap := fun mv z b o e => mv.heap b o (fun y => by rw [hw b y] at e; cases e) (z b o e)
  have held : ∀ {s s' : Shared}, Moved wr G s s' → Holds0 h0 S s.heap s'.heap := fun mv b o c e =>
    mv.heap b o (fun y => c.elim (fun z => nS (z ▸ y)) fun z => z (hw b y)) e
  intro m
  induction m with
  | zero =>
    intro i s em hi st old j fin
    obtain rfl : i = n := by omega
    refine codeAny_builtin F.entry_set_update_loop ?_
    rw [Around.under_plainId F.plain_set_update_loop _]
    show wpAny _ A.in1 (pyNext (.ref I) >>= _) _ _ s
    refine wpAny_bind (W.done s _ _ st fun s' mv => ?_)
    show wpAny _ A.in1 (ret Value.none) _ _ s'
    exact wpAny_pure (fin s' (mv.mono fun b hb => List.mem_cons_of_mem _ hb) (D.keep _ _ _ j (held mv)) (up mv old))
  | succ m ih =>
    intro i s em hi st old j fin
    have lt : i < n := by omega
    refine codeAny_builtin F.entry_set_update_loop ?_
    rw [Around.under_plainId F.plain_set_update_loop _]
    show wpAny _ A.in1 (pyNext (.ref I) >>= _) _ _ s
    refine wpAny_bind (W.item i s _ _ lt st fun v s' pv st' mv => ?_)
    show wpAny _ A.in1 (holding [v] (setAdd S v) >>= _) _ _ s'
    refine wpAny_bind (wpAny_holding (D.step A.in1 _ i v s' _ hu lt pv (D.keep _ _ _ j (held mv)) (up mv old) fun b h' tk sb j' => ?_))
    have old' : Old h0 h' := fun b o e => (sb.2 b fun z => by rw [z, hS0] at e; cases e).trans (up mv old b o e)
    refine wpAny_pure ⟨plainId_quiet F.plain_set_update_loop _, ih (i + 1) _ (by omega) lt (W.frame _ s' _ _ st' (Nat.le_add_right _ _) fun b hb o e => ?_) old' j' fun s'' mv'' j'' old'' => ?_⟩
    · rw [sb.2 b fun z => hS (z ▸ hb)]; exact e
    · refine fin s'' (Moved.trans W.gtrans ((mv.mono fun b hb => List.mem_cons_of_mem _ hb).then_heap (Nat.le_add_right _ _) fun b o hb e => ?_) mv'') j'' old''
      rw [sb.2 b fun z => hb (z ▸ List.mem_cons_self)]; exact e
/-- the new set -/
abbrev newSetO (w : World) : Obj := { cls := .type "set", dict := none, data := .set #[] 0 (.fresh 0 0 (!w.params.followText "set-order")) }
theorem set_of_list {l : Addr} {items : Array Value} {Q : Value → Shared → Prop} (hh : A.handled = none) (hl : s.heap.IsList l items) (hu : A.units + 3 < cLine) (J : Nat → Heap → Prop)
    (D : Adds P w s.heap.objs.size s.heap items.size (fun i v => items[i]? = some v) J) (j0 : ∀ h, h.get? s.heap.objs.size = some (newSetO w) → Old s.heap h → J 0 h)
    (h : ∀ (h' : Heap) (tk : Nat), J items.size h' → Old s.heap h' → Q (.ref s.heap.objs.size) { s with heap := h', toks := tk }) :
    wpAny (model P w) A (call (.type "set") [.ref l]) Q E s := by
  obtain ⟨c, tl, hmro⟩ := F.called_set.mro
  have hmade := F.called_set.made
  have hsub := F.called_set.sub
  refine wpAny_call (codeAny_of_tree ?_)
  show wpAny _ _ (callAny (.type "set") _) _ _ _
  refine wpAny_pure ⟨Code.quiet_builtin _ (by decide +kernel), codeAny_builtin F.entry_type_call ?_⟩
  rw [Around.under_plain (weight_type_call_type "set" [.ref l] []) rfl]
  have h1 := F.called_set.notType
  have h2 := F.called_set.canCreate
  have hct := F.typeCall_set_1 (.ref l)
  repeat (any_goals (first | assumption | wp_step))
  refine codeAny_mono (code_set_led1 (.ref l) (E := E) (Q₁ := fun obj s₁ => obj = .ref s.heap.objs.size ∧ s₁ = { s with heap := s.heap.push (newSetO w) }) ⟨rfl, rfl⟩) fun r s₁ hr => ?_
  cases r with
  | error e => exact hr
  | ok fl =>
    cases fl with
    | ret obj =>
      obtain ⟨rfl, rfl⟩ := hr
      have hS : (s.heap.push (newSetO w)).get? s.heap.objs.size = some (newSetO w) := Heap.get?_push_size _ rfl
      have hT : Shared.TypeIs { s with heap := s.heap.push (newSetO w) } (.ref s.heap.objs.size) "set" := ⟨_, hS, rfl⟩
      have hli := F.called_set.init.lookup
      have hbi := F.called_set.init.bind (.ref s.heap.objs.size)
      repeat (any_goals (first | assumption | wp_step))
      refine codeAny_mono (codeAny_call_builtin (R := wants (fun r s₂ => r = .none ∧ ∃ h' tk, s₂ = { s with heap := h', toks := tk } ∧ J items.size h' ∧ Old s.heap h') E) F.called_set.init.plain F.entry_set_init (check_set_init_1 hT ?_)) fun r₂ s₂ hr₂ => ?_
      · obtain ⟨ol, hol, hcl, nl, hdl⟩ := hl
        obtain ⟨ocls, odict, odata, oslots⟩ := ol
        simp only at hcl hdl
        subst hcl; subst hdl
        have hol' : (s.heap.push (newSetO w)).get? l = some { cls := .type "list", dict := odict, data := .seq items nl, slots := oslots } := Heap.get?_push_of_some _ hol
        have hsls := F.sub_list_set
        have hslf := F.sub_list_frozenset
        have hne : (Value.type "list" == Value.type "dict") = false := by decide
        have hl1 : (s.heap.push (newSetO w)).IsList l items := ⟨_, hol', rfl, nl, rfl⟩
        unfold Builtin.«set.__init__» noKeywords Builtin.Frozenset.updateFrom
        generalize hPI : pyIter = PI
        wp_walk
        subst hPI
        refine wpAny_pyIter_list hl1 ?_
        refine wpAny_bind (wpAny_runValue ?_)
        have lS : l < s.heap.objs.size := Heap.lt_size hol
        have nI : l ≠ (s.heap.push (newSetO w)).objs.size := by
          rw [Heap.size_push]; exact Nat.ne_of_lt (Nat.lt_succ_of_lt lS)
        have nS : s.heap.objs.size ∉ [(s.heap.push (newSetO w)).objs.size, l] := by
          rw [Heap.size_push]
          intro z
          rcases List.mem_cons.mp z with e | z
          · omega
          · exact absurd lS (by rw [List.mem_singleton.mp z]; exact Nat.lt_irrefl _)
        have free : ∀ b, s.heap.objs.size ≤ b → s.heap.get? b = none := fun b hb => by
          cases q : s.heap.get? b with
          | none => rfl
          | some o => exact absurd (Nat.lt_of_lt_of_le (Heap.lt_size q) hb) (Nat.lt_irrefl _)
        refine loop_adds ((Walks.list (by simp [hh]) _ l nI items).toS) nS (free _ (Nat.le_refl _)) (fun b hb => free b (by rw [List.mem_singleton.mp hb, Heap.size_push]; exact Nat.le_succ _)) D hu (items.size - 0) 0 _ (by omega) (Nat.zero_le _)
          ⟨⟨_, Heap.get?_push_size _ rfl, rfl, rfl⟩, (hl1.push _)⟩ (fun b o e => Heap.get?_push_of_some _ (Heap.get?_push_of_some _ e))
          (j0 _ (Heap.get?_push_of_some _ hS) fun b o e => Heap.get?_push_of_some _ (Heap.get?_push_of_some _ e)) fun s' mv j old => ?_
        obtain ⟨h', g2, d', tk', os'⟩ := s'
        have eg : g2 = s.gens := mv.gens
        have ed : d' = s.drawn := mv.drawn
        have eo : os' = s.os := mv.os
        subst eg; subst ed; subst eo
        show wpAny _ _ _ _ _ _
        refine wpAny_pure ?_
        show wpAny _ _ (ret Value.none) _ _ _
        exact wpAny_pure ⟨rfl, h', tk', rfl, j, old⟩
      · cases r₂ with
        | error e => exact hr₂
        | ok fl₂ =>
          cases fl₂ with
          | ret r =>
            obtain ⟨rfl, h', tk, rfl, j, old⟩ := hr₂
            repeat (any_goals (first | assumption | wp_step))
            exact h _ _ j old
          | _ => exact hr₂.elim
    | _ => exact hr.elim
end
end VT

set_option Elab.async false
set_option linter.all false
set_option maxRecDepth 100000
set_option maxHeartbeats 4000000
namespace VT
open PySem PySem.Spec PyProof.Rows L2
/-! over the layer: set(xs) of a list of tuples of ints and texts, sorted of such a set -/
section
variable {κ : Type} [DecidableEq κ] {P : Program} {w : World} {knd : KeyKind P w κ}
/-- the set alone, without its members' objects -/
def BareK (knd : KeyKind P w κ) (h : Heap) (a : Addr) (L : List (Addr × List κ)) : Prop :=
  ∃ o es ep t, h.get? a = some o ∧ o.ExactSet ∧ o.data = .set es ep t ∧ es.toList = L.map (ent knd) ∧ TabOk t (L.map fun p => hOf knd p.2) ∧ (L.map (·.2)).Nodup ∧
    (w.params.followText "set-order" = true ∨ t.led = true) ∧ L.length * 5 < t.mask * 3 ∧ L.length < 64
theorem SetK.bare {h : Heap} {a : Addr} {L : List (Addr × List κ)} (M : SetK knd h a L) : BareK knd h a L := by
  obtain ⟨o, es, ep, t, ho, hx, hd, R, r, f⟩ := M
  exact ⟨o, es, ep, t, ho, hx, hd, R.rows, R.tab, R.nd, R.led, r, f⟩
theorem BareK.full {h : Heap} {a : Addr} {L : List (Addr × List κ)} (M : BareK knd h a L) (hm : ∀ p ∈ L, IsTupleKey knd h p.2 p.1) : SetK knd h a L := by
  obtain ⟨o, es, ep, t, ho, hx, hd, r1, r2, r3, r4, r, f⟩ := M
  exact ⟨o, es, ep, t, ho, hx, hd, ⟨r1, r2, r3, hm, r4⟩, r, f⟩
theorem BareK.at_ {h h' : Heap} {a : Addr} {L : List (Addr × List κ)} (M : BareK knd h a L) (e : ∀ o, h.get? a = some o → h'.get? a = some o) : BareK knd h' a L := by
  obtain ⟨o, es, ep, t, ho, r⟩ := M
  exact ⟨o, es, ep, t, e o ho, r⟩
/-- the fresh set is the set of no members -/
theorem fresh_bare {h : Heap} {a : Addr} (e : h.get? a = some (newSetO w)) : BareK knd h a [] :=
  ⟨_, #[], 0, _, e, ⟨rfl, rfl, rfl⟩, rfl, rfl, ⟨List.Pairwise.nil, rfl, rfl, .inl rfl, fun x hx => (by cases hx), fun i h j hi => (by simp at hi)⟩, List.nodup_nil, by
    show _ ∨ (!w.params.followText "set-order") = true
    cases w.params.followText "set-order"
    · exact .inr rfl
    · exact .inl rfl, (by show 0 * 5 < 7 * 3; decide), (by show 0 < 64; decide)⟩
/-- the members after i items of the list -/
def Mid (knd : KeyKind P w κ) (a : Addr) (ks : List (Addr × List κ)) (i : Nat) (h : Heap) : Prop :=
  ∃ L, BareK knd h a L ∧ (∀ p ∈ L, p ∈ ks.take i) ∧ (∀ p ∈ ks.take i, p.2 ∈ L.map (·.2)) ∧ L.length ≤ i
theorem mid_adds {S : Addr} {h0 : Heap} {items : Array Value} (ks : List (Addr × List κ)) (hit : items.toList = ks.map fun p => Value.ref p.1) (hk : ∀ p ∈ ks, IsTupleKey knd h0 p.2 p.1) (few : ks.length < 64) :
    Adds P w S h0 items.size (fun i v => items[i]? = some v) (Mid knd S ks) where
  keep := fun i h h' ⟨L, B, r⟩ z => ⟨L, B.at_ fun o e => z S o (.inl rfl) e, r⟩
  step := by
    intro A E i v s F hu hi hv ⟨L, B, sub, all, len⟩ old fin
    have hv2 : (ks.map fun p => Value.ref p.1)[i]? = some v := by rw [← hit, Array.getElem?_toList]; exact hv
    rw [List.getElem?_map] at hv2
    obtain ⟨p, hp, rfl⟩ := Option.map_eq_some_iff.mp hv2
    have pin := List.mem_of_getElem? hp
    have tk : ks.take (i + 1) = ks.take i ++ [p] := by rw [List.take_succ, hp] <;> rfl
    have mem : ∀ q ∈ L, IsTupleKey knd s.heap q.2 q.1 := fun q hq => tuple_keep (hk q (List.mem_of_mem_take (sub q hq))) fun o e => old _ o e
    have hx : IsTupleKey knd s.heap p.2 p.1 := tuple_keep (hk p pin) fun o e => old _ o e
    have small : i < ks.length := (List.getElem?_eq_some_iff.mp hp).1
    unfold setAdd
    refine wpAny_holding (wpAny_bind (wpAny_pyHash_tuple hu hx ?_))
    refine add (s := { s with toks := s.toks + (p.2.length + 1) }) (B.full mem) hx hu (by omega) fun b h' L' sb M' c1 c2 => fin b h' (p.2.length + 1) sb ⟨L', M'.bare, ?_⟩
    by_cases c : p.2 ∈ L.map (·.2)
    · rw [c1 c, tk]
      refine ⟨fun q hq => List.mem_append_left _ (sub q hq), fun q hq => ?_, by omega⟩
      rcases List.mem_append.mp hq with z | z
      · exact all q z
      · rw [List.mem_singleton.mp z]; exact c
    · have pm := c2 c
      rw [tk]
      refine ⟨fun q hq => ?_, fun q hq => ?_, by rw [pm.length_eq, List.length_cons]; omega⟩
      · rcases List.mem_cons.mp (pm.mem_iff.mp hq) with e | z
        · rw [e]; exact List.mem_append_right _ (List.mem_singleton.mpr rfl)
        · exact List.mem_append_left _ (sub q z)
      · rw [(pm.map (·.2)).mem_iff, List.map_cons]
        rcases List.mem_append.mp hq with z | z
        · exact List.mem_cons_of_mem _ (all q z)
        · rw [List.mem_singleton.mp z]; exact List.mem_cons_self
end
/-- the members of a set made of ks -/
structure Of {κ : Type} (ks L : List (Addr × List κ)) : Prop where
  sub : ∀ p ∈ L, p ∈ ks
  all : ∀ p ∈ ks, p.2 ∈ L.map (·.2)
  nd : (L.map (·.2)).Nodup
def SetKO (P : Program) (w : World) (a : Addr) (L : List (Addr × List Key)) : HO := .ext fun h => BareK (mixKind P w) h a L
section
variable {X : Cx} {P : Program} {w : World}
theorem setKO_new {H : Hp} {h : Heap} {a : Addr} {L : List (Addr × List Key)} (M : BareK (mixKind P w) h a L) : ObjOk P w H h a (SetKO P w a L) := by
  have ⟨o, _, _, _, ho, _⟩ := M
  exact ⟨M, ⟨o, ho⟩, fun _ _ p q => BareK.at_ p q⟩
theorem items_vals : ∀ {k : List Key} {us : List Value}, Vals (k.map kV) us → ItemsAre (mixKind P w) k us
  | [], us, r => by rw [List.map_nil] at r; cases r; exact .nil
  | k :: ks, us, r => by
    rw [List.map_cons] at r
    cases r with
    | cons h t => exact .cons (kV_is h) (items_vals t)
theorem inv_tuple {pins : List (Addr × Obj)} {σ : L2.St} {H : Hp} {s : Shared} {b : Addr} {k : List Key} (I : Inv X pins σ H s) (h : SqT X.K H b (k.map kV)) : IsTupleKey (mixKind X.prog X.w) s.heap k b := by
  obtain ⟨its, r, ⟨o, ho, hc, n, hd⟩, _⟩ := I.tuple h
  exact ⟨o, its.toArray, n, ho, hc, hd, by simpa using items_vals r⟩
theorem refs_list : ∀ {ks : List (Addr × List Key)} {us : List Value}, Vals (ks.map fun p => V.ref p.1) us → us = ks.map fun p => Value.ref p.1
  | [], us, r => by rw [List.map_nil] at r; cases r; rfl
  | k :: ks, us, r => by
    rw [List.map_cons] at r
    cases r with
    | cons h t => rw [refs_list t, List.map_cons, show _ = Value.ref k.1 from h]
/-- set(xs) -/
def rSetT (K : PySem.W.Frag) (P : Program) (w : World) : List V → Hp → VK → Prop := fun xs H Q => ∃ (l : Addr) (ks : List (Addr × List Key)), xs = [V.ref l] ∧ SqL K H l (ks.map fun p => V.ref p.1) ∧
  (∀ p ∈ ks, SqT K H p.1 (p.2.map kV)) ∧ ks.length < 64 ∧ ∀ (a : Addr) (L : List (Addr × List Key)), H a = none → Of ks L → Q (.ref a) (upd H a (SetKO P w a L))
theorem cr_setT {K : PySem.W.Frag} (hK : X.K = K) (hP : X.prog = P) (hw : X.w = w) (hc : X.calm = true) (hu : X.A.units + 3 < cLine) : CallR X (.type "set") (rSetT K P w) := by
  subst hK
  subst hP
  subst hw
  intro pins s σ H xs us Q I r h
  obtain ⟨l, ks, rfl, hS, hk, few, q⟩ := h
  obtain ⟨its, rv, hl, hz⟩ := I.list hS
  rw [Vals.ref1 r]
  have hit := refs_list rv
  have hk0 : ∀ p ∈ ks, IsTupleKey (mixKind X.prog X.w) s.heap p.2 p.1 := fun p hp => inv_tuple I (hk p hp)
  have szs : its.toArray.size = ks.length := by rw [List.size_toArray, hit, List.length_map]
  refine set_of_list (I.ok.hd hc) hl.isList hu (Mid (mixKind X.prog X.w) s.heap.objs.size ks) (mid_adds ks (by simpa using hit) hk0 few) (fun h' e _ => ⟨[], fresh_bare e, fun p z => absurd z List.not_mem_nil, fun p z => absurd z (by rw [List.take_zero]; exact List.not_mem_nil), Nat.zero_le _⟩) fun h' tk j old => ?_
  rw [szs] at j
  obtain ⟨L, B, sub, all, _⟩ := j
  rw [List.take_length] at sub all
  have fr : H s.heap.objs.size = none := I.hok.fresh (Nat.le_refl _)
  have nd : (L.map (·.2)).Nodup := by
    obtain ⟨_, _, _, _, _, _, _, _, _, nd, _⟩ := B
    exact nd
  exact ⟨.ref _, upd H s.heap.objs.size (SetKO X.prog X.w s.heap.objs.size L), I.laid (t' := tk) old (Nat.le_refl _) (setKO_new B), rfl, q _ L fr ⟨sub, all, nd⟩⟩
/-! sorted of it -/
def keyD : Key → PyData
  | .inl i => .int i
  | .inr x => .str x
def keysD (k : List Key) : PyData := .tuple (k.map keyD)
theorem key_read {h : Heap} {k : Key} {u : Value} (e : (mixKind P w).is k u = true) : Reads h u (keyD k) [] := by
  rcases keyIs_shape e with ⟨i, t, rfl, rfl⟩ | ⟨x, t, rfl, rfl⟩
  · exact .int i t
  · exact .str x t
theorem keys_read {h : Heap} : ∀ {k : List Key} {us : List Value}, ItemsAre (mixKind P w) k us → ReadsAll h us (k.map keyD) []
  | _, _, .nil => .nil
  | _, _, .cons e t => ReadsAll.cons (as := []) (bs := []) (key_read e) (keys_read t)
theorem tuple_read {h : Heap} {k : List Key} {b : Addr} (e : IsTupleKey (mixKind P w) h k b) : Reads h (.ref b) (keysD k) [] := by
  obtain ⟨o, items, n, ho, hc, hd, hi⟩ := e
  exact .tuple ho hc hd (keys_read hi)
theorem keys_flat : ∀ k : List Key, PyData.depthAll (k.map keyD) = 0
  | [] => rfl
  | .inl i :: k => by rw [List.map_cons]; simp only [PyData.depthAll, keyD, PyData.depth, keys_flat k, Nat.max_self]
  | .inr i :: k => by rw [List.map_cons]; simp only [PyData.depthAll, keyD, PyData.depth, keys_flat k, Nat.max_self]
theorem keys_depth (k : List Key) : (keysD k).depth = 1 := by
  unfold keysD PyData.depth
  rw [keys_flat]
def leK (p q : Addr × List Key) : Bool := PySem.W.dataLe false (fun p : Addr × List Key => keysD p.2) p q
def rSortT (P : Program) (w : World) (K : PySem.W.Frag) : List V → Hp → VK → Prop := fun vs H Q => ∃ (a : Addr) (L : List (Addr × List Key)), vs = [V.ref a] ∧ H a = some (SetKO P w a L) ∧ (∀ p ∈ L, SqT K H p.1 (p.2.map kV)) ∧
  PySem.W.AllAlike (L.map fun p => keysD p.2) ∧ (∀ p ∈ L, p.2 ≠ []) ∧ ∀ (L' : List (Addr × List Key)) (p : Addr), L'.Perm L → H p = none → Q (.ref p) (upd H p (.lst ((L'.mergeSort leK).map fun q => V.ref q.1)))
theorem each_refs : ∀ L : List (Addr × List Key), PySem.W.EachIs (fun (u : Value) (p : Addr × List Key) => u = Value.ref p.1) (L.map fun p => Value.ref p.1) L
  | [] => .nil
  | p :: L => .cons rfl (each_refs L)
theorem each_out : ∀ {L : List (Addr × List Key)} {us : List Value}, PySem.W.EachIs (fun (u : Value) (p : Addr × List Key) => u = Value.ref p.1) us L → Vals (L.map fun p => V.ref p.1) us
  | _, _, .nil => .nil
  | _, _, .cons h t => .cons (by rw [h]; rfl) (each_out t)
theorem perm_lift {α β : Type} {f : α → β} : ∀ {l : List α} {us : List β}, us.Perm (l.map f) → ∃ l' : List α, l'.Perm l ∧ us = l'.map f := by
  intro l us h
  have : ∀ {us vs : List β}, us.Perm vs → ∀ l : List α, vs = l.map f → ∃ l' : List α, l'.Perm l ∧ us = l'.map f := by
    intro us vs h
    induction h with
    | nil => intro l e; exact ⟨[], by rw [List.map_eq_nil_iff.mp e.symm], rfl⟩
    | @cons x l1 l2 _ ih =>
      intro l e
      cases l with
      | nil => cases e
      | cons y l =>
        rw [List.map_cons] at e
        injection e with e1 e2
        obtain ⟨l', p, e3⟩ := ih l e2
        exact ⟨y :: l', p.cons y, by rw [List.map_cons, ← e1, e3]⟩
    | swap x y l1 =>
      intro l e
      match l, e with
      | a :: b :: l, e =>
        rw [List.map_cons, List.map_cons] at e
        injection e with e1 e2
        injection e2 with e2 e3
        exact ⟨b :: a :: l, .swap a b l, by rw [List.map_cons, List.map_cons, ← e1, ← e2, e3]⟩
    | trans _ _ ih1 ih2 =>
      intro l e
      obtain ⟨l2, p2, e2⟩ := ih2 l e
      obtain ⟨l1, p1, e1⟩ := ih1 l2 e2
      exact ⟨l1, p1.trans p2, e1⟩
  exact this h l rfl
theorem cr_sortT {K : PySem.W.Frag} (hK : X.K = K) (hP : X.prog = P) (hw : X.w = w) {k : Nat} (hc : X.calm = true) (hr : Room k X.A) : CallR X (.builtin "sorted") (rSortT P w K) := by
  subst hK
  subst hP
  subst hw
  intro pins s σ H vs us Q I r h
  obtain ⟨a, L, rfl, ha, hk, hal, hne, q⟩ := h
  have M0 : BareK (mixKind X.prog X.w) s.heap a L := (I.hok a _ ha).1
  obtain ⟨o, es, ep, t, ho, hx, hd, R, room, few⟩ := M0.full fun p hp => inv_tuple I (hk p hp)
  rw [Vals.ref1 r]
  have hun := hr.un
  refine Calls.call_function_entry kind_sorted plain_sorted entry_sorted (args_sorted1 _) ?_
  unfold Builtin.«sorted»
  refine wpAny_bind (m := checkCount "sorted" 1 1 _) (wpAny_pure ?_)
  refine wpAny_bind (collect_set (A := X.A.in1) (I.ok.hd hc) ⟨o, ho, hx.1, hd⟩ (R.fits (by omega)) (by rw [R.size]; exact Nat.lt_of_lt_of_le few (by decide)) R.tab.ris R.led fun s1 us1 k1 hz g1 o1 pm => ?_)
  have pm2 : us1.Perm (L.map fun p => Value.ref p.1) := by
    rw [R.rows, List.map_map] at pm
    exact pm
  obtain ⟨L', pl, rfl⟩ := perm_lift pm2
  have len : L'.length = L.length := pl.length_eq
  have lim : (L'.map fun p => Value.ref p.1).length ≤ sizeLine := by rw [List.length_map, len, sizeLine_eq]; omega
  refine wpAny_bind (wpAny_newList ?_ lim)
  have hoL : (s1.heap.push (seqObj "list" (L'.map fun p => Value.ref p.1).toArray 0)).get? s1.heap.objs.size = some (seqObj "list" (L'.map fun p => Value.ref p.1).toArray 0) := Heap.get?_push_size _ rfl
  refine wpAny_bind (wpAny_holding (PySem.W.list_sort_data (enc := fun p : Addr × List Key => keysD p.2) (bs := L') (R := fun (u : Value) (p : Addr × List Key) => u = Value.ref p.1) hoL (each_refs L') ?_ ?_ ?_ (by rw [len, sizeLine_eq]; omega) ?_ fun out lo eo => ?_))
  · have go : ∀ l : List (Addr × List Key), (∀ p ∈ l, p ∈ L) → PySem.W.EachIs (fun (u : Value) (p : Addr × List Key) => ∃ as, Reads (s1.heap.push (seqObj "list" (L'.map fun p => Value.ref p.1).toArray 0)) u (keysD p.2) as ∧ s1.heap.objs.size ∉ as) (l.map fun p => Value.ref p.1) l := by
      intro l
      induction l with
      | nil => intro _; exact .nil
      | cons p l ih =>
        intro hl
        refine .cons ⟨[], tuple_read (tuple_keep (R.mem p (hl p List.mem_cons_self)) fun o e => Heap.get?_push_of_some _ (k1 _ o e)), by simp⟩ (ih fun q hq => hl q (List.mem_cons_of_mem _ hq))
    exact go L' fun p hp => pl.mem_iff.mp hp
  · intro d hd' d' hd''
    refine hal d ?_ d' ?_
    · exact (pl.map _).mem_iff.mp hd'
    · exact (pl.map _).mem_iff.mp hd''
  · refine .inl fun d hd' => ?_
    obtain ⟨p, hp, rfl⟩ := List.mem_map.mp hd'
    have ne := hne p (pl.mem_iff.mp hp)
    cases e : p.2 with
    | nil => exact absurd e ne
    | cons x r => exact ⟨keyD x, r.map keyD, by rw [keysD, List.map_cons]⟩
  · intro p hp
    show X.A.units + 1 + 1 + (keysD p.2).depth < cLine
    rw [keys_depth]
    omega
  · obtain ⟨c, hc'⟩ := sortedHeap_at (vs := L'.map fun p => Value.ref p.1) (out := out.toArray) hoL
    have kp : ∀ b u, s.heap.get? b = some u → (PyProof.Rows.sortedHeap (s1.heap.push (seqObj "list" (L'.map fun p => Value.ref p.1).toArray 0)) s1.heap.objs.size (L'.map fun p => Value.ref p.1) out.toArray).get? b = some u := by
      intro b u e
      have hlt := Heap.lt_size (k1 b u e)
      rw [sortedHeap_old (Nat.ne_of_lt hlt) (by rw [size_push']; exact Nat.lt_succ_of_lt hlt)]
      exact Heap.get?_push_of_some _ (k1 b u e)
    have fr : H s1.heap.objs.size = none := I.hok.fresh hz
    have rv : Vals ((L'.mergeSort leK).map fun p => V.ref p.1) out := each_out eo
    have J : Inv X pins σ (upd H s1.heap.objs.size (.lst ((L'.mergeSort leK).map fun p => V.ref p.1)))
        { s with heap := PyProof.Rows.sortedHeap (s1.heap.push (seqObj "list" (L'.map fun p => Value.ref p.1).toArray 0)) s1.heap.objs.size (L'.map fun p => Value.ref p.1) out.toArray, gens := s1.gens, drawn := s1.drawn, toks := s1.toks } :=
      I.call (ch := []) (Un.laid kp hz fr) (I.hok.laid kp hz ⟨by rw [List.length_map, List.length_mergeSort, len, sizeLine_eq]; omega, out, c, rv, hc'⟩) (by rw [g1]; exact I.bare) (fun _ z => nomatch z)
    refine wpAny_pure ⟨_, rfl, ?_⟩
    rw [show ({ s1 with heap := PyProof.Rows.sortedHeap (s1.heap.push (seqObj "list" (L'.map fun p => Value.ref p.1).toArray 0)) s1.heap.objs.size (L'.map fun p => Value.ref p.1) out.toArray } : Shared) =
        { s with heap := PyProof.Rows.sortedHeap (s1.heap.push (seqObj "list" (L'.map fun p => Value.ref p.1).toArray 0)) s1.heap.objs.size (L'.map fun p => Value.ref p.1) out.toArray, gens := s1.gens, drawn := s1.drawn, toks := s1.toks } by rw [← o1]]
    exact ⟨.ref _, _, J, rfl, q L' _ pl fr⟩
end
end VT

set_option Elab.async false
set_option linter.all false
set_option maxRecDepth 100000
set_option maxHeartbeats 4000000
namespace VO
open PySem PySem.Spec PyProof.Rows L2 LamX NdefX VB
/-- a statement that is never reached -/
def tNever : TS := fun _ _ _ => False
theorem ps_never {X : Cx} (st : Stmt) : PS X st tNever := ⟨fun pins s σ H D I h => h.elim⟩
/-! set(xs), xs a list of texts -/
def MidS (P : Program) (w : World) (a : Addr) (ss : List Str) (i : Nat) (h : Heap) : Prop :=
  ∃ (S : Key → Bool) (n : Nat), VS.SetM w h a S n ∧ (∀ k, S k = true ↔ ∃ x ∈ ss.take i, k = Sum.inr x) ∧ n ≤ i
theorem strs_at : ∀ {ss : List Str} {us : List Value}, Vals (ss.map V.str) us → ∀ {i : Nat} {v : Value}, us[i]? = some v → ∃ x, ss[i]? = some x ∧ RelV (V.str x) v
  | [], us, r, i, v, e => by rw [List.map_nil] at r; cases r; simp at e
  | x :: ss, us, r, i, v, e => by
    rw [List.map_cons] at r
    cases r with
    | cons h t =>
      cases i with
      | zero => simp at e; subst e; exact ⟨x, rfl, h⟩
      | succ i => exact strs_at t (by simpa using e)
theorem midS_adds {P : Program} {w : World} {a : Addr} {h0 : Heap} {items : Array Value} (ss : List Str) (hit : Vals (ss.map V.str) items.toList) (few : ss.length + 1 < scanBound) :
    VT.Adds P w a h0 items.size (fun i v => items[i]? = some v) (MidS P w a ss) where
  keep := fun i h h' ⟨S, n, M, r⟩ z => ⟨S, n, M.at fun o e => z a o (.inl rfl) e, r⟩
  step := by
    intro A E i v s F hu hi hv ⟨S, n, M, mem, len⟩ old fin
    obtain ⟨x, hx, hr⟩ := strs_at hit (i := i) (v := v) (by rw [Array.getElem?_toList]; exact hv)
    have tk : ss.take (i + 1) = ss.take i ++ [x] := by rw [List.take_succ, hx] <;> rfl
    have small : i < ss.length := (List.getElem?_eq_some_iff.mp hx).1
    have hkey : (mixKind P w).is (Sum.inr x) v = true := kV_is (k := Sum.inr x) hr
    have hsc : v.scannable = true := key_scan (k := Sum.inr x) hr
    unfold setAdd
    refine wpAny_holding (wpAny_bind ((mixKind P w).pyHash hkey ?_))
    refine VS.add_hashedM (s := { s with toks := s.toks + 1 }) hkey hsc M (by omega) fun h' sb M' => fin _ h' 1 sb ⟨_, _, M', fun k => ?_, ?_⟩
    · rw [Bool.or_eq_true, decide_eq_true_eq, mem, tk]
      constructor
      · rintro (⟨y, hy, e⟩ | e)
        · exact ⟨y, List.mem_append_left _ hy, e⟩
        · exact ⟨x, List.mem_append_right _ (List.mem_singleton.mpr rfl), e⟩
      · rintro ⟨y, hy, e⟩
        rcases List.mem_append.mp hy with z | z
        · exact .inl ⟨y, z, e⟩
        · rw [List.mem_singleton.mp z] at e; exact .inr e
    · split <;> omega
theorem noneS (ss : List Str) : ∀ k : Key, (fun _ : Key => false) k = true ↔ ∃ x ∈ ss.take 0, k = Sum.inr x := fun k => ⟨fun z => Bool.noConfusion z, fun ⟨x, z, _⟩ => absurd z (by rw [List.take_zero]; exact List.not_mem_nil)⟩
def rSetS (K : PySem.W.Frag) (w : World) : List V → Hp → VK → Prop := fun xs H Q => ∃ (l : Addr) (ss : List Str), xs = [V.ref l] ∧ SqL K H l (ss.map V.str) ∧ ss.length + 1 < scanBound ∧
  ∀ (a : Addr) (S : Key → Bool) (n : Nat), H a = none → (∀ k, S k = true ↔ ∃ x ∈ ss, k = Sum.inr x) → n ≤ ss.length → Q (.ref a) (upd H a (VS.SetMO w a S n))
theorem cr_setS {X : Cx} {K : PySem.W.Frag} {w : World} (hK : X.K = K) (hw : X.w = w) (hc : X.calm = true) (hu : X.A.units + 3 < cLine) : CallR X (.type "set") (rSetS K w) := by
  subst hK
  subst hw
  intro pins s σ H xs us Q I r h
  obtain ⟨l, ss, rfl, hS, few, q⟩ := h
  obtain ⟨its, rv, hl, hz⟩ := I.list hS
  rw [Vals.ref1 r]
  have szs : its.toArray.size = ss.length := by rw [List.size_toArray, ← rv.length, List.length_map]
  refine VT.set_of_list (I.ok.hd hc) hl.isList hu (MidS X.prog X.w s.heap.objs.size ss) (midS_adds ss (by simpa using rv) few) (fun h' e _ => ⟨fun _ => false, 0, ?_, noneS ss, Nat.zero_le _⟩) fun h' tk j old => ?_
  · refine ⟨_, #[], 0, _, e, ⟨rfl, rfl, rfl⟩, rfl, (fun e he => by simp at he), (by simp), (fun k => by simp), (by decide), (by rfl), rfl, List.Pairwise.nil, ?_⟩
    show _ ∨ (!X.w.params.followText "set-order") = true
    cases X.w.params.followText "set-order"
    · exact .inr rfl
    · exact .inl rfl
  rw [szs] at j
  obtain ⟨S, n, M, mem, len⟩ := j
  rw [List.take_length] at mem
  have fr : H s.heap.objs.size = none := I.hok.fresh (Nat.le_refl _)
  exact ⟨.ref _, upd H s.heap.objs.size (VS.SetMO X.w s.heap.objs.size S n), I.laid (t' := tk) old (Nat.le_refl _) (VS.setMO_new (P := X.prog) M), rfl, q _ S n fr mem len⟩
/-! d.setdefault(t, e), t a tuple of ints and texts -/
section
variable {X : Cx} {o e f : Expr} {td ty tx : TE} {apos cpos : Pos}
def tSetdT (td ty tx : TE) : TE := fun σ H Q => td σ H fun x H1 => ∃ a, x = .ref a ∧ IsD H1 a ∧ ty σ H1 fun y H2 => tx σ H2 fun z H3 => ∃ (kvs : List (List Key × V)) (k : List Key) (b : Addr), H3 a = some (.dT kvs) ∧ y = .ref b ∧ H3 b = some (.tup (k.map kV)) ∧
  kvs.length < sizeLine ∧ (∀ v, valV kvs k = some v → Q v H3) ∧ (valV kvs k = none → Q z (upd H3 a (.dT (putK kvs k z))))
theorem pe_setdT (hu : X.A.units + 1 < cLine) (ho : PE X o td) (he : PE X e ty) (hf : PE X f tx) (m : M2 X o "setdefault" apos e f cpos) : PE X (.Call (.Attribute o "setdefault" apos) [e, f] [] cpos) (tSetdT td ty tx) := by
  refine ⟨fun pins s σ H Q I h => ?_⟩
  refine wpAny_Call_method m.base m.few m.line PySem.F.plainAttrs_dict PySem.F.slot_dict_setdefault PySem.F.type_dict_setdefault (thn (ho.run pins s σ H _ I h) fun u s1 ⟨x, H1, I1, rx, a, ex, d, q1⟩ => ?_)
  subst ex
  obtain rfl : u = Value.ref a := rx
  obtain ⟨t1, t2, _⟩ := isD_at I1 d
  refine ⟨t1, t2, ?_⟩
  rw [m.trees]
  refine Calls.callWith_builtin rfl (Calls.evalArgs_plain (Calls.spliced_cons (thn (he.run pins s1 σ H1 _ I1 q1) fun iv s2 ⟨y, H2, I2, ry, q2⟩ =>
    Calls.spliced_cons (thn (hf.run pins s2 σ H2 _ I2 q2) fun fv s3 ⟨z, H3, I3, rz, kvs, k, b, ea, ey, eb, hl, q3, q4⟩ => Calls.spliced_nil ?_))))
  subst ey
  obtain rfl : iv = Value.ref b := ry
  obtain ⟨len, low, xs, kt, dh⟩ := dt_of I3.hok ea
  have room : X.A.in1.units < cLine := by
    show X.A.units + 1 < cLine
    exact hu
  refine PySem.call_setdefault_heap (knd := tupleKind (mixKind X.prog X.w)) room (key_of I3.hok eb) low dh (fun p hp => ?_) (fun hn h' dh' sb => ?_) (by rw [← kt.length]; exact len)
  · have g := kt.val k
    rw [hp] at g
    cases c : valV kvs k with
    | none => rw [c] at g; exact (show False from g).elim
    | some v => rw [c] at g; exact ⟨v, H3, I3.tok _, g, q3 v c⟩
  · have g := kt.val k
    rw [hn] at g
    cases c : valV kvs k with
    | some v => rw [c] at g; exact (show False from g).elim
    | none =>
      have l2 : (putK kvs k z).length ≤ sizeLine := by
        have := length_putK kvs k z
        omega
      obtain ⟨q, es, ep, hq, g1, g2, g3, _, g4⟩ := dh'
      refine ⟨z, _, d_write (ob := .dT (putK kvs k z)) I3 (by rw [ea]; exact True.intro) sb ⟨q, hq⟩ ⟨l2, low, _, (kt.put k eb rz).keeps fun c ys ec => ?_, q, es, ep, hq, g1, g2, g3, g4⟩, rz, q4 c⟩
      rw [upd_ne (ne_of ec ea (fun z => nomatch z))]
      exact ec
end
end VO

set_option Elab.async false
set_option linter.all false
set_option maxRecDepth 100000
set_option maxHeartbeats 4000000
namespace VM
open PySem PySem.Spec PyProof.Rows L2 LamX NdefX VB
/-! edges and their order -/
abbrev Ed := Int × Str × Int
abbrev Pr := Str × Int
def edV (e : Ed) : List V := [.int e.1, .str e.2.1, .int e.2.2]
def edK (e : Ed) : List Key := [.inl e.1, .inr e.2.1, .inl e.2.2]
def edD (e : Ed) : PyData := .tuple [.int e.1, .str e.2.1, .int e.2.2]
def pqV (e : Pr) : List V := [.str e.1, .int e.2]
def pqD (e : Pr) : PyData := .tuple [.str e.1, .int e.2]
def sLt (a b : Str) : Prop := a.cps.toList < b.cps.toList
instance (a b : Str) : Decidable (sLt a b) := inferInstanceAs (Decidable (a.cps.toList < b.cps.toList))
def ltP (a b : Pr) : Prop := sLt a.1 b.1 ∨ (a.1 = b.1 ∧ a.2 < b.2)
instance (a b : Pr) : Decidable (ltP a b) := inferInstanceAs (Decidable (_ ∨ _))
def ltE (a b : Ed) : Prop := a.1 < b.1 ∨ (a.1 = b.1 ∧ ltP a.2 b.2)
instance (a b : Ed) : Decidable (ltE a b) := inferInstanceAs (Decidable (_ ∨ _))
theorem sLt_irrefl (a : Str) : ¬ sLt a a := List.lt_irrefl _
theorem sLt_trans {a b c : Str} (h : sLt a b) (g : sLt b c) : sLt a c := List.lt_trans h g
theorem sLt_tri {a b : Str} (h : ¬ sLt a b) (g : ¬ sLt b a) : a = b :=
  PyProof.Rows.ext_toList (List.le_antisymm (List.not_lt.mp g) (List.not_lt.mp h))
theorem ltP_irrefl (a : Pr) : ¬ ltP a a := fun z => z.elim (sLt_irrefl _) fun z => Int.lt_irrefl _ z.2
theorem ltP_trans {a b c : Pr} (h : ltP a b) (g : ltP b c) : ltP a c := by
  rcases h with h | ⟨h1, h2⟩
  · rcases g with g | ⟨g1, g2⟩
    · exact .inl (sLt_trans h g)
    · exact .inl (g1 ▸ h)
  · rcases g with g | ⟨g1, g2⟩
    · exact .inl (h1 ▸ g)
    · exact .inr ⟨h1.trans g1, Int.lt_trans h2 g2⟩
theorem ltP_tri {a b : Pr} (h : ¬ ltP a b) (g : ¬ ltP b a) : a = b := by
  have e1 : a.1 = b.1 := sLt_tri (fun z => h (.inl z)) fun z => g (.inl z)
  have h2 : ¬ a.2 < b.2 := fun z => h (.inr ⟨e1, z⟩)
  have g2 : ¬ b.2 < a.2 := fun z => g (.inr ⟨e1.symm, z⟩)
  exact Prod.ext e1 (by omega)
theorem ltE_irrefl (a : Ed) : ¬ ltE a a := fun z => z.elim (Int.lt_irrefl _) fun z => ltP_irrefl _ z.2
theorem ltE_trans {a b c : Ed} (h : ltE a b) (g : ltE b c) : ltE a c := by
  rcases h with h | ⟨h1, h2⟩
  · rcases g with g | ⟨g1, g2⟩
    · exact .inl (Int.lt_trans h g)
    · exact .inl (g1 ▸ h)
  · rcases g with g | ⟨g1, g2⟩
    · exact .inl (h1 ▸ g)
    · exact .inr ⟨h1.trans g1, ltP_trans h2 g2⟩
theorem ltE_tri {a b : Ed} (h : ¬ ltE a b) (g : ¬ ltE b a) : a = b := by
  have h1 : ¬ a.1 < b.1 := fun z => h (.inl z)
  have g1 : ¬ b.1 < a.1 := fun z => g (.inl z)
  have e1 : a.1 = b.1 := by omega
  exact Prod.ext e1 (ltP_tri (fun z => h (.inr ⟨e1, z⟩)) fun z => g (.inr ⟨e1.symm, z⟩))
/-- a list without repetition, ascending, is told by its members -/
theorem asc_unique {α : Type} {lt : α → α → Prop} (ir : ∀ a, ¬ lt a a) (tr : ∀ a b c, lt a b → lt b c → lt a c) : ∀ {l m : List α}, l.Pairwise lt → m.Pairwise lt → (∀ x, x ∈ l ↔ x ∈ m) → l = m
  | [], [], _, _, _ => rfl
  | [], b :: m, _, _, h => absurd ((h b).2 List.mem_cons_self) List.not_mem_nil
  | a :: l, [], _, _, h => absurd ((h a).1 List.mem_cons_self) List.not_mem_nil
  | a :: l, b :: m, hl, hm, h => by
    obtain ⟨l1, l2⟩ := List.pairwise_cons.mp hl
    obtain ⟨m1, m2⟩ := List.pairwise_cons.mp hm
    have e : a = b := by
      rcases List.mem_cons.mp ((h a).1 List.mem_cons_self) with z | z
      · exact z
      · rcases List.mem_cons.mp ((h b).2 List.mem_cons_self) with y | y
        · exact y.symm
        · exact absurd (tr _ _ _ (l1 b y) (m1 a z)) (ir a)
    subst e
    rw [asc_unique ir tr l2 m2 fun x => ?_]
    constructor
    · intro z
      rcases List.mem_cons.mp ((h x).1 (List.mem_cons_of_mem _ z)) with y | y
      · exact absurd (l1 x z) (y ▸ ir a)
      · exact y
    · intro z
      rcases List.mem_cons.mp ((h x).2 (List.mem_cons_of_mem _ z)) with y | y
      · exact absurd (m1 x z) (y ▸ ir a)
      · exact y
theorem ascE {l m : List Ed} (hl : l.Pairwise ltE) (hm : m.Pairwise ltE) (h : ∀ x, x ∈ l ↔ x ∈ m) : l = m := asc_unique ltE_irrefl (fun _ _ _ => ltE_trans) hl hm h
theorem ascP {l m : List Pr} (hl : l.Pairwise ltP) (hm : m.Pairwise ltP) (h : ∀ x, x ∈ l ↔ x ∈ m) : l = m := asc_unique ltP_irrefl (fun _ _ _ => ltP_trans) hl hm h
/-! the order of the data -/
theorem dataLt_pr (a b : Pr) : PySem.W.dataLt (pqD a) (pqD b) = decide (ltP a b) := by
  unfold pqD
  rw [PySem.W.dataLt_pair rfl rfl, PySem.W.dataLt_str]
  by_cases e : a.1 = b.1
  · rw [if_pos (by rw [e]; simp [PyData.eqv])]
    by_cases e2 : a.2 = b.2
    · rw [if_pos (by rw [e2]; simp [PyData.eqv])]
      refine (decide_eq_false fun z => ?_).symm
      rcases z with z | z
      · rw [e] at z; exact sLt_irrefl _ z
      · omega
    · rw [if_neg (by simp [PyData.eqv, e2]), PySem.W.dataLt_int]
      refine decide_eq_decide.mpr ⟨fun z => .inr ⟨e, z⟩, fun z => ?_⟩
      rcases z with z | z
      · rw [e] at z; exact absurd z (sLt_irrefl _)
      · exact z.2
  · rw [if_neg (by simp [PyData.eqv, e])]
    refine decide_eq_decide.mpr ⟨fun z => .inl z, fun z => ?_⟩
    rcases z with z | z
    · exact z
    · exact absurd z.1 e
theorem dataLt_ed (a b : Ed) : PySem.W.dataLt (edD a) (edD b) = decide (ltE a b) := by
  have h2 : PySem.W.dataLt (pqD a.2) (pqD b.2) = decide (ltP a.2 b.2) := dataLt_pr a.2 b.2
  unfold pqD at h2
  rw [PySem.W.dataLt_tuple] at h2
  unfold edD
  rw [PySem.W.dataLt_tuple, PySem.W.dataLt_cons rfl, h2, PySem.W.dataLt_int]
  by_cases e : a.1 = b.1
  · rw [if_pos (by rw [e]; simp [PyData.eqv])]
    refine decide_eq_decide.mpr ⟨fun z => .inr ⟨e, z⟩, fun z => ?_⟩
    rcases z with z | z
    · omega
    · exact z.2
  · rw [if_neg (by simp [PyData.eqv, e])]
    refine decide_eq_decide.mpr ⟨fun z => .inl z, fun z => ?_⟩
    rcases z with z | z
    · exact z
    · exact absurd z.1 e
/-- what sorting leaves of distinct items: ascending -/
theorem asc_of_sorted {α : Type} {lt : α → α → Prop} [DecidableRel lt] (tri : ∀ a b, ¬ lt a b → ¬ lt b a → a = b) {le : α → α → Bool} (hle : ∀ a b, le a b = !decide (lt b a)) (tr : ∀ a b c, lt a b → lt b c → lt a c) (ir : ∀ a, ¬ lt a a)
    {l : List α} (nd : l.Nodup) : (l.mergeSort le).Pairwise lt := by
  have tot : ∀ a b, (le a b || le b a) = true := by
    intro a b
    rw [hle, hle, Bool.or_eq_true, Bool.not_eq_true', Bool.not_eq_true', decide_eq_false_iff_not, decide_eq_false_iff_not]
    by_cases h : lt b a
    · exact .inr fun z => ir a (tr _ _ _ z h)
    · exact .inl h
  have trn : ∀ a b c, le a b = true → le b c = true → le a c = true := by
    intro a b c h g
    rw [hle, Bool.not_eq_true', decide_eq_false_iff_not] at *
    intro z
    by_cases e : lt a b
    · exact g (tr _ _ _ z e)
    · rw [tri a b e h] at z
      exact g z
  have p1 := List.pairwise_mergeSort (le := le) trn tot l
  have nd2 : (l.mergeSort le).Nodup := (List.mergeSort_perm l le).nodup_iff.mpr nd
  refine (p1.and nd2).imp fun {a b} ⟨h, n⟩ => ?_
  rw [hle, Bool.not_eq_true', decide_eq_false_iff_not] at h
  by_cases e : lt a b
  · exact e
  · exact absurd (tri a b e h) n
/-! the edges that leave a state -/
def leav (E : List Ed) (s : Int) : List Pr := (E.filter fun e => decide (e.1 = s)).map (·.2)
theorem leav_mem {E : List Ed} {s : Int} {p : Pr} : p ∈ leav E s ↔ (s, p) ∈ E := by
  unfold leav
  rw [List.mem_map]
  constructor
  · rintro ⟨e, he, rfl⟩
    obtain ⟨h1, h2⟩ := List.mem_filter.mp he
    rw [← of_decide_eq_true h2]
    exact h1
  · intro h
    exact ⟨(s, p), List.mem_filter.mpr ⟨h, decide_eq_true rfl⟩, rfl⟩
theorem leav_asc {E : List Ed} (h : E.Pairwise ltE) (s : Int) : (leav E s).Pairwise ltP := by
  unfold leav
  rw [List.pairwise_map]
  refine (h.filter _).imp_of_mem fun {a b} ha hb z => ?_
  have e1 := of_decide_eq_true (List.mem_filter.mp ha).2
  have e2 := of_decide_eq_true (List.mem_filter.mp hb).2
  rcases z with z | z
  · omega
  · exact z.2
theorem leav_snoc (E : List Ed) (e : Ed) (s : Int) : leav (E ++ [e]) s = if e.1 = s then leav E s ++ [e.2] else leav E s := by
  unfold leav
  rw [List.filter_append, List.map_append]
  by_cases h : e.1 = s
  · rw [if_pos h, List.filter_cons_of_pos (by simpa using h)]; rfl
  · rw [if_neg h, List.filter_cons_of_neg (by simpa using h)]; simp
/-- the states' edges are no more than all -/
theorem leav_sum : ∀ (E : List Ed) (ss : List Int), ss.Nodup → (ss.map fun s => (leav E s).length).sum ≤ E.length
  | [], ss, _ => by
    have z : ss.map (fun s => (leav [] s).length) = ss.map fun _ => 0 := rfl
    rw [z]
    have g : ∀ l : List Int, (l.map fun _ => 0).sum = 0 := by
      intro l
      induction l with
      | nil => rfl
      | cons x l ih => rw [List.map_cons, List.sum_cons, ih]
    rw [g]
    exact Nat.le_refl _
  | e :: E, ss, nd => by
    have ih := leav_sum E ss nd
    have g : ∀ l : List Int, l.Nodup → (l.map fun s => (leav (e :: E) s).length).sum ≤ (l.map fun s => (leav E s).length).sum + (if e.1 ∈ l then 1 else 0) := by
      intro l
      induction l with
      | nil => intro _; exact Nat.zero_le _
      | cons x l ih =>
        intro hn
        obtain ⟨n1, n2⟩ := List.nodup_cons.mp hn
        have ih2 := ih n2
        rw [List.map_cons, List.sum_cons, List.map_cons, List.sum_cons]
        by_cases h : e.1 = x
        · have e1 : (leav (e :: E) x).length = (leav E x).length + 1 := by
            unfold leav
            rw [List.filter_cons_of_pos (by simpa using h), List.map_cons, List.length_cons]
          rw [e1, if_pos (h ▸ List.mem_cons_self)]
          rw [if_neg (h ▸ n1)] at ih2
          omega
        · have e1 : (leav (e :: E) x).length = (leav E x).length := by
            unfold leav
            rw [List.filter_cons_of_neg (by simpa using h)]
          rw [e1]
          have e2 : (e.1 ∈ x :: l) = (e.1 ∈ l) := by
            rw [List.mem_cons]
            exact propext ⟨fun z => z.elim (fun y => absurd y h) id, .inr⟩
          simp only [e2]
          omega
    have z := g ss nd
    rw [List.length_cons]
    split at z <;> omega
/-! numbering: the states in their new order, the edges so far -/
abbrev Bs := List Int × List Ed
def ix (o : List Int) (t : Int) : Int := (o.idxOf t : Nat)
def see (o : List Int) (t : Int) : List Int := if t ∈ o then o else o ++ [t]
def visit (k : Nat) : List Pr → Bs → Bs
  | [], st => st
  | p :: r, (o, f) => visit k r (see o p.2, f ++ [((k : Int), p.1, ix (see o p.2) p.2)])
def step (E : List Ed) (k : Nat) (st : Bs) : Bs := match st.1[k]? with
  | some s => visit k (leav E s) st
  | none => st
def runB (E : List Ed) (start : Int) : Nat → Bs
  | 0 => ([start], [])
  | k + 1 => step E k (runB E start k)
theorem see_mem (o : List Int) (t : Int) : t ∈ see o t := by
  unfold see
  by_cases h : t ∈ o
  · rw [if_pos h]; exact h
  · rw [if_neg h]; simp
theorem see_sub {o : List Int} {t x : Int} (h : x ∈ o) : x ∈ see o t := by
  unfold see
  split
  · exact h
  · exact List.mem_append_left _ h
theorem see_nodup {o : List Int} (h : o.Nodup) (t : Int) : (see o t).Nodup := by
  unfold see
  by_cases q : t ∈ o
  · rw [if_pos q]; exact h
  · rw [if_neg q]
    exact List.nodup_append.mpr ⟨h, by simp, fun a ha b hb => by rw [List.mem_singleton.mp hb]; intro e; exact q (e ▸ ha)⟩
theorem see_pre (o : List Int) (t : Int) : ∃ r, see o t = o ++ r := by
  unfold see
  split
  · exact ⟨[], by simp⟩
  · exact ⟨_, rfl⟩
theorem visit_pre (k : Nat) : ∀ (l : List Pr) (st : Bs), ∃ r g, visit k l st = (st.1 ++ r, st.2 ++ g)
  | [], st => ⟨[], [], by simp [visit]⟩
  | p :: l, (o, f) => by
    obtain ⟨r1, e1⟩ := see_pre o p.2
    obtain ⟨r, g, e⟩ := visit_pre k l (see o p.2, f ++ [((k : Int), p.1, ix (see o p.2) p.2)])
    refine ⟨r1 ++ r, [((k : Int), p.1, ix (see o p.2) p.2)] ++ g, ?_⟩
    show visit k l _ = _
    rw [e, e1]
    simp [List.append_assoc]
theorem visit_len (k : Nat) : ∀ (l : List Pr) (st : Bs), (visit k l st).2.length = st.2.length + l.length
  | [], st => rfl
  | p :: l, (o, f) => by
    show (visit k l _).2.length = _
    rw [visit_len k l, List.length_append, List.length_singleton, List.length_cons]
    show f.length + 1 + l.length = f.length + (l.length + 1)
    omega
theorem visit_nodup (k : Nat) : ∀ (l : List Pr) (st : Bs), st.1.Nodup → (visit k l st).1.Nodup
  | [], st, h => h
  | p :: l, (o, f), h => visit_nodup k l _ (see_nodup h p.2)
theorem visit_mem (k : Nat) : ∀ (l : List Pr) (st : Bs) (x : Int), x ∈ (visit k l st).1 ↔ x ∈ st.1 ∨ ∃ p ∈ l, p.2 = x
  | [], st, x => ⟨.inl, fun z => z.elim id fun ⟨_, y, _⟩ => absurd y List.not_mem_nil⟩
  | p :: l, (o, f), x => by
    show x ∈ (visit k l _).1 ↔ _
    rw [visit_mem k l]
    show x ∈ see o p.2 ∨ _ ↔ _
    have e : x ∈ see o p.2 ↔ x ∈ o ∨ p.2 = x := by
      constructor
      · intro h
        unfold see at h
        split at h
        · exact .inl h
        · rcases List.mem_append.mp h with z | z
          · exact .inl z
          · exact .inr (List.mem_singleton.mp z).symm
      · rintro (h | h)
        · exact see_sub h
        · exact h ▸ see_mem o p.2
    rw [e]
    constructor
    · rintro ((h | h) | ⟨q, hq, h⟩)
      · exact .inl h
      · exact .inr ⟨p, List.mem_cons_self, h⟩
      · exact .inr ⟨q, List.mem_cons_of_mem _ hq, h⟩
    · rintro (h | ⟨q, hq, h⟩)
      · exact .inl (.inl h)
      · rcases List.mem_cons.mp hq with rfl | z
        · exact .inl (.inr h)
        · exact .inr ⟨q, z, h⟩
end VM

set_option Elab.async false
set_option linter.all false
set_option maxRecDepth 100000
set_option maxHeartbeats 4000000
namespace VM
open PySem PySem.Spec PyProof.Rows L2 LamX NdefX VB
theorem ix_app {o : List Int} {t : Int} (h : t ∈ o) (r : List Int) : ix (o ++ r) t = ix o t := by
  unfold ix
  rw [List.idxOf_append, if_pos h]
theorem ix_lt {o : List Int} {t : Int} (h : t ∈ o) : 0 ≤ ix o t ∧ ix o t < (o.length : Nat) := by
  unfold ix
  have := List.idxOf_lt_length_iff.mpr h
  omega
theorem ix_at {o : List Int} (nd : o.Nodup) {i : Nat} {t : Int} (h : o[i]? = some t) : ix o t = (i : Nat) := by
  unfold ix
  obtain ⟨hi, e⟩ := List.getElem?_eq_some_iff.mp h
  have := nd.idxOf_getElem i hi
  rw [e] at this
  rw [this]
theorem ix_get {o : List Int} {t : Int} (h : t ∈ o) : o[(ix o t).toNat]? = some t := by
  unfold ix
  have hl := List.idxOf_lt_length_iff.mpr h
  rw [Int.toNat_natCast, List.getElem?_eq_getElem hl, List.getElem_idxOf hl]
/-- the edges that a visit writes, by the states behind it -/
theorem visit_edges (k : Nat) : ∀ (l : List Pr) (st : Bs) (e : Ed), e ∈ (visit k l st).2 ↔ e ∈ st.2 ∨ ∃ p ∈ l, e = ((k : Int), p.1, ix (visit k l st).1 p.2)
  | [], st, e => ⟨.inl, fun z => z.elim id fun ⟨_, y, _⟩ => absurd y List.not_mem_nil⟩
  | p :: l, (o, f), e => by
    show e ∈ (visit k l (see o p.2, f ++ [((k : Int), p.1, ix (see o p.2) p.2)])).2 ↔ _ ∨ ∃ q ∈ p :: l, e = ((k : Int), q.1, ix (visit k l (see o p.2, f ++ [((k : Int), p.1, ix (see o p.2) p.2)])).1 q.2)
    rw [visit_edges k l]
    obtain ⟨r, g, er⟩ := visit_pre k l (see o p.2, f ++ [((k : Int), p.1, ix (see o p.2) p.2)])
    have e1 : ix (visit k l (see o p.2, f ++ [((k : Int), p.1, ix (see o p.2) p.2)])).1 p.2 = ix (see o p.2) p.2 := by
      rw [er]; exact ix_app (see_mem o p.2) r
    constructor
    · rintro (h | ⟨q, hq, h⟩)
      · rcases List.mem_append.mp h with z | z
        · exact .inl z
        · exact .inr ⟨p, List.mem_cons_self, by rw [e1]; exact List.mem_singleton.mp z⟩
      · exact .inr ⟨q, List.mem_cons_of_mem _ hq, h⟩
    · rintro (h | ⟨q, hq, h⟩)
      · exact .inl (List.mem_append_left _ h)
      · rcases List.mem_cons.mp hq with rfl | z
        · rw [e1] at h
          exact .inl (List.mem_append_right _ (List.mem_singleton.mpr h))
        · exact .inr ⟨q, z, h⟩
/-- what the numbering has after k states -/
structure Numb (E : List Ed) (n : Int) (k : Nat) (st : Bs) : Prop where
  nd : st.1.Nodup
  low : ∀ x ∈ st.1, 0 ≤ x ∧ x < n
  le : k ≤ st.1.length
  len : st.2.length = ((st.1.take k).map fun s => (leav E s).length).sum
  mem : ∀ e, e ∈ st.2 ↔ ∃ i s, i < k ∧ st.1[i]? = some s ∧ ∃ p ∈ leav E s, e = ((i : Int), p.1, ix st.1 p.2)
  has : ∀ i s, i < k → st.1[i]? = some s → ∀ p ∈ leav E s, p.2 ∈ st.1
theorem numb0 (E : List Ed) {n : Int} (h : 0 < n) : Numb E n 0 ([0], []) :=
  ⟨by simp, fun x hx => by rw [List.mem_singleton.mp hx]; omega, Nat.zero_le _, rfl, fun e => ⟨fun z => absurd z List.not_mem_nil, fun ⟨i, _, z, _⟩ => absurd z (Nat.not_lt_zero _)⟩, fun i _ z => absurd z (Nat.not_lt_zero _)⟩
theorem numb_step {E : List Ed} {n : Int} {k : Nat} {st : Bs} {s : Int} (N : Numb E n k st) (hs : st.1[k]? = some s) (ok : ∀ e ∈ E, 0 ≤ e.2.2 ∧ e.2.2 < n) : Numb E n (k + 1) (visit k (leav E s) st) := by
  obtain ⟨r, g, e⟩ := visit_pre k (leav E s) st
  have hk : k < st.1.length := (List.getElem?_eq_some_iff.mp hs).1
  have e1 : (visit k (leav E s) st).1 = st.1 ++ r := by rw [e]
  have old : ∀ {i : Nat} {x : Int}, i < k + 1 → ((visit k (leav E s) st).1[i]? = some x ↔ st.1[i]? = some x) := by
    intro i x hi
    rw [e1, List.getElem?_append_left (by omega)]
  have all : ∀ p ∈ leav E s, p.2 ∈ (visit k (leav E s) st).1 := fun p hp => (visit_mem k _ st p.2).2 (.inr ⟨p, hp, rfl⟩)
  refine ⟨visit_nodup k _ st N.nd, fun x hx => ?_, by rw [e1, List.length_append]; omega, ?_, fun e' => ?_, fun i x hi hx p hp => ?_⟩
  · rcases (visit_mem k _ st x).1 hx with z | ⟨p, hp, rfl⟩
    · exact N.low x z
    · exact ok _ (leav_mem.1 hp)
  · have t1 : (visit k (leav E s) st).1.take (k + 1) = st.1.take k ++ [s] := by
      rw [e1, List.take_append_of_le_length (by omega), List.take_succ, hs] <;> rfl
    rw [visit_len, t1, N.len, List.map_append, List.sum_append]
    simp
  · rw [visit_edges, N.mem]
    constructor
    · rintro (⟨i, x, hi, hx, p, hp, he⟩ | ⟨p, hp, he⟩)
      · refine ⟨i, x, by omega, (old (by omega)).2 hx, p, hp, ?_⟩
        rw [he, e1, ix_app (N.has i x hi hx p hp)]
      · exact ⟨k, s, by omega, (old (by omega)).2 hs, p, hp, he⟩
    · rintro ⟨i, x, hi, hx, p, hp, he⟩
      have hx2 := (old hi).1 hx
      rcases Nat.lt_or_ge i k with z | z
      · refine .inl ⟨i, x, z, hx2, p, hp, ?_⟩
        rw [he, e1, ix_app (N.has i x z hx2 p hp)]
      · obtain rfl : i = k := by omega
        rw [hs] at hx2
        obtain rfl := Option.some.inj hx2
        exact .inr ⟨p, hp, he⟩
  · have hx2 := (old hi).1 hx
    rcases Nat.lt_or_ge i k with z | z
    · rw [e1]; exact List.mem_append_left _ (N.has i x z hx2 p hp)
    · obtain rfl : i = k := by omega
      rw [hs] at hx2
      obtain rfl := Option.some.inj hx2
      exact all p hp
theorem low_len {o : List Int} {n : Int} (nd : o.Nodup) (low : ∀ x ∈ o, 0 ≤ x ∧ x < n) (hn : 0 ≤ n) : (o.length : Int) ≤ n := by
  have nd2 : (o.map Int.toNat).Nodup := by
    refine List.nodup_iff_pairwise_ne.mpr ?_
    rw [List.pairwise_map]
    refine (List.nodup_iff_pairwise_ne.mp nd).imp_of_mem fun {a b} ha hb h e => h ?_
    have := low a ha
    have := low b hb
    omega
  have z := nat_nodup_len (o.map Int.toNat) (List.range n.toNat) nd2 fun x hx => by
    obtain ⟨y, hy, rfl⟩ := List.mem_map.mp hx
    have := low y hy
    rw [List.mem_range]
    omega
  rw [List.length_map, List.length_range] at z
  omega
theorem Numb.few {E : List Ed} {n : Int} {k : Nat} {st : Bs} (N : Numb E n k st) : st.2.length ≤ E.length := by
  rw [N.len]
  exact leav_sum E _ (N.nd.sublist (List.take_sublist _ _))
/-! the run -/
theorem runB_numb {E : List Ed} {n : Int} (hn : 0 < n) (ok : ∀ e ∈ E, 0 ≤ e.2.2 ∧ e.2.2 < n) : ∀ k, k ≤ (runB E 0 k).1.length → Numb E n k (runB E 0 k)
  | 0, _ => numb0 E hn
  | k + 1, h => by
    have e : runB E 0 (k + 1) = step E k (runB E 0 k) := rfl
    rw [e] at h ⊢
    unfold step at h ⊢
    cases c : (runB E 0 k).1[k]? with
    | none =>
      rw [c] at h
      have z := List.getElem?_eq_none_iff.mp c
      have y : k + 1 ≤ (runB E 0 k).1.length := h
      omega
    | some s =>
      have lt := (List.getElem?_eq_some_iff.mp c).1
      exact numb_step (runB_numb hn ok k (by omega)) c ok
theorem runB_stop {E : List Ed} {k : Nat} (h : (runB E 0 k).1.length ≤ k) : ∀ j, runB E 0 (k + j) = runB E 0 k
  | 0 => rfl
  | j + 1 => by
    have e : runB E 0 (k + (j + 1)) = step E (k + j) (runB E 0 (k + j)) := rfl
    rw [e, runB_stop h j]
    unfold step
    rw [List.getElem?_eq_none (by omega)]
/-- a run that has come to its end -/
structure Done (E : List Ed) (n : Int) (st : Bs) : Prop where
  at_ : runB E 0 st.1.length = st
  nb : Numb E n st.1.length st
/-! renumbering what is numbered changes nothing -/
def rng (m : Nat) : List Int := (List.range m).map fun i => ((i : Nat) : Int)
theorem rng_mem {m : Nat} {x : Int} : x ∈ rng m ↔ 0 ≤ x ∧ x < (m : Nat) := by
  unfold rng
  rw [List.mem_map]
  constructor
  · rintro ⟨i, hi, rfl⟩
    rw [List.mem_range] at hi
    omega
  · rintro ⟨h1, h2⟩
    exact ⟨x.toNat, List.mem_range.mpr (by omega), by omega⟩
theorem rng_succ (m : Nat) : rng (m + 1) = rng m ++ [((m : Nat) : Int)] := by
  unfold rng
  rw [List.range_succ, List.map_append] <;> rfl
theorem rng_len (m : Nat) : (rng m).length = m := by
  unfold rng
  rw [List.length_map, List.length_range]
theorem rng_nodup (m : Nat) : (rng m).Nodup := by
  unfold rng
  refine List.nodup_iff_pairwise_ne.mpr ?_
  rw [List.pairwise_map]
  exact (List.nodup_iff_pairwise_ne.mp List.nodup_range).imp fun h e => h (by omega)
theorem rng_get {m i : Nat} (h : i < m) : (rng m)[i]? = some ((i : Nat) : Int) := by
  unfold rng
  rw [List.getElem?_map, List.getElem?_range h] <;> rfl
theorem rng_ix {m : Nat} {x : Int} (h : x ∈ rng m) : ix (rng m) x = x := by
  obtain ⟨h1, h2⟩ := rng_mem.1 h
  have := ix_at (rng_nodup m) (i := x.toNat) (t := x) (by rw [rng_get (by omega)]; congr 1; omega)
  rw [this]
  omega
theorem rng_eq {a b : Nat} (h : ∀ x, x ∈ rng a ↔ x ∈ rng b) : a = b := by
  rcases Nat.lt_trichotomy a b with z | z | z
  · have := (h (a : Nat)).2 (rng_mem.2 ⟨by omega, by omega⟩)
    have := (rng_mem.1 this).2
    omega
  · exact z
  · have := (h (b : Nat)).1 (rng_mem.2 ⟨by omega, by omega⟩)
    have := (rng_mem.1 this).2
    omega
/-- a new number comes behind all smaller new ones, whose actions are no greater -/
theorem visit_order (k m : Nat) (Q : List Pr) (fin : List Int) : ∀ (l : List Pr) (st : Bs), (∀ p ∈ l, p ∈ Q) → l.Pairwise ltP → (∃ r, fin = (visit k l st).1 ++ r) →
    (∀ c : Nat, m ≤ c → c < st.1.length → ∃ q' ∈ Q, ix fin q'.2 = (c : Nat) ∧ ∀ q ∈ l, ¬ sLt q.1 q'.1) →
    ∀ q ∈ l, ∀ c : Nat, m ≤ c → (c : Int) < ix fin q.2 → ∃ q' ∈ Q, ix fin q'.2 = (c : Nat) ∧ ¬ sLt q.1 q'.1
  | [], _, _, _, _, _, q, h => absurd h List.not_mem_nil
  | p :: l, (o, f), sub, asc, hfin, H, q, hq => by
    obtain ⟨r, er⟩ := hfin
    obtain ⟨p1, p2⟩ := List.pairwise_cons.mp asc
    have er' : fin = (visit k l (see o p.2, f ++ [((k : Int), p.1, ix (see o p.2) p.2)])).1 ++ r := er
    obtain ⟨r2, g2, e2⟩ := visit_pre k l (see o p.2, f ++ [((k : Int), p.1, ix (see o p.2) p.2)])
    have e3 : fin = see o p.2 ++ (r2 ++ r) := by rw [er', e2]; show see o p.2 ++ r2 ++ r = _; rw [List.append_assoc]
    have ip : ix fin p.2 = ix (see o p.2) p.2 := by rw [e3]; exact ix_app (see_mem o p.2) _
    have below : ix fin p.2 ≤ (o.length : Nat) := by
      rw [ip]
      have z := (ix_lt (see_mem o p.2)).2
      unfold see at z ⊢
      by_cases h : p.2 ∈ o
      · rw [if_pos h] at z ⊢; omega
      · rw [if_neg h, List.length_append, List.length_singleton] at z; rw [if_neg h]; omega
    rcases List.mem_cons.mp hq with rfl | hql
    · intro c h1 h2
      obtain ⟨q', z1, z2, z3⟩ := H c h1 (by show c < o.length; omega)
      exact ⟨q', z1, z2, z3 _ List.mem_cons_self⟩
    · refine visit_order k m Q fin l _ (fun x hx => sub x (List.mem_cons_of_mem _ hx)) p2 ⟨r, er'⟩ (fun c h1 h2 => ?_) q hql
      rcases Nat.lt_or_ge c o.length with z | z
      · obtain ⟨q', z1, z2, z3⟩ := H c h1 z
        exact ⟨q', z1, z2, fun x hx => z3 x (List.mem_cons_of_mem _ hx)⟩
      · have h2' : c < (see o p.2).length := h2
        have ho : p.2 ∉ o := fun y => by unfold see at h2'; rw [if_pos y] at h2'; omega
        have ec : c = o.length := by
          unfold see at h2'
          rw [if_neg ho, List.length_append, List.length_singleton] at h2'
          omega
        refine ⟨p, sub p List.mem_cons_self, ?_, fun x hx => ?_⟩
        · rw [ip]
          unfold see
          rw [if_neg ho]
          unfold ix
          rw [List.idxOf_append, if_neg ho]
          simp [ec]
        · intro y
          rcases p1 x hx with w | w
          · exact sLt_irrefl _ (sLt_trans w y)
          · rw [w.1] at y; exact sLt_irrefl _ y
/-- a visit in ascending order of numbered pairs numbers them as they are -/
theorem visit_rng (k m : Nat) (P : List Pr) (h0 : ∀ p ∈ P, 0 ≤ p.2) (h2 : ∀ p ∈ P, ∀ c : Nat, m ≤ c → (c : Int) < p.2 → ∃ p' ∈ P, p'.2 = (c : Nat) ∧ ¬ sLt p.1 p'.1) :
    ∀ (l pre : List Pr) (c : Nat) (f : List Ed), P = pre ++ l → P.Pairwise ltP → m ≤ c → (∀ p ∈ pre, p.2 < (c : Nat)) → ∃ c2, (visit k l (rng c, f)).1 = rng c2
  | [], pre, c, f, _, _, _, _ => ⟨c, rfl⟩
  | p :: l, pre, c, f, eP, asc, mc, old => by
    have hp : p ∈ P := by rw [eP]; simp
    have pos := h0 p hp
    by_cases h : p.2 < (c : Nat)
    · have e : see (rng c) p.2 = rng c := by
        unfold see
        rw [if_pos (rng_mem.2 ⟨pos, h⟩)]
      show ∃ c2, (visit k l (see (rng c) p.2, _)).1 = rng c2
      rw [e]
      refine visit_rng k m P h0 h2 l (pre ++ [p]) c _ (by rw [eP]; simp) asc mc fun x hx => ?_
      rcases List.mem_append.mp hx with z | z
      · exact old x z
      · rw [List.mem_singleton.mp z]; exact h
    · have ec : p.2 = (c : Nat) := by
        by_cases q : (c : Int) < p.2
        · obtain ⟨p', m1, m2, m3⟩ := h2 p hp c mc q
          exfalso
          rw [eP] at m1 asc
          rcases List.mem_append.mp m1 with w | w
          · have := old p' w; omega
          · rcases List.mem_cons.mp w with w | w
            · rw [w] at m2; omega
            · have lt := (List.pairwise_cons.mp (List.pairwise_append.mp asc).2.1).1 p' w
              rcases lt with y | y
              · exact m3 y
              · omega
        · omega
      have nin : p.2 ∉ rng c := fun z => h (rng_mem.1 z).2
      have e : see (rng c) p.2 = rng (c + 1) := by
        unfold see
        rw [if_neg nin, rng_succ, ec]
      show ∃ c2, (visit k l (see (rng c) p.2, _)).1 = rng c2
      rw [e]
      refine visit_rng k m P h0 h2 l (pre ++ [p]) (c + 1) _ (by rw [eP]; simp) asc (by omega) fun x hx => ?_
      rcases List.mem_append.mp hx with z | z
      · have := old x z; omega
      · rw [List.mem_singleton.mp z, ec]; omega
theorem runB_pre (E : List Ed) (k : Nat) : ∀ j, ∃ r, (runB E 0 (k + j)).1 = (runB E 0 k).1 ++ r
  | 0 => ⟨[], by simp⟩
  | j + 1 => by
    obtain ⟨r, e⟩ := runB_pre E k j
    have e1 : runB E 0 (k + (j + 1)) = step E (k + j) (runB E 0 (k + j)) := rfl
    rw [e1]
    unfold step
    cases c : (runB E 0 (k + j)).1[k + j]? with
    | none => exact ⟨r, e⟩
    | some s =>
      obtain ⟨r2, g, e2⟩ := visit_pre (k + j) (leav E s) (runB E 0 (k + j))
      exact ⟨r ++ r2, by show (visit _ _ _).1 = _; rw [e2, e, List.append_assoc]⟩
section
variable {E : List Ed} {n : Int} {st : Bs}
theorem Done.lt (D : Done E n st) {k : Nat} (h : k < st.1.length) : k < (runB E 0 k).1.length := by
  rcases Nat.lt_or_ge k (runB E 0 k).1.length with z | z
  · exact z
  · have e := runB_stop z (st.1.length - k)
    rw [Nat.add_sub_cancel' (Nat.le_of_lt h), D.at_] at e
    rw [← e] at z
    omega
theorem Done.pre (D : Done E n st) {k : Nat} (h : k ≤ st.1.length) : ∃ r, st.1 = (runB E 0 k).1 ++ r := by
  obtain ⟨r, e⟩ := runB_pre E k (st.1.length - k)
  rw [Nat.add_sub_cancel' h, D.at_] at e
  exact ⟨r, e⟩
variable {E1 : List Ed}
/-- the pairs that leave a new state -/
theorem Done.leav (D : Done E n st) (mem : ∀ e, e ∈ E1 ↔ e ∈ st.2) {k : Nat} {s : Int} (hs : st.1[k]? = some s) (p : Pr) :
    p ∈ VM.leav E1 ((k : Nat) : Int) ↔ ∃ q ∈ VM.leav E s, p = (q.1, ix st.1 q.2) := by
  rw [leav_mem, mem, D.nb.mem]
  constructor
  · rintro ⟨i, s', hi, hs', q, hq, e⟩
    have e1 : ((k : Nat) : Int) = ((i : Nat) : Int) := congrArg (fun z : Ed => z.1) e
    obtain rfl : i = k := by omega
    rw [hs] at hs'
    obtain rfl := Option.some.inj hs'
    exact ⟨q, hq, congrArg (fun z : Ed => z.2) e⟩
  · rintro ⟨q, hq, rfl⟩
    exact ⟨k, s, (List.getElem?_eq_some_iff.mp hs).1, hs, q, hq, rfl⟩
theorem Done.again_k (D : Done E n st) (aE : E.Pairwise ltE) (a1 : E1.Pairwise ltE) (mem : ∀ e, e ∈ E1 ↔ e ∈ st.2) : ∀ k, k ≤ st.1.length → (runB E1 0 k).1 = rng (runB E 0 k).1.length
  | 0, _ => rfl
  | k + 1, h => by
    have ih := D.again_k aE a1 mem k (by omega)
    have lt := D.lt (k := k) (by omega)
    obtain ⟨r1, e1⟩ := D.pre (k := k) (by omega)
    have hs : (runB E 0 k).1[k]? = some (runB E 0 k).1[k] := List.getElem?_eq_getElem lt
    generalize (runB E 0 k).1[k] = s at hs
    have hsf : st.1[k]? = some s := by rw [e1, List.getElem?_append_left lt]; exact hs
    have eE : runB E 0 (k + 1) = visit k (VM.leav E s) (runB E 0 k) := by
      show step E k (runB E 0 k) = _
      unfold step
      rw [hs]
    have e1k : (runB E1 0 k).1[k]? = some ((k : Nat) : Int) := by rw [ih]; exact rng_get lt
    have eE1 : runB E1 0 (k + 1) = visit k (VM.leav E1 ((k : Nat) : Int)) (runB E1 0 k) := by
      show step E1 k (runB E1 0 k) = _
      unfold step
      rw [e1k]
    obtain ⟨r2, e2⟩ := D.pre (k := k + 1) h
    rw [eE] at e2
    have ix2 : ∀ {t : Int}, t ∈ (visit k (VM.leav E s) (runB E 0 k)).1 → ix st.1 t = ix (visit k (VM.leav E s) (runB E 0 k)).1 t := fun ht => by rw [e2]; exact ix_app ht r2
    have nd2 : (visit k (VM.leav E s) (runB E 0 k)).1.Nodup := by
      have z := D.nb.nd
      rw [e2] at z
      exact (List.nodup_append.mp z).1
    have ord := visit_order k (runB E 0 k).1.length (VM.leav E s) st.1 (VM.leav E s) (runB E 0 k) (fun _ z => z) (leav_asc aE s) ⟨r2, e2⟩ (fun c c1 c2 => absurd c2 (by omega))
    have P0 : ∀ p ∈ VM.leav E1 ((k : Nat) : Int), 0 ≤ p.2 := fun p hp => by
      obtain ⟨q, _, rfl⟩ := (D.leav mem hsf p).1 hp
      unfold ix
      omega
    have P2 : ∀ p ∈ VM.leav E1 ((k : Nat) : Int), ∀ c : Nat, (runB E 0 k).1.length ≤ c → (c : Int) < p.2 → ∃ p' ∈ VM.leav E1 ((k : Nat) : Int), p'.2 = (c : Nat) ∧ ¬ sLt p.1 p'.1 := fun p hp c c1 c2 => by
      obtain ⟨q, hq, rfl⟩ := (D.leav mem hsf p).1 hp
      obtain ⟨q', z1, z2, z3⟩ := ord q hq c c1 c2
      exact ⟨(q'.1, ix st.1 q'.2), (D.leav mem hsf _).2 ⟨q', z1, rfl⟩, z2, z3⟩
    obtain ⟨c2, ec⟩ := visit_rng k (runB E 0 k).1.length _ P0 P2 (VM.leav E1 ((k : Nat) : Int)) [] (runB E 0 k).1.length (runB E1 0 k).2 rfl (leav_asc a1 _) (Nat.le_refl _) (fun p z => absurd z List.not_mem_nil)
    have eP : (runB E1 0 k) = (rng (runB E 0 k).1.length, (runB E1 0 k).2) := by rw [← ih]
    rw [eE1, eE, eP, ec]
    congr 1
    refine rng_eq fun x => ?_
    rw [← ec, visit_mem]
    show x ∈ rng (runB E 0 k).1.length ∨ _ ↔ _
    obtain ⟨r3, g3, e3⟩ := visit_pre k (VM.leav E s) (runB E 0 k)
    have e31 : (visit k (VM.leav E s) (runB E 0 k)).1 = (runB E 0 k).1 ++ r3 := by rw [e3]
    constructor
    · rintro (z | ⟨p, hp, rfl⟩)
      · have y := rng_mem.1 z
        refine rng_mem.2 ⟨y.1, ?_⟩
        rw [e31, List.length_append]
        omega
      · obtain ⟨q, hq, rfl⟩ := (D.leav mem hsf p).1 hp
        have hin : q.2 ∈ (visit k (VM.leav E s) (runB E 0 k)).1 := (visit_mem k _ _ _).2 (.inr ⟨q, hq, rfl⟩)
        show ix st.1 q.2 ∈ _
        rw [ix2 hin]
        exact rng_mem.2 (ix_lt hin)
    · intro z
      have y := rng_mem.1 z
      by_cases c : x < ((runB E 0 k).1.length : Nat)
      · exact .inl (rng_mem.2 ⟨y.1, c⟩)
      · have lx : x.toNat < (visit k (VM.leav E s) (runB E 0 k)).1.length := by omega
        have gx := List.getElem?_eq_getElem lx
        generalize (visit k (VM.leav E s) (runB E 0 k)).1[x.toNat] = t at gx
        have tin := List.mem_of_getElem? gx
        have ixx : ix (visit k (VM.leav E s) (runB E 0 k)).1 t = x := by rw [ix_at nd2 gx]; omega
        rcases (visit_mem k _ _ t).1 tin with w | ⟨q, hq, rfl⟩
        · exfalso
          rw [e31, ix_app w] at ixx
          have := (ix_lt w).2
          omega
        · exact .inr ⟨(q.1, ix st.1 q.2), (D.leav mem hsf _).2 ⟨q, hq, rfl⟩, by show ix st.1 q.2 = x; rw [ix2 tin]; exact ixx⟩
/-- numbered again: the same numbers, the same edges -/
theorem Done.again (D : Done E n st) (aE : E.Pairwise ltE) (a1 : E1.Pairwise ltE) (mem : ∀ e, e ∈ E1 ↔ e ∈ st.2) (hn : 0 < st.1.length) {st2 : Bs} {n2 : Int} (D2 : Done E1 n2 st2) :
    st2.1.length = st.1.length ∧ ∀ e, e ∈ st2.2 ↔ e ∈ E1 := by
  have z := D.again_k aE a1 mem st.1.length (Nat.le_refl _)
  rw [D.at_] at z
  have len1 : (runB E1 0 st.1.length).1.length = st.1.length := by rw [z, rng_len]
  have e2 : st2 = runB E1 0 st.1.length := by
    rcases Nat.le_total st2.1.length st.1.length with h | h
    · have y := runB_stop (E := E1) (k := st2.1.length) (by rw [D2.at_]; exact Nat.le_refl _) (st.1.length - st2.1.length)
      rw [Nat.add_sub_cancel' h, D2.at_] at y
      exact y.symm
    · have y := runB_stop (E := E1) (k := st.1.length) (by rw [len1]; exact Nat.le_refl _) (st2.1.length - st.1.length)
      rw [Nat.add_sub_cancel' h, D2.at_] at y
      exact y
  have l2 : st2.1.length = st.1.length := by rw [e2, len1]
  refine ⟨l2, fun e => ?_⟩
  have o2 : st2.1 = rng st.1.length := by rw [e2, z]
  rw [D2.nb.mem, l2, o2]
  constructor
  · rintro ⟨i, s', hi, hs', p, hp, rfl⟩
    rw [rng_get hi] at hs'
    obtain rfl := Option.some.inj hs'
    have h1 := leav_mem.1 hp
    obtain ⟨j, s2, hj, hs2, q, hq, eq⟩ := (D.nb.mem _).1 ((mem _).1 h1)
    have e3 : p.2 = ix st.1 q.2 := congrArg (fun z : Ed => z.2.2) eq
    have inr : p.2 ∈ rng st.1.length := by rw [e3]; exact rng_mem.2 (ix_lt (D.nb.has j s2 hj hs2 q hq))
    rw [rng_ix inr]
    exact h1
  · intro he
    obtain ⟨j, s2, hj, hs2, q, hq, eq⟩ := (D.nb.mem _).1 ((mem _).1 he)
    have inr : ix st.1 q.2 ∈ rng st.1.length := rng_mem.2 (ix_lt (D.nb.has j s2 hj hs2 q hq))
    refine ⟨j, ((j : Nat) : Int), hj, rng_get hj, (q.1, ix st.1 q.2), leav_mem.2 (by rw [← eq]; exact he), ?_⟩
    show e = (((j : Nat) : Int), q.1, ix (rng st.1.length) (ix st.1 q.2))
    rw [rng_ix inr]
    exact eq
end
end VM

set_option Elab.async false
set_option linter.all false
set_option maxRecDepth 100000
set_option maxHeartbeats 4000000
namespace VC
open PySem PySem.Spec PyProof.Rows L2 LamX NdefX VB
/-! captured names: while a def runs that is handed a lambda, the cells that the lambda reads are locked in the abstract heap -/
def lockO (c : Addr) (o : Obj) : HO := .frz o (.ext fun h => h.get? c = some o)
theorem lockO_ok {P : Program} {w : World} {H : Hp} {h : Heap} {c : Addr} {o : Obj} (e : h.get? c = some o) : ObjOk P w H h c (lockO c o) :=
  ⟨e, e, ⟨o, e⟩, fun _ _ p q => q o p⟩
/-- the cells of the closure cl are locked in H; fr: the captured names, ws what they hold -/
structure Locked (H : Hp) (cl : List (Str × Addr)) (fr : List Str) (ws : List (Option V)) : Prop where
  len : ws.length = fr.length
  all : ∀ y c, cl.lookup y = some c → ∃ o v, H c = some (lockO c o) ∧ o.data = .cell v
  inj : ∀ x y c, cl.lookup x = some c → cl.lookup y = some c → x = y
  has : ∀ (i : Nat) (y : Str), fr[i]? = some y → ∃ c o v, cl.lookup y = some c ∧ H c = some (lockO c o) ∧ o.data = .cell v ∧ ∀ x, ws[i]? = some (some x) → ∃ u, RelV x u ∧ v = some u
/-- an address is a cell of the closure -/
def In (cl : List (Str × Addr)) (b : Addr) : Prop := ∃ y, cl.lookup y = some b
open Classical in
noncomputable def open_ (cl : List (Str × Addr)) (H : Hp) : Hp := fun b => if In cl b then none else H b
open Classical in
noncomputable def shut (cl : List (Str × Addr)) (H0 H : Hp) : Hp := fun b => if In cl b then H0 b else H b
theorem open_in {cl : List (Str × Addr)} {H : Hp} {b : Addr} (h : In cl b) : open_ cl H b = none := by unfold open_; rw [if_pos h]
theorem open_out {cl : List (Str × Addr)} {H : Hp} {b : Addr} (h : ¬ In cl b) : open_ cl H b = H b := by unfold open_; rw [if_neg h]
theorem shut_in {cl : List (Str × Addr)} {H0 H : Hp} {b : Addr} (h : In cl b) : shut cl H0 H b = H0 b := by unfold shut; rw [if_pos h]
theorem shut_out {cl : List (Str × Addr)} {H0 H : Hp} {b : Addr} (h : ¬ In cl b) : shut cl H0 H b = H b := by unfold shut; rw [if_neg h]
section
variable {P : Program} {w : World} {H H' : Hp} {h h' : Heap} {cl : List (Str × Addr)} {fr : List Str} {ws : List (Option V)} {fs : List Addr}
theorem Locked.frz (L : Locked H cl fr ws) {b : Addr} (i : In cl b) : ∃ o v, H b = some (lockO b o) ∧ o.data = .cell v := let ⟨y, e⟩ := i; L.all y b e
theorem open_ok (L : Locked H cl fr ws) (ok : HOk P w H h) : HOk P w (open_ cl H) h := by
  intro b u e
  by_cases i : In cl b
  · rw [open_in i] at e; cases e
  · rw [open_out i] at e
    refine (ok b u e).stay (fun _ _ _ z => z) (fun c z => ?_) fun c xs z => ?_
    · rw [open_out fun j => ?_]; exact z
      obtain ⟨o, v, q, _⟩ := L.frz j
      rw [q] at z; cases z
    · rw [open_out fun j => ?_]; exact z
      obtain ⟨o, v, q, _⟩ := L.frz j
      rw [q] at z; cases z
theorem open_cells (L : Locked H cl fr ws) (ok : HOk P w H h) : CellsAt cl fr ws h (open_ cl H) := by
  refine ⟨L.len, fun y c e => ⟨open_in ⟨y, e⟩, ?_⟩, L.inj, fun i y e => ?_⟩
  · obtain ⟨o, v, q, d⟩ := L.all y c e
    exact ⟨v, o, (ok c _ q).1, d⟩
  · obtain ⟨c, o, v, e1, q, d, hv⟩ := L.has i y e
    refine ⟨c, e1, fun x hx => ?_⟩
    obtain ⟨u, r, ev⟩ := hv x hx
    exact ⟨u, r, o, (ok c _ q).1, by rw [d, ev]⟩
/-- behind the lambda: the cells locked again -/
theorem shut_ok (L : Locked H cl fr ws) (ok0 : HOk P w H h) (un : Un fs [] (open_ cl H) H' h h') (nf : ∀ b ∈ fs, H b = none) (ok : HOk P w H' h') : HOk P w (shut cl H H') h' ∧ Un fs [] H (shut cl H H') h h' := by
  have keepC : ∀ b, In cl b → ∀ o, h.get? b = some o → h'.get? b = some o := fun b i o e => by
    refine un.keep b o e (open_in i) (fun z => ?_) (by simp)
    obtain ⟨o', v, q, _⟩ := L.frz i
    rw [nf b z] at q; cases q
  have freeC : ∀ b, In cl b → H' b = none := fun b i => by
    obtain ⟨o, v, q, _⟩ := L.frz i
    exact un.free b o (ok0 b _ q).1 (open_in i) (by simp)
  refine ⟨fun b u e => ?_, fun b o e n hb _ => ?_, fun b o e n hb _ => ?_, fun b o e n _ => ?_, fun b o e _ => un.there b o e (by simp), fun b xs e => ?_, fun b o u e => ?_, fun b ps e => ?_⟩
  · by_cases i : In cl b
    · rw [shut_in i] at e
      obtain ⟨o, v, q, _⟩ := L.frz i
      rw [q] at e
      cases e
      exact lockO_ok (keepC b i o (ok0 b _ q).1)
    · rw [shut_out i] at e
      refine (ok b u e).stay (fun _ _ _ z => z) (fun c z => ?_) fun c xs z => ?_
      · rw [shut_out fun j => ?_]; exact z
        rw [freeC c j] at z; cases z
      · rw [shut_out fun j => ?_]; exact z
        rw [freeC c j] at z; cases z
  · have i : ¬ In cl b := fun i => by obtain ⟨o', v, q, _⟩ := L.frz i; rw [n] at q; cases q
    exact un.keep b o e (by rw [open_out i]; exact n) hb (by simp)
  · have i : ¬ In cl b := fun i => by obtain ⟨o', v, q, _⟩ := L.frz i; rw [n] at q; cases q
    exact un.slot b o e (by rw [open_out i]; exact n) hb (by simp)
  · have i : ¬ In cl b := fun i => by obtain ⟨o', v, q, _⟩ := L.frz i; rw [n] at q; cases q
    rw [shut_out i]
    exact un.free b o e (by rw [open_out i]; exact n) (by simp)
  · have i : ¬ In cl b := fun i => by obtain ⟨o', v, q, _⟩ := L.frz i; rw [e] at q; cases q
    rw [shut_out i]
    exact un.tups b xs (by rw [open_out i]; exact e)
  · by_cases i : In cl b
    · rw [shut_in i]; exact e
    · rw [shut_out i]; exact un.frzs b o u (by rw [open_out i]; exact e)
  · have i : ¬ In cl b := fun i => by obtain ⟨o', v, q, _⟩ := L.frz i; rw [e] at q; cases q
    rw [shut_out i]
    exact un.tbls b ps (by rw [open_out i]; exact e)
end
/-- a lambda whose captured names are locked -/
def lamLk (f : Addr) (F : NF) (b : Expr) (fr : List Str) (ws : List (Option V)) : Hp → Prop := fun H => H f = some (VA.LamO f F b) ∧ H F.c = some (CodeO F.c F.qual) ∧ Locked H F.cl fr ws
section
variable {P : Program} {w : World} {K : PySem.W.Frag} {mg : Str → Option Value} {base : Heap} {N ps fr : List Str} {F : NF} {b : Expr} {f : Addr} {k : Nat} {sp : Sp} {ws : List (Option V)}
theorem lam_locked (S : NScope N ps fr F.scope)
    (hb : ∀ (pm ctv : Value) (us : List Value), us.length = ps.length → bindArgs (PySem.W.kla_fn F.name F.qual F.params b F.scope F.cl pm (.ref F.c) ctv) ⟨us, []⟩ = pure (ps.zip us))
    (len : ∀ vs H Q E, sp vs H Q E → vs.length = ps.length)
    (hbody : ∀ (A : Around) (outer : List Env) (s : Shared) (H : Hp) (vs : List V) (Q : VK) (E : XK), Room k (A.deeper (envF F f s.heap.objs.size)) → lamLk f F b fr ws H → sp vs H Q E →
      ∃ t, PE (ncx CX0 P w K mg base N F f A outer s (open_ F.cl H) E).nox b t ∧ t (startF N vs ws) (open_ F.cl H) fun v H' => (∀ b, In F.cl b → H' b = none) → Q v (shut F.cl H H')) :
    VA.VCall P w K mg base (k + 1) f (lamLk f F b fr ws) sp := by
  refine ⟨fun h H hok _ hf => ?_, fun A outer s H us vs Q E hr e0 hf r hsp => ?_⟩
  · obtain ⟨od, sl, pm, ctv, z⟩ := VA.lamO_at hok hf.1
    exact ⟨_, od, _, sl, z⟩
  · have hl := len _ _ _ _ hsp
    obtain ⟨h1, h2, L⟩ := hf
    have lim : s.heap.NoLimit := e0.mod.nolimit.keeps fun b o e => (e0.bs b o e).1
    obtain ⟨od, sl, pm, ctv, ho⟩ := VA.lamO_at e0.hok h1
    have C := open_cells L e0.hok
    have e1 : Env0 P w K mg base A outer s (open_ F.cl H) := ⟨e0.frames, e0.mod, fun b o e => ⟨(e0.bs b o e).1, by
      by_cases i : In F.cl b
      · exact open_in i
      · rw [open_out i]; exact (e0.bs b o e).2⟩, e0.bsz, e0.funs, fun b hb => by
      by_cases i : In F.cl b
      · exact open_in i
      · rw [open_out i]; exact e0.frf b hb, open_ok L e0.hok, e0.bare⟩
    refine PySem.W.kla_callFunE hr.depth ho rfl S.co S.gen rfl (codeO_at e0.hok h2) ?_
    rw [hb pm ctv us (by rw [← r.length]; exact hl)]
    refine wpAny_pure (wpAny_newFunctionEnv S.nocell (fun ⟨n, _⟩ hy => S.par n (List.of_mem_zip hy).1) (fun h₁ hns hsb => ⟨lim.fresh _ hsb, ?_⟩) S.kind)
    show codeAny _ _ (.expr b (envF F f s.heap.objs.size)) _ _
    have kp : ∀ b o, s.heap.get? b = some o → h₁.get? b = some o := fun b o e =>
      hsb.extBut b o (Nat.ne_of_lt (Heap.lt_size e)) (Heap.get?_push_of_some _ e)
    obtain ⟨t, ht, hq⟩ := hbody A outer s H vs Q E (hr.deeper _) ⟨h1, h2, L⟩ hsp
    have J : Inv (ncx CX0 P w K mg base N F f A outer s (open_ F.cl H) E) [] (startF N vs ws) (open_ F.cl H) { s with heap := h₁, toks := s.toks + (ps.zip us).length } := inv_startN S hr.hd e1 hl r C hns kp
    refine PySem.W.kla_codeExpr (wpAny_mono (ht.nox.run [] _ (startF N vs ws) (open_ F.cl H) _ J hq) (fun v s' z => ?_) fun e s' z => z)
    obtain ⟨w', H', J', rv, q⟩ := z
    obtain ⟨ok2, un2⟩ := shut_ok L e0.hok J'.base e0.frf J'.hok
    have un : Un _ [] (open_ F.cl H) H' s.heap s'.heap := J'.base
    have freeC : ∀ b, In F.cl b → H' b = none := fun b i => by
      obtain ⟨o, v, q, _⟩ := L.frz i
      exact un.free b o (e0.hok b _ q).1 (open_in i) (by simp)
    exact ⟨w', shut F.cl H H', J'.os, J'.bare, un2, ok2, rv, q freeC⟩
end
/-! the call of a def, cells locked -/
/-- H2 is H1, the cells of cl locked -/
structure Lock (cl : List (Str × Addr)) (fr : List Str) (ws : List (Option V)) (H1 H2 : Hp) : Prop where
  out : ∀ b, ¬ In cl b → H2 b = H1 b
  free : ∀ b, In cl b → H1 b = none
  lk : Locked H2 cl fr ws
section
variable {X : Cx} {k j : Nat} {x : Str} {sp : Sp} {p pos : Pos} {e : Expr} {es : List Expr} {t : TA} {cl : List (Str × Addr)} {fr : List Str} {js : List Nat}
theorem lock_of {pins : List (Addr × Obj)} {σ : L2.St} {H : Hp} {s : Shared} (I : Inv X pins σ H s) (cp : Caps X cl fr js) : ∃ H2, Lock cl fr (js.map (slotAt σ)) H H2 ∧ HOk X.prog X.w H2 s.heap := by
  classical
  have C := cells_of I cp
  have get : ∀ b, In cl b → ∃ o v, s.heap.get? b = some o ∧ o.data = .cell v := fun b ⟨y, ey⟩ => by
    obtain ⟨_, v, o, ho, hd⟩ := C.all y b ey
    exact ⟨o, v, ho, hd⟩
  let H2 : Hp := fun b => if h : In cl b then some (lockO b (get b h).choose) else H b
  have e1 : ∀ b (i : In cl b), H2 b = some (lockO b (get b i).choose) := fun b i => dif_pos i
  have e2 : ∀ b, ¬ In cl b → H2 b = H b := fun b i => dif_neg i
  refine ⟨H2, ⟨e2, fun b ⟨y, ey⟩ => (C.all y b ey).1, ⟨C.len, fun y c e => ?_, C.inj, fun i y e => ?_⟩⟩, fun b u e => ?_⟩
  · obtain ⟨v, ho, hd⟩ := (get c ⟨y, e⟩).choose_spec
    exact ⟨_, v, e1 c ⟨y, e⟩, hd⟩
  · obtain ⟨c, ec, hv⟩ := C.has i y e
    obtain ⟨v, ho, hd⟩ := (get c ⟨y, ec⟩).choose_spec
    refine ⟨c, _, v, ec, e1 c ⟨y, ec⟩, hd, fun x hx => ?_⟩
    obtain ⟨u, r, o', ho', hd'⟩ := hv x hx
    rw [ho] at ho'
    rw [Option.some.inj ho', hd'] at hd
    exact ⟨u, r, by injection hd with hd; exact hd.symm⟩
  · by_cases i : In cl b
    · rw [e1 b i] at e
      cases e
      obtain ⟨v, ho, _⟩ := (get b i).choose_spec
      exact lockO_ok ho
    · rw [e2 b i] at e
      refine (I.hok b u e).stay (fun _ _ _ z => z) (fun c z => ?_) fun c xs z => ?_
      · rw [e2 c fun j => ?_]; exact z
        obtain ⟨y, ey⟩ := j
        rw [(C.all y c ey).1] at z; cases z
      · rw [e2 c fun j => ?_]; exact z
        obtain ⟨y, ey⟩ := j
        rw [(C.all y c ey).1] at z; cases z
/-- g(..), cells locked while it runs -/
def tCallLk (cl : List (Str × Addr)) (fr : List Str) (js : List Nat) (sp : Sp) (t : TA) : TE := fun σ H Q => t σ H fun vs H1 => ∀ H2, Lock cl fr (js.map (slotAt σ)) H1 H2 → sp vs H2 (fun v H' => Q v (open_ cl H')) C8.E0
theorem pe_cLk (c : C8.Cal X.prog X.w X.K X.mg X.base k x sp []) (hr : Room j X.A) (hk : k ≤ j) (hg : Gl X x) (cpo : X.Ok → Caps X cl fr js) (hfn : ∀ y, X.fn y = true) (ha : PA X (e :: es) t)
    (hdb : (x == ("__debug__" : Str)) = false := by decide) (he : starEach (e :: es) X.env = (false, eval e X.env) :: starEach es X.env := by rfl) (hpl : (backTo pos (starEach es X.env)).any (·.1) = false := by rfl) :
    PE X (.Call (.Name x p) (e :: es) [] pos) (tCallLk cl fr js sp t) := by
  obtain ⟨f, fd, ps, ds, F, hm, kp, bnd, hd⟩ := c.ex
  refine ⟨fun pins s σ H Q I h => ?_⟩
  have cp := cpo I.ok
  refine wpAny_Call_Name_kw (ld_glob I hg hm ?_ hdb)
  refine PySem.W.callWith_K (h₀ := X.base) I.ok.mod.kin kp (thn (ha.run pos pins s σ H _ I h) fun us s1 ⟨vs, H1, I1, r, q⟩ => ⟨I1.kIn, ?_⟩) he hpl
  obtain ⟨H2, lk, ok2⟩ := lock_of I1 cp
  have q2 := q H2 lk
  have C := cells_of I1 cp
  -- the cells are the frame's own
  have young : ∀ b, In cl b → X.s_0.heap.objs.size ≤ b := fun b ⟨y, ey⟩ => I1.ok.cab y b (hfn y) (cp.sub y b ey)
  have noBase : ∀ b, In cl b → X.base.get? b = none := fun b i => Heap.get?_none_of_le (Nat.le_trans I1.ok.bsz (young b i))
  have noFrame : ∀ b ∈ frs X.stack, ¬ In cl b := fun b hb i => by
    rcases List.mem_cons.mp (I1.stkSub b hb) with z | z
    · obtain ⟨y, ey⟩ := i
      obtain ⟨_, v, o, ho, hdd⟩ := C.all y b ey
      obtain ⟨m, ⟨o', es', ep', ho', hdd', _⟩, _⟩ := I1.loc
      rw [← z, ho] at ho'
      rw [← Option.some.inj ho', hdd] at hdd'
      cases hdd'
    · obtain ⟨_, o, ho, _⟩ := I1.ok.funs.mem z
      exact absurd (Heap.lt_size ho) (Nat.not_lt.mpr (young b i))
  have e0 := I1.env0
  have e2 : Env0 X.prog X.w X.K X.mg X.base X.A X.stack s1 H2 := ⟨e0.frames, e0.mod, fun b o eb => ⟨(e0.bs b o eb).1, by
    rw [lk.out b fun i => by rw [noBase b i] at eb; cases eb]
    exact (e0.bs b o eb).2⟩, e0.bsz, e0.funs, fun b hb => by rw [lk.out b (noFrame b hb)]; exact e0.frf b hb, ok2, e0.bare⟩
  have hl := F.len _ _ _ _ q2
  cases hd
  have hb2 := bnd s1 us I1.kIn (by rw [List.append_nil, ← r.length]; exact hl)
  rw [List.append_nil] at hb2
  show wpAny _ _ (call (.ref f) us) _ _ _
  refine wpAny_call (codeAny_mono (F.run X.A X.stack s1 H2 ⟨us, []⟩ us vs _ C8.E0 (hr.mono hk) e2 hb2 r q2) fun res s' hq => ?_)
  cases res with
  | error e => exact hq.elim
  | ok fl =>
    cases fl with
    | next => exact hq.elim
    | brk => exact hq.elim
    | cont => exact hq.elim
    | ret u =>
      obtain ⟨v, H', os, bare, un, hok, rv, qv⟩ := hq
      have hold : ∀ b, In cl b → ∀ o, s1.heap.get? b = some o → s'.heap.get? b = some o := fun b i o eo => by
        obtain ⟨o', v', z, _⟩ := lk.lk.frz i
        have g1 := (ok2 b _ z).1
        rw [eo] at g1
        rw [Option.some.inj g1]
        exact (hok b _ (un.frzs b o' _ z)).1
      have lockH : ∀ b, In cl b → ∃ o, H' b = some (lockO b o) := fun b i => by
        obtain ⟨o', v', z, _⟩ := lk.lk.frz i
        exact ⟨o', un.frzs b o' _ z⟩
      refine I1.after ⟨v, open_ cl H', os, bare, ⟨fun b o eo n hb hx => ?_, fun b o eo n hb hx => ?_, fun b o eo n hx => ?_, fun b o eo hx => un.there b o eo hx, fun b xs z => ?_, fun b o u z => ?_, fun b ps z => ?_⟩, fun b u eo => ?_, rv, qv⟩
      · by_cases i : In cl b
        · exact hold b i o eo
        · exact un.keep b o eo (by rw [lk.out b i]; exact n) hb hx
      · exact un.slot b o eo (by rw [lk.out b (noFrame b hb)]; exact n) hb hx
      · by_cases i : In cl b
        · exact open_in i
        · rw [open_out i]; exact un.free b o eo (by rw [lk.out b i]; exact n) hx
      · have i : ¬ In cl b := fun i => by rw [lk.free b i] at z; cases z
        rw [open_out i]; exact un.tups b xs (by rw [lk.out b i]; exact z)
      · have i : ¬ In cl b := fun i => by rw [lk.free b i] at z; cases z
        rw [open_out i]; exact un.frzs b o u (by rw [lk.out b i]; exact z)
      · have i : ¬ In cl b := fun i => by rw [lk.free b i] at z; cases z
        rw [open_out i]; exact un.tbls b ps (by rw [lk.out b i]; exact z)
      · by_cases i : In cl b
        · rw [open_in i] at eo; cases eo
        · rw [open_out i] at eo
          refine (hok b u eo).stay (fun _ _ _ z => z) (fun c z => ?_) fun c xs z => ?_
          · rw [open_out fun j => ?_]; exact z
            obtain ⟨o', w⟩ := lockH c j
            rw [w] at z; cases z
          · rw [open_out fun j => ?_]; exact z
            obtain ⟨o', w⟩ := lockH c j
            rw [w] at z; cases z
end
end VC

set_option Elab.async false
set_option linter.all false
set_option maxRecDepth 100000
set_option maxHeartbeats 4000000
namespace VP
open PySem PySem.Spec PyProof.Rows L2 LamX NdefX VB VM
theorem iteFe {b : Bool} {A B : Prop} (e : b = false) (h : B) : if b = true then A else B := by rw [e]; exact iteF h
theorem iteTe {b : Bool} {A B : Prop} (e : b = true) (h : A) : if b = true then A else B := by rw [e]; exact iteT h
theorem iteNT {p : Prop} [Decidable p] {A B : Prop} (e : p) (h : B) : if (!decide p) = true then A else B := iteFe (by rw [decide_eq_true e]; rfl) h
theorem un3 {k : Nat} {A : Around} (r : Room k A) : A.units + 3 < cLine := by have := r.un; omega
theorem un65 {k : Nat} {A : Around} (r : Room k A) : A.units + 65 < cLine := by have := r.un; omega
section
variable {X : Cx} {K : PySem.W.Frag} (h : X.K = K)
include h
theorem inD (hu : X.A.units + 65 < cLine) : OpR X (compareOp .In) (rInD K) := by subst h; exact op_inD hu
theorem notInD (hu : X.A.units + 65 < cLine) : OpR X (compareOp .NotIn) (rNotInD K) := by subst h; exact op_notInD hu
def embP (p : Addr × Pr) : V := V.ref p.1
def encP (p : Addr × Pr) : PyData := pqD p.2
theorem sortedP {k : Nat} (hr : Room k X.A) : CallR X (.builtin "sorted") (VA.rSortedB K embP encP) := by subst h; exact VA.cr_sortedB embP encP hr
def embE (p : Addr × Ed) : V := V.ref p.1
def encE (p : Addr × Ed) : PyData := edD p.2
theorem sortedE {k : Nat} (hr : Room k X.A) : CallR X (.builtin "sorted") (VA.rSortedB K embE encE) := by subst h; exact VA.cr_sortedB embE encE hr
end
def acts0 : List Str := ["a", "b", "c", "tau", "tick"]
/-! rows of tuples in a heap -/
def Eds (K : PySem.W.Frag) (H : Hp) (L : List (Addr × Ed)) : Prop := ∀ p ∈ L, SqT K H p.1 (edV p.2)
def Pqs (K : PySem.W.Frag) (H : Hp) (L : List (Addr × Pr)) : Prop := ∀ p ∈ L, SqT K H p.1 (pqV p.2)
abbrev refs {α : Type} (L : List (Addr × α)) : List V := L.map fun p => V.ref p.1
section
variable {K : PySem.W.Frag} {H H' : Hp}
theorem Eds.kp {L : List (Addr × Ed)} (h : Eds K H L) (x : Kp H H') : Eds K H' L := fun p hp => x.sqT (h p hp)
theorem Pqs.kp {L : List (Addr × Pr)} (h : Pqs K H L) (x : Kp H H') : Pqs K H' L := fun p hp => x.sqT (h p hp)
theorem edDp {a : Addr} {e : Ed} (h : SqT K H a (edV e)) : Dp K H (.ref a) (edD e) := .tup h (.cons (.int _) (.cons (.str _) (.cons (.int _) .nil)))
theorem pqDp {a : Addr} {e : Pr} (h : SqT K H a (pqV e)) : Dp K H (.ref a) (pqD e) := .tup h (.cons (.str _) (.cons (.int _) .nil))
theorem Eds.all {L : List (Addr × Ed)} (h : Eds K H L) : DpAll K H (refs L) (L.map fun p => edD p.2) := by
  induction L with
  | nil => exact .nil
  | cons p L ih => exact .cons (edDp (h p List.mem_cons_self)) (ih fun q hq => h q (List.mem_cons_of_mem _ hq))
theorem Pqs.all {L : List (Addr × Pr)} (h : Pqs K H L) : DpAll K H (refs L) (L.map fun p => pqD p.2) := by
  induction L with
  | nil => exact .nil
  | cons p L ih => exact .cons (pqDp (h p List.mem_cons_self)) (ih fun q hq => h q (List.mem_cons_of_mem _ hq))
theorem refs_at {α : Type} {L : List (Addr × α)} {i : Nat} {v : V} (h : (refs L)[i]? = some v) : ∃ p, L[i]? = some p ∧ v = .ref p.1 := by
  rw [List.getElem?_map] at h
  obtain ⟨p, hp, rfl⟩ := Option.map_eq_some_iff.mp h
  exact ⟨p, hp, rfl⟩
theorem flat_ed (L : List Ed) : flatAll (L.map edD) = true := by
  induction L with
  | nil => rfl
  | cons e L ih => rw [List.map_cons]; simp only [flatAll, edD, flatD, ih, Bool.and_self]
end
theorem refs_snoc {α : Type} (L : List (Addr × α)) (p : Addr × α) : refs (L ++ [p]) = refs L ++ [V.ref p.1] := by simp [refs]
theorem refs_len {α : Type} (L : List (Addr × α)) : (refs L).length = L.length := List.length_map _
/-- an edge within n states, of an action that the law draws -/
def okE (n : Int) (e : Ed) : Prop := 0 ≤ e.1 ∧ e.1 < n ∧ 0 ≤ e.2.2 ∧ e.2.2 < n ∧ e.2.1 ∈ acts0
/-! what a lock leaves -/
section
variable {cl : List (Str × Addr)} {fr : List Str} {ws : List (Option V)} {H1 H2 H' : Hp}
theorem lock_same (L : VC.Lock cl fr ws H1 H2) : Same H1 H2 := fun b o e => by
  rw [L.out b fun i => by rw [L.free b i] at e; cases e]; exact e
theorem open_same (L : VC.Lock cl fr ws H1 H2) (s : Same H2 H') : Same H1 (VC.open_ cl H') := fun b o e => by
  have i : ¬ VC.In cl b := fun i => by rw [L.free b i] at e; cases e
  rw [VC.open_out i]
  exact s b o (by rw [L.out b i]; exact e)
theorem open_extN (L : VC.Lock cl fr ws H1 H2) (s : ExtN H2 H') : ExtN H1 (VC.open_ cl H') := fun b o e n => by
  have i : ¬ VC.In cl b := fun i => by rw [L.free b i] at e; cases e
  rw [VC.open_out i]
  exact s b o (by rw [L.out b i]; exact e) n
theorem shut_same {H : Hp} (hl : VC.Locked H cl fr ws) (s : Same (VC.open_ cl H) H') : Same H (VC.shut cl H H') := fun b o e => by
  by_cases i : VC.In cl b
  · rw [VC.shut_in i]; exact e
  · rw [VC.shut_out i]; exact s b o (by rw [VC.open_out i]; exact e)
theorem open_get {H : Hp} (hl : VC.Locked H cl fr ws) {b : Addr} {o : HO} (e : H b = some o) (n : ∀ ob, o ≠ VC.lockO b ob) : VC.open_ cl H b = some o := by
  rw [VC.open_out fun i => ?_]
  · exact e
  · obtain ⟨ob, v, z, _⟩ := hl.frz i
    rw [e] at z
    exact n ob (Option.some.inj z)
end
/-! each item once -/
section
variable {α : Type} [DecidableEq α]
def onceG : List α → List α → List α
  | acc, [] => acc
  | acc, x :: r => onceG (if x ∈ acc then acc else acc ++ [x]) r
theorem onceG_snoc : ∀ (xs acc : List α) (x : α), onceG acc (xs ++ [x]) = if x ∈ onceG acc xs then onceG acc xs else onceG acc xs ++ [x]
  | [], acc, x => rfl
  | y :: xs, acc, x => onceG_snoc xs _ x
theorem onceG_nodup : ∀ (xs acc : List α), acc.Nodup → (onceG acc xs).Nodup
  | [], acc, h => h
  | x :: xs, acc, h => by
    refine onceG_nodup xs _ ?_
    split
    · exact h
    · rename_i q
      exact List.nodup_append.mpr ⟨h, by simp, fun a ha b hb => by rw [List.mem_singleton.mp hb]; intro e; exact q (e ▸ ha)⟩
theorem onceG_mem : ∀ (xs acc : List α) (y : α), y ∈ onceG acc xs ↔ y ∈ acc ∨ y ∈ xs
  | [], acc, y => by simp [onceG]
  | x :: xs, acc, y => by
    unfold onceG
    rw [onceG_mem xs _ y, List.mem_cons]
    by_cases q : x ∈ acc
    · rw [if_pos q]
      constructor
      · rintro (z | z)
        · exact .inl z
        · exact .inr (.inr z)
      · rintro (z | z | z)
        · exact .inl z
        · exact .inl (z ▸ q)
        · exact .inr z
    · rw [if_neg q, List.mem_append, List.mem_singleton, or_assoc]
theorem onceG_len : ∀ (xs acc : List α), (onceG acc xs).length ≤ acc.length + xs.length
  | [], acc => Nat.le_refl _
  | x :: xs, acc => by
    unfold onceG
    refine Nat.le_trans (onceG_len xs _) ?_
    split
    · rw [List.length_cons]; omega
    · rw [List.length_append, List.length_singleton, List.length_cons]; omega
end
/-! data of edges -/
theorem ed_eqv (a b : Ed) : PyData.eqv (edD a) (edD b) = decide (a = b) := by
  have e : (a = b) ↔ a.1 = b.1 ∧ a.2.1 = b.2.1 ∧ a.2.2 = b.2.2 := by
    constructor
    · rintro rfl; exact ⟨rfl, rfl, rfl⟩
    · rintro ⟨h1, h2, h3⟩; exact Prod.ext h1 (Prod.ext h2 h3)
  have k : PyData.eqv (edD a) (edD b) = true ↔ a = b := by
    rw [e]
    simp [edD, PyData.eqv, PyData.eqvAll, and_assoc]
  by_cases h : a = b
  · rw [k.2 h, decide_eq_true h]
  · rw [decide_eq_false h]
    exact Bool.eq_false_iff.mpr fun z => h (k.1 z)
theorem ed_shaped {a : Ed} (h : PyData.strOk a.2.1 = true) : SeqAt.shaped (edD a) = true := by
  simp [SeqAt.shaped, edD, PyData.canLay0, PyData.canLayAll0, PyData.depth, PyData.depthAll, h]
theorem eds_shaped {L : List Ed} (h : ∀ e ∈ L, PyData.strOk e.2.1 = true) : SeqAt.shaped (.list (L.map edD)) = true := by
  have k : PyData.canLayAll0 (L.map edD) = true ∧ PyData.depthAll (L.map edD) ≤ 1 := by
    induction L with
    | nil => exact ⟨rfl, Nat.zero_le _⟩
    | cons e L ih =>
      obtain ⟨k1, k2⟩ := ih fun x hx => h x (List.mem_cons_of_mem _ hx)
      rw [List.map_cons]
      refine ⟨by simp [edD, PyData.canLay0, PyData.canLayAll0, h e List.mem_cons_self, k1], ?_⟩
      unfold PyData.depthAll
      have : (edD e).depth = 1 := by simp [edD, PyData.depth, PyData.depthAll]
      omega
  unfold SeqAt.shaped
  rw [show (PyData.list (L.map edD)).canLay0 = PyData.canLayAll0 (L.map edD) by rw [PyData.canLay0], k.1, Bool.true_and, decide_eq_true_eq]
  unfold PyData.depth
  omega
theorem any_ed (e : Ed) : ∀ L : List Ed, ((L.map edD).any fun z => PyData.eqv z (edD e)) = decide (e ∈ L)
  | [] => by simp
  | x :: L => by
    rw [List.map_cons, List.any_cons, any_ed e L, ed_eqv]
    by_cases h : x = e
    · subst h; simp
    · have h2 : ¬ e = x := fun z => h z.symm
      simp [h, h2]
/-! the actions -/
abbrev acts : List Str := acts0
theorem acts_ok : ∀ x ∈ acts, PyData.strOk x = true ∧ x.length ≤ 10 := by decide +kernel
end VP

set_option Elab.async false
set_option linter.all false
set_option maxRecDepth 100000
set_option maxHeartbeats 4000000
namespace VE
open PySem PySem.Spec PyProof.Rows L2 LamX NdefX VB
/-! defs that may raise -/
/-- an own class of exceptions under its name -/
structure Own (K : PySem.W.Frag) (mg : Str → Option Value) (x : Str) (C : Addr) : Prop where
  at_ : mg x = some (.ref C)
  xP : PySem.W.excIn K C He.veBase "ValueError.__new__" = true
  kP : PySem.W.keepIn K (.ref C) = true
  bP : PySem.W.subIn K (.ref C) (.type "BaseException") = some true
  tP : PySem.W.typeIn K (.ref C) = some (.type "type")
  te : PySem.W.exmOne K (.ref C) (.ref C) = some true
structure CalX (P : Program) (w : World) (K : PySem.W.Frag) (mg : Str → Option Value) (base : Heap) (k : Nat) (x : Str) (sp : Sp) : Prop where
  ex : ∃ (f : Addr) (fd : FuncData) (ps : List Str), FnOk P w K mg base (L2.CX P w) k f fd ps sp ∧ mg x = some (.ref f) ∧ PySem.W.keepIn K (.ref f) = true ∧ Binds K fd ps []
structure MetX (P : Program) (w : World) (K : PySem.W.Frag) (mg : Str → Option Value) (base : Heap) (k : Nat) (C : Addr) (m : Str) (sp : Sp) : Prop where
  ex : ∃ (f : Addr) (fd : FuncData) (ps : List Str), Cls K C ∧ Meth K C m f ∧ FnOk P w K mg base (L2.CX P w) k f fd ps sp ∧ Binds K fd ps []
structure MakX (P : Program) (w : World) (K : PySem.W.Frag) (mg : Str → Option Value) (base : Heap) (k : Nat) (x : Str) (C : Addr) (sp : Sp) : Prop where
  ex : ∃ (f : Addr) (fd : FuncData) (ps : List Str), Mk K C f ∧ FnOk P w K mg base (L2.CX P w) k f fd ps sp ∧ mg x = some (.ref C) ∧ Binds K fd ps []
section
variable {P : Program} {w : World} {K : PySem.W.Frag} {mg : Str → Option Value} {base : Heap}
theorem calX {x : Str} {st : Stmt} {N ps : List Str} {k : Nat} {sp : Sp} (D : Df K mg x st) (S : FnScope N ps (defScope st)) (hb : BindOk x st ps)
    (len : ∀ vs H Q E, sp vs H Q E → vs.length = ps.length)
    (hbody : ∀ (f : Addr) (cdv : Value) (A : Around) (outer : List Env) (s : Shared) (H : Hp) (vs : List V) (Q : VK) (E : XK),
      Room k (A.deeper (envOfC x (defScope st) s.heap.objs.size f cdv)) → sp vs H Q E →
      ∃ t, PSs (cxOf (L2.CX P w) P w K mg base N x (defScope st) f cdv A outer s H E) (defBody st) t ∧ t { nx := fun _ H' => Q .non H', rt := Q } (start N vs) H) :
    CalX P w K mg base (k + 1) x sp := by
  obtain ⟨f, fd, F, hm⟩ := D
  exact ⟨f, fd, ps, F.ok S len (fun cdv A outer s H vs Q E hr h => hbody f cdv A outer s H vs Q E hr h), hm, F.kp, F.bindsN hb⟩
end
section
variable {X : Cx} {k j : Nat} {C : Addr} {x m : Str} {sp : Sp} {W : WX} {p pos apos : Pos} {e o : Expr} {es : List Expr} {ta : TE} {t : TA}
theorem pe_cX (c : CalX X.prog X.w X.K X.mg X.base k x sp) (hr : Room j X.A) (hk : k ≤ j) (hg : Gl X x) (tk : L2.Takes X W) (ha : PA X (e :: es) t)
    (hdb : (x == ("__debug__" : Str)) = false := by decide) (he : starEach (e :: es) X.env = (false, eval e X.env) :: starEach es X.env := by rfl) (hpl : (backTo pos (starEach es X.env)).any (·.1) = false := by rfl) :
    PE X (.Call (.Name x p) (e :: es) [] pos) (tCallS sp (WE W) t) := by
  obtain ⟨f, fd, ps, F, hm, kp, b⟩ := c.ex
  exact pe_callS F (hr.mono hk) hg hm kp b (fun σ => passAt tk σ) ha hdb he hpl
/-- o.m(e, ..), m may raise -/
def tMethS (C : Addr) (m : Str) (sp : Sp) (E : L2.St → XK) (ta : TE) (t : TA) : TE := fun σ H Q => ta σ H fun x H1 => ∃ a dx fs, x = .ref a ∧ H1 a = some (.ins C dx fs) ∧ fs.lookup m = none ∧
  t σ H1 fun vs H2 => sp (x :: vs) H2 Q (E σ)
theorem pe_mX {pl : Sem Bool} (c : MetX X.prog X.w X.K X.mg X.base k C m sp) (hr : Room j X.A) (hk : k ≤ j) (tk : L2.Takes X W) (he : PE X o ta) (ha : PA X (e :: es) t)
    (hst : starEach (e :: es) X.env = (false, eval e X.env) :: starEach es X.env := by rfl) (hpl : (backTo pos (starEach es X.env)).any (·.1) = false := by rfl)
    (ht : eval (.Call (.Attribute o m apos) (e :: es) [] pos) X.env = (do let ov ← eval o X.env; standAt apos.atName; let (f, first) ← holding [ov] (getMethod ov m pl); callWith pos f first (backTo pos (starEach (e :: es) X.env)) (backToKw pos (keywordEach [] X.env))) := by rfl) :
    PE X (.Call (.Attribute o m apos) (e :: es) [] pos) (tMethS C m sp (WE W) ta t) := by
  obtain ⟨f, fd, ps, hc, hm, F, b⟩ := c.ex
  refine ⟨fun pins s σ H Q I h => ?_⟩
  refine PySem.W.methodCall_KW (pl := pl) (thn (he.run pins s σ H _ I h) fun u s1 ⟨y, H1, I1, ry, a, dx, fs, ey, ea, l, q⟩ => ?_) ht
  subst ey
  obtain rfl : u = Value.ref a := ry
  refine getmeth_ok I1 ea hc hm l (PySem.W.callWith_K (first := [.ref a]) (h₀ := X.base) I.ok.mod.kin hm.kp (thn (ha.run pos pins s1 σ H1 _ I1 q) fun us s2 ⟨vs, H2, I2, r, q2⟩ => ⟨I2.kIn, ?_⟩) hst hpl)
  exact run_fnS (us := .ref a :: us) (vs := .ref a :: vs) F (hr.mono hk) b (passAt tk σ) I2 (.cons rfl r) q2
/-- C(e, ..), its __init__ may raise -/
def tMakeS (C : Addr) (sp : Sp) (E : L2.St → XK) (t : TA) : TE := fun σ H Q => t σ H fun vs H1 => ∀ x dx, H1 x = none → H1 dx = none → dx ≠ x →
  sp (.ref x :: vs) (upd (upd H1 dx (.own x)) x (.ins C dx [])) (fun v H2 => v = .non ∧ Q (.ref x) H2) (E σ)
theorem pe_kX (c : MakX X.prog X.w X.K X.mg X.base k x C sp) (hr : Room j X.A) (hk : k + 1 ≤ j) (hg : Gl X x) (tk : L2.Takes X W) (ha : PA X (e :: es) t)
    (hdb : (x == ("__debug__" : Str)) = false := by decide) (he : starEach (e :: es) X.env = (false, eval e X.env) :: starEach es X.env := by rfl) (hpl : (backTo pos (starEach es X.env)).any (·.1) = false := by rfl) :
    PE X (.Call (.Name x p) (e :: es) [] pos) (tMakeS C sp (WE W) t) := by
  obtain ⟨f, fd, ps, M, F, hm, b⟩ := c.ex
  refine ⟨fun pins s σ H Q I h => ?_⟩
  refine wpAny_Call_Name_kw (ld_glob I hg hm ?_ hdb)
  refine PySem.W.callWith_K (h₀ := X.base) I.ok.mod.kin M.kp (thn (ha.run pos pins s σ H _ I h) fun us s1 ⟨vs, H1, I1, r, q⟩ => ⟨I1.kIn, ?_⟩) he hpl
  have hq := q (s1.heap.objs.size + 1) s1.heap.objs.size (I1.hok.fresh (Nat.le_succ _)) (I1.hok.fresh (Nat.le_refl _)) (Nat.ne_of_lt (Nat.lt_succ_self _))
  have I2 := Inv.made (C := C) I1
  have r2 : Vals (V.ref (s1.heap.objs.size + 1) :: vs) (Value.ref (s1.heap.objs.size + 1) :: us) := .cons rfl r
  have hl : (Value.ref (s1.heap.objs.size + 1) :: us).length = ps.length := by
    have z := r2.length
    rw [F.len _ _ _ _ hq] at z
    exact z.symm
  have hb2 := b _ (Value.ref (s1.heap.objs.size + 1) :: us) I2.kIn (by rw [List.append_nil]; exact hl)
  rw [List.append_nil] at hb2
  refine wpAny_call (make_map (f := f) I1.kIn M.makes M.init (beq_iff_eq.mp M.fn) (codeAny_mono (F.run _ X.stack _ _ ⟨Value.ref (s1.heap.objs.size + 1) :: us, []⟩ (Value.ref (s1.heap.objs.size + 1) :: us) _ _ (WE W σ) ((hr.mono hk).make C us [])
    (I2.env0.make C us []) hb2 r2 hq) fun res s' hq' => ?_))
  cases res with
  | error er => exact passAt tk σ pins _ _ er s' I2 hq'
  | ok fl =>
    cases fl with
    | next => exact hq'.elim
    | brk => exact hq'.elim
    | cont => exact hq'.elim
    | ret u =>
      obtain ⟨v, H', I3, rv, ev, q3⟩ := I2.after hq'
      subst ev
      exact ⟨rv, ⟨V.ref (s1.heap.objs.size + 1), H', I3, rfl, q3⟩⟩
end
end VE

set_option Elab.async false
set_option linter.all false
set_option maxRecDepth 100000
set_option maxHeartbeats 4000000
namespace VX
open PySem PySem.Spec PyProof.Rows L2 LamX NdefX VB
/-! a def that may raise, where it does not -/
abbrev calm (sp : Sp) : Sp := fun vs H Q _ => sp vs H Q fun _ _ _ => False
section
variable {P : Program} {w : World} {K : PySem.W.Frag} {mg : Str → Option Value} {base : Heap}
theorem fnCalm {k : Nat} {f : Addr} {fd : FuncData} {ps : List Str} {sp : Sp} (F : FnOk P w K mg base (L2.CX P w) k f fd ps sp) : FnOk P w K mg base CX0 k f fd ps (calm sp) := by
  refine ⟨fun vs H Q E h => F.len _ _ _ _ h, fun A outer s H args us vs Q E hr he hb hv h => codeAny_mono (F.run A outer s H args us vs Q (fun _ _ _ => False) hr he hb hv h) fun r s' q => ?_⟩
  cases r with
  | error e =>
    obtain ⟨_, _, _, _, _, _, _, _, _, _, _, _, z⟩ := q
    exact z.elim
  | ok fl => cases fl <;> exact q
theorem calCalm {k : Nat} {x : Str} {sp : Sp} (c : VE.CalX P w K mg base k x sp) : C8.Cal P w K mg base k x (calm sp) [] := by
  obtain ⟨f, fd, ps, F, hm, kp, b⟩ := c.ex
  exact ⟨f, fd, ps, [], fnCalm F, hm, kp, b, .nil⟩
theorem metCalm {k : Nat} {C : Addr} {m : Str} {sp : Sp} (c : VE.MetX P w K mg base k C m sp) : C8.Met P w K mg base k C m (calm sp) [] := by
  obtain ⟨f, fd, ps, hc, me, F, b⟩ := c.ex
  exact ⟨f, fd, ps, [], hc, me, fnCalm F, b, .nil⟩
theorem makCalm {k : Nat} {C : Addr} {x : Str} {sp : Sp} (c : VE.MakX P w K mg base k x C sp) : C8.Mak P w K mg base k x C (calm sp) [] := by
  obtain ⟨f, fd, ps, M, F, hm, b⟩ := c.ex
  exact ⟨f, fd, ps, [], M, fnCalm F, hm, b, .nil⟩
theorem metImp {k : Nat} {C : Addr} {m : Str} {sp sp' : Sp} {dvs : List V} (c : C8.Met P w K mg base k C m sp dvs) (h : ∀ vs H Q E, sp' vs H Q E → sp vs H Q E) : C8.Met P w K mg base k C m sp' dvs := by
  obtain ⟨f, fd, ps, ds, hc, me, F, r⟩ := c.ex
  exact ⟨f, fd, ps, ds, hc, me, F.imp h, r⟩
theorem makImp {k : Nat} {C : Addr} {x : Str} {sp sp' : Sp} {dvs : List V} (c : C8.Mak P w K mg base k x C sp dvs) (h : ∀ vs H Q E, sp' vs H Q E → sp vs H Q E) : C8.Mak P w K mg base k x C sp' dvs := by
  obtain ⟨f, fd, ps, ds, M, F, r⟩ := c.ex
  exact ⟨f, fd, ps, ds, M, F.imp h, r⟩
theorem metXOf {m qual : Str} {C : Addr} {st : Stmt} {f : Addr} {fd : FuncData} {N ps : List Str} {k : Nat} {sp : Sp} (c : Cls K C) (me : Meth K C m f) (F : FunD K m qual (defArgs st) (defBody st) (defScope st) [] [] f fd) (S : FnScope N ps (defScope st))
    (hb : ∀ (kV doc pm : Value) (an : Option Addr) (cdv ct : Value) (us : List Value), us.length = ps.length → bindArgs (PySem.W.fnOf m qual (defArgs st) (defBody st) (defScope st) .none kV doc pm an cdv ct) ⟨us, []⟩ = pure (ps.zip us))
    (len : ∀ vs H Q E, sp vs H Q E → vs.length = ps.length)
    (hbody : ∀ (cdv : Value) (A : Around) (outer : List Env) (s : Shared) (H : Hp) (vs : List V) (Q : VK) (E : XK),
      Room k (A.deeper (envOfC qual (defScope st) s.heap.objs.size f cdv)) → sp vs H Q E →
      ∃ t, PSs (cxOf (L2.CX P w) P w K mg base N qual (defScope st) f cdv A outer s H E) (defBody st) t ∧ t { nx := fun _ H' => Q .non H', rt := Q } (start N vs) H) :
    VE.MetX P w K mg base (k + 1) C m sp :=
  ⟨f, fd, ps, c, me, F.ok S len (fun cdv A outer s H vs Q E hr h => hbody cdv A outer s H vs Q E hr h), F.bindsN hb⟩
end
section
variable {P : Program} {w : World} {K : PySem.W.Frag} {mg : Str → Option Value} {base : Heap}
theorem metOf {m qual : Str} {C : Addr} {st : Stmt} {f : Addr} {fd : FuncData} {N ps : List Str} {k : Nat} {sp : Sp} (c : Cls K C) (me : Meth K C m f) (F : FunD K m qual (defArgs st) (defBody st) (defScope st) [] [] f fd) (S : FnScope N ps (defScope st))
    (hb : ∀ (kV doc pm : Value) (an : Option Addr) (cdv ct : Value) (us : List Value), us.length = ps.length → bindArgs (PySem.W.fnOf m qual (defArgs st) (defBody st) (defScope st) .none kV doc pm an cdv ct) ⟨us, []⟩ = pure (ps.zip us))
    (len : ∀ vs H Q E, sp vs H Q E → vs.length = ps.length)
    (hbody : ∀ (cdv : Value) (A : Around) (outer : List Env) (s : Shared) (H : Hp) (vs : List V) (Q : VK) (E : XK),
      Room k (A.deeper (envOfC qual (defScope st) s.heap.objs.size f cdv)) → sp vs H Q E →
      ∃ t, PSs (cxOf CX0 P w K mg base N qual (defScope st) f cdv A outer s H E).nox (defBody st) t ∧ t { nx := fun _ H' => Q .non H', rt := Q } (start N vs) H) :
    C8.Met P w K mg base (k + 1) C m sp [] := by
  refine ⟨f, fd, ps, [], c, me, F.ok S len (fun cdv A outer s H vs Q E hr h => ?_), F.bindsN hb, .nil⟩
  obtain ⟨t, a, b⟩ := hbody cdv A outer s H vs Q E hr h
  exact ⟨t, a.nox, b⟩
end
theorem iteMem {p : Prop} [Decidable p] {A B : Prop} (h1 : p → A) (h2 : ¬ p → B) : if (if true = true then !decide p else decide p) = true then B else A := by
  rw [if_pos rfl]
  by_cases h : p
  · rw [decide_eq_true h]; exact iteF (h1 h)
  · rw [decide_eq_false h]; exact iteT (h2 h)
theorem inV_ints (t : Int) (o : List Int) : inV (.int t) (o.map V.int) = decide (t ∈ o) := by
  induction o with
  | nil => rfl
  | cons x o ih =>
    show (eqV (.int x) (.int t) || inV (.int t) (o.map V.int)) = _
    rw [ih]
    show ((x == t) || _) = _
    by_cases h : t = x
    · subst h; simp
    · have h2 : ¬ x = t := fun z => h z.symm
      simp [h, h2]
/-! == of instances by their own __eq__, True or False -/
def spEqB (R : Addr → Addr → Bool → Hp → Prop) : Sp := fun vs H Q _ => ∃ a b r, vs = [.ref a, .ref b] ∧ R a b r H ∧ ∀ H', Ext H H' → Q (.bl r) H'
def rEqI (C : Addr) (R : Addr → Addr → Bool → Hp → Prop) : R2 := fun x y H Q => ∃ (a b dx dy : Addr) (fs gs : List (Str × V)) (r : Bool), x = .ref a ∧ y = .ref b ∧ H a = some (.ins C dx fs) ∧ H b = some (.ins C dy gs) ∧ R a b r H ∧ ∀ H', Ext H H' → Q (.bl r) H'
theorem op_eqI {X : Cx} {n : Nat} {CX : CXT} {C f : Addr} {fd : FuncData} {ps : List Str} {R : Addr → Addr → Bool → Hp → Prop} {E : XK} (F : FnOk X.prog X.w X.K X.mg X.base CX n f fd ps (spEqB R))
    (hs : PySem.W.findIn X.K (.ref C) "__eq__" = some (some (.ref f))) (hf : PySem.W.isFn X.K (.ref f) = true) (hb : Binds X.K fd ps []) (hx : Passes CX X E) (hr : Room n X.A) : OpR X (compareOp .Eq) (rEqI C R) := by
  intro pins s σ H x y v u Q I rx ry hq
  obtain ⟨a, b, dx, dy, fs, gs, r, rfl, rfl, ha, hb', hR, q⟩ := hq
  show wpAny (model X.prog X.w) X.A (richCompare .Eq v u) (EP X pins σ Q) X.xe s
  cases rx
  cases ry
  obtain ⟨mA, J, _⟩ := ins_get I.hok ha
  obtain ⟨mB, J', _⟩ := ins_get I.hok hb'
  obtain ⟨od, J, _⟩ := J.look
  obtain ⟨od', J', _⟩ := J'.look
  obtain ⟨m, hF⟩ := I.fr
  refine PySem.W.cmp_K (op := .Eq) (tb := .ref C) hr.units0 hF I.ok.mod.kin J J'.type (by simp [PySem.W.notFirst]) hs hf ?_
  have hsp : spEqB R [.ref a, .ref b] H (fun v H' => (∃ r, v = .bl r) ∧ Q v H') E := ⟨a, b, r, rfl, hR, fun H' e => ⟨⟨r, rfl⟩, q H' e⟩⟩
  have e0 : Env0 X.prog X.w X.K X.mg X.base X.A X.stack s H := I.env0
  have hl := F.len _ _ _ _ hsp
  have r2 : Vals [V.ref a, V.ref b] [Value.ref a, Value.ref b] := .cons rfl (.cons rfl .nil)
  refine wpAny_call (codeAny_mono (F.run X.A X.stack s H ⟨[.ref a, .ref b], []⟩ [.ref a, .ref b] [.ref a, .ref b] _ E hr e0 (by
    have := hb s [.ref a, .ref b] I.kIn (by simpa using hl)
    simpa using this) r2 hsp) fun r s' hq => ?_)
  cases r with
  | error e => exact hx pins σ H s e s' I hq
  | ok fl =>
    cases fl with
    | ret w =>
      obtain ⟨v, H', I', rv, ⟨r, ev⟩, q'⟩ := I.after hq
      subst ev
      cases rv
      exact ⟨.bl r, H', I', rfl, q'⟩
    | next => exact False.elim hq
    | brk => exact False.elim hq
    | cont => exact False.elim hq
/-- try .. except x, by a name -/
def tTry (K : PySem.W.Frag) (c : Value) (tb : WX → TS) (ts : Addr → Value → Option Addr → TS) (Wout : WX) : TS := fun D σ H => tb (wOnly K c ts Wout D) D σ H
theorem ps_try {X : Cx} {K : PySem.W.Frag} (hK : X.K = K) {x : Str} {c : Value} {body suite : List Stmt} {b₀ : Stmt} {np pos pos' : Pos} {tb : WX → TS} {ts : Addr → Value → Option Addr → TS} {Wout : WX} (hs : X.stack = X.env :: X.outer) (hf : X.env.frame = some X.env.locals) (hc : Names X x c) (tk : L2.Takes X Wout)
    (hb : ∀ (W : WX) (pn : List (Addr × Obj)) (xe : Value → Shared → Prop), L2.Takes (X.tr pn xe) W → PassesOwn (model X.prog X.w) X.A X.env xe → PSs (X.tr pn xe) body (tb W))
    (hsu : ∀ (a : Addr) (oe : Obj) (cls : Value) (d : Option Addr) (pn : List (Addr × Obj)), L2.Zc cls d oe → (∃ vs, oe.data = .fields vs) → PSs (X.suite a ((a, oe) :: pn)) (b₀ :: suite) (ts a cls d)) :
    PS X (.Try body [.ExceptHandler (some (.Name x np)) none (b₀ :: suite) pos'] [] [] pos) (tTry K c tb ts Wout) := by
  subst hK
  exact ps_try_only hs hf hc tk hb hsu
/-! xs[::-1] -/
theorem revL {X : Cx} {K : PySem.W.Frag} (h : X.K = K) {e : Expr} {te : TE} {k : Nat} {p1 p2 p3 pos : Pos} (he : PE X e te) : PE X (.Subscript e (.Slice none none (some (.UnaryOp .USub (.Constant (.int 1) k p1) p2)) p3) pos) (tRevL K te) := by
  subst h
  exact pe_revL he
end VX

set_option Elab.async false
set_option linter.all false
set_option maxRecDepth 100000
set_option maxHeartbeats 4000000
namespace VQ
open PySem PySem.Spec PyProof.Rows L2 LamX NdefX VB VM
/-! sets of whole numbers (fewer than 64), told with the world by its name; sorted of whole numbers -/
section
variable {X : Cx} {w : World} (h : X.w = w)
include h
theorem set0I : CallR X (.type "set") (rSet0 w) := by subst h; exact cr_set0
theorem inI : OpR X (compareOp .In) (rSIn w) := by subst h; exact or_sin
theorem notInI : OpR X (compareOp .NotIn) (rSNotIn w) := by subst h; exact or_snotin
theorem sortedSI (hc : X.calm = true) : CallR X (.builtin "sorted") (rSortedSet w) := by subst h; exact cr_sortedSet hc
theorem saddI {o e : Expr} {es : List Expr} {to : TE} {t : TA} {apos cpos : Pos} (ho : PE X o to) (ha : PA X (e :: es) t)
    (hbase : attributeBase o "add" X.env (eval o X.env) = eval o X.env := by rfl)
    (hfew : ((backTo cpos (starEach (e :: es) X.env)).all (fun x => !x.1) && (backToKw cpos (keywordEach [] X.env)).all (fun x => x.1.isSome)
      && decide ((e :: es).length + ([] : List Keyword).length + (if ([] : List Keyword).isEmpty then 0 else 1) < 30)) = true := by rfl)
    (hline : (apos.endLine == cpos.line) = true := by rfl) (hs : starEach (e :: es) X.env = (false, eval e X.env) :: starEach es X.env := by rfl) (hplain : (backTo cpos (starEach es X.env)).any (·.1) = false := by rfl) :
    PE X (.Call (.Attribute o "add" apos) (e :: es) [] cpos) (tSAdd w to t) := by subst h; exact pe_sadd ho ha hbase hfew hline hs hplain
end
/-- sorted of whole numbers -/
def srtI (l : List Int) : List Int := l.mergeSort fun a b => decide (a ≤ b)
def rSortI (K : PySem.W.Frag) : List V → Hp → VK → Prop := fun vs H Q => ∃ (a : Addr) (ns : List Int), vs = [V.ref a] ∧ SqL K H a (ns.map V.int) ∧
  ∀ p : Addr, H p = none → Q (.ref p) (upd H p (.lst ((srtI ns).map V.int)))
theorem sortedI {X : Cx} {K : PySem.W.Frag} (h : X.K = K) {k : Nat} (hr : Room k X.A) : CallR X (.builtin "sorted") (rSortI K) := by
  subst h
  intro pins s σ H vs us Q I r hh
  obtain ⟨a, ss, rfl, hs, q⟩ := hh
  have eS : (PySem.W.dataLe false PyData.int : Int → Int → Bool) = fun a b => decide (a ≤ b) := PySem.W.dataLe_int (fun x => x)
  refine VA.cr_sortedB V.int PyData.int hr pins s σ H [V.ref a] us Q I r ⟨a, ss, rfl, hs, fun b _ => .int b, ?_, ?_, ?_, fun p np => ?_⟩
  · intro d hd d' hd'
    obtain ⟨x, _, rfl⟩ := List.mem_map.mp hd
    obtain ⟨y, _, rfl⟩ := List.mem_map.mp hd'
    rfl
  · refine .inr fun d hd => ?_
    obtain ⟨x, _, rfl⟩ := List.mem_map.mp hd
    exact ⟨fun z => PyData.noConfusion z, fun xs z => PyData.noConfusion z⟩
  · intro b _
    show (0 : Nat) ≤ 8
    decide
  · rw [eS]
    exact q p np
theorem srtI_mem {l : List Int} {x : Int} : x ∈ srtI l ↔ x ∈ l := List.mem_mergeSort
theorem srtI_asc {l : List Int} (nd : l.Nodup) : (srtI l).Pairwise (· < ·) :=
  asc_of_sorted (lt := fun a b : Int => a < b) (fun a b h g => by omega) (fun a b => by
    show decide (a ≤ b) = !decide (b < a)
    by_cases h : a ≤ b
    · rw [decide_eq_true h, decide_eq_false (by omega)] <;> rfl
    · rw [decide_eq_false h, decide_eq_true (by omega)] <;> rfl) (fun a b c x y => Int.lt_trans x y) (fun a => Int.lt_irrefl a) nd
theorem ascI {l m : List Int} (hl : l.Pairwise (· < ·)) (hm : m.Pairwise (· < ·)) (h : ∀ x, x ∈ l ↔ x ∈ m) : l = m :=
  asc_unique (fun a => Int.lt_irrefl a) (fun a b c x y => Int.lt_trans x y) hl hm h
theorem ascI_nodup {l : List Int} (h : l.Pairwise (· < ·)) : l.Nodup := List.nodup_iff_pairwise_ne.mpr (h.imp fun z e => by omega)
/-- the states to which silent edges lead -/
inductive Rch (E : List Ed) (S : List Int) : Int → Prop
  | base {x : Int} : x ∈ S → Rch E S x
  | step {x y : Int} : Rch E S x → (x, ("tau" : Str), y) ∈ E → Rch E S y
/-- the closure of states, ascending -/
structure IsClo (E : List Ed) (S cs : List Int) : Prop where
  asc : cs.Pairwise (· < ·)
  mem : ∀ x, x ∈ cs ↔ Rch E S x
theorem Rch.imp {E E' : List Ed} {S S' : List Int} (hE : ∀ e, e ∈ E → e ∈ E') (hS : ∀ x, x ∈ S → x ∈ S') {x : Int} (h : Rch E S x) : Rch E' S' x := by
  induction h with
  | base h => exact .base (hS _ h)
  | step _ h ih => exact .step ih (hE _ h)
theorem IsClo.congr {E E' : List Ed} {S S' cs : List Int} (h : IsClo E S cs) (hE : ∀ e, e ∈ E ↔ e ∈ E') (hS : ∀ x, x ∈ S ↔ x ∈ S') : IsClo E' S' cs :=
  ⟨h.asc, fun x => (h.mem x).trans ⟨fun z => z.imp (fun e => (hE e).1) (fun x => (hS x).1), fun z => z.imp (fun e => (hE e).2) (fun x => (hS x).2)⟩⟩
theorem IsClo.uniq {E : List Ed} {S cs ds : List Int} (h : IsClo E S cs) (g : IsClo E S ds) : cs = ds := ascI h.asc g.asc fun x => (h.mem x).trans (g.mem x).symm
theorem Rch.range {E : List Ed} {S : List Int} {P : Int → Prop} (hE : ∀ e ∈ E, P e.2.2) (hS : ∀ x ∈ S, P x) {x : Int} (h : Rch E S x) : P x := by
  cases h with
  | base h => exact hS _ h
  | step _ h => exact hE _ h
end VQ

set_option Elab.async false
set_option linter.all false
set_option maxRecDepth 100000
set_option maxHeartbeats 4000000
namespace VR
open PySem PySem.Spec PyProof.Rows L2 LamX NdefX VB VM
/-- < of data -/
def rLtD (K : PySem.W.Frag) : R2 := fun x y H Q => ∃ d e, Dp K H x d ∧ Dp K H y e ∧ PySem.W.alike d e = true ∧ d ≠ .none ∧ d.depth ≤ 60 ∧ Q (.bl (PySem.W.dataLt d e)) H
theorem ltD {X : Cx} {K : PySem.W.Frag} (h : X.K = K) (hu : X.A.units + 65 < cLine) : OpR X (compareOp .Lt) (rLtD K) := by
  subst h
  intro pins s σ H x y v u Q I rx ry hh
  obtain ⟨d, e, hd, he, ha, hn, hdp, q⟩ := hh
  obtain ⟨as, r1⟩ := Dp.reads I d x v hd rx
  obtain ⟨bs, r2⟩ := Dp.reads I e y u he ry
  exact PySem.W.lt_data r1 r2 ha hn (by omega) ⟨.bl _, H, I, rfl, q⟩
/-- xs.index(x) of a tuple of texts -/
def rIxOf (K : PySem.W.Frag) : V → List V → Hp → VK → Prop := fun x xs H Q => ∃ (p : Addr) (ys : List Str) (z : Str) (j : Nat), x = .ref p ∧ xs = [.str z] ∧ SqT K H p (ys.map V.str) ∧ ys[j]? = some z ∧ (∀ m, m < j → ys[m]? ≠ some z) ∧ Q (.int (j : Nat)) H
theorem ixOf {X : Cx} {K : PySem.W.Frag} (h : X.K = K) : MtR X "tuple.index" (rIxOf K) := by
  subst h
  intro pins s σ H x xs v us Q I rx rs hh
  obtain ⟨p, ys, z, j, a, b, c, d, e, q⟩ := hh
  exact mt_tup_index pins s σ H x xs v us Q I rx rs ⟨p, ys, z, j, a, b, c, d, e, q⟩
/-- a written tuple without a dict -/
def tupN (K : PySem.W.Frag) (a : Addr) : Bool := match K.lookup a with
  | some ⟨.type c, none, .seq _ _, _⟩ => decide (c = "tuple")
  | _ => false
abbrev TupN (K : PySem.W.Frag) (a : Addr) : Prop := ∃ o, K.lookup a = some o ∧ o.cls = .type "tuple" ∧ o.dict = none
theorem tupN_ok {K : PySem.W.Frag} {a : Addr} (h : tupN K a = true) : TupN K a := by
  unfold tupN at h
  split at h
  · rename_i c its n sl q
    exact ⟨_, q, congrArg Value.type (of_decide_eq_true h), rfl⟩
  · cases h
end VR

set_option Elab.async false
set_option linter.all false
set_option maxRecDepth 100000
set_option maxHeartbeats 4000000
namespace LW
open PySem PySem.Spec PyProof.Rows L2 LamX NdefX VB VM VP
def top (i : Nat) : Stmt := PySem.Challenge.pw_parley_k25_order_of_behaviours.main.body.getD i (.Pass ⟨0, 0, 0, 0⟩)
abbrev s__law_cell : Stmt := top 4
theorem sc__law_cell : FnScope ["script", "k"] ["script", "k"] (defScope s__law_cell) := ⟨rfl, rfl, rfl, by decide +kernel, rfl, by decide +kernel, by decide +kernel⟩
abbrev s__law_draws : Stmt := top 5
theorem sc__law_draws : FnScope ["cell", "count", "rows", "left", "k", "mixed"] ["cell", "count"] (defScope s__law_draws) := ⟨rfl, rfl, rfl, by decide +kernel, rfl, by decide +kernel, by decide +kernel⟩
section
variable {P : Program} {w : World} {K : PySem.W.Frag} {mg : Str → Option Value} {base : Heap}
/-- a cell of the script: some number that is not negative -/
def spCell (K : PySem.W.Frag) : Sp := fun vs H Q _ => ∃ (a : Addr) (ns : List Int) (k : Int), vs = [.ref a, .int k] ∧ SqL K H a (ns.map V.int) ∧ 0 ≤ k ∧
  ∀ r : Int, 0 ≤ r → Q (.int r) H
theorem c_cell (D : Df K mg "_law_cell" s__law_cell) (z_len : mg "len" = none) (z_abs : mg "abs" = none) (z_int : mg "int" = none) :
    C8.Cal P w K mg base 1 "_law_cell" (spCell K) [] := by
  refine D.cal sc__law_cell (fun _ _ _ _ _ _ us hl => match us, hl with | [_, _], _ => rfl) (fun vs H Q E h => ?_) (fun f cdv A outer s H vs Q E hr h => ?_)
  · obtain ⟨a, ns, k, rfl, _⟩ := h
    rfl
  obtain ⟨a, ns, k, rfl, hS, h0, q⟩ := h
  have hl : (ns.map V.int).length = ns.length := List.length_map _
  refine ⟨_, (pss_cons (ps_if (pt_cmpR op_lt (pv 1) (pe_callB (VK.lenQ (K := K) rfl) (by rfl) z_len PySem.boot_len (pa_cons (pv 0) pa_nil)) (nomark _))
      (pss_one (ps_ret (pe_callB call_abs (by rfl) z_abs (by decide +kernel) (pa_cons (pe_callTy call_int1 (by rfl) z_int (by decide +kernel) (pa_cons (pe_ix (VK.ixL (K := K) rfl) (pv 0) (pv 1) (fun _ _ => rfl)) pa_nil)) pa_nil))))
      pss_nil)
    (pss_one (ps_ret pe_int))), ?_⟩
  refine ⟨_, rfl, _, rfl, a, _, rfl, .inl hS, _, _, rfl, rfl, _, rfl, ?_⟩
  refine ite2 (fun c => ?_) (fun c => ?_)
  · have c' : k < (((ns.map V.int).length : Nat) : Int) := of_decide_eq_true c
    rw [hl] at c'
    have hk : k.toNat < ns.length := by omega
    have ek : k = ((k.toNat : Nat) : Int) := by omega
    have q1 : atI (ns.map V.int) ((k.toNat : Nat) : Int) = some (.int ns[k.toNat]) := atI_nat (by rw [List.getElem?_map, List.getElem?_eq_getElem hk] <;> rfl)
    rw [← ek] at q1
    refine ⟨_, rfl, _, rfl, a, _, _, _, rfl, rfl, hS, q1, .inl ⟨_, rfl, _, rfl, q _ ?_⟩⟩
    split <;> omega
  · exact q 0 (Int.le_refl 0)
/-- so many draws, each from 0 to 4095 -/
def spDraws : Sp := fun vs H Q _ => ∃ (c n : Int), vs = [.int c, .int n] ∧ 0 ≤ n ∧ n ≤ 1000 ∧
  ∀ (p : Addr) (ns : List Int), H p = none → ns.length = n.toNat → (∀ x ∈ ns, 0 ≤ x ∧ x < 4096) → Q (.ref p) (upd H p (.lst (ns.map V.int)))
theorem c_draws (D : Df K mg "_law_draws" s__law_draws) (z_range : mg "range" = none) (z_int : mg "int" = none) :
    C8.Cal P w K mg base 1 "_law_draws" spDraws [] := by
  refine D.cal sc__law_draws (fun _ _ _ _ _ _ us hl => match us, hl with | [_, _], _ => rfl) (fun vs H Q E h => ?_) (fun f cdv A outer s H vs Q E hr h => ?_)
  · obtain ⟨c, n, rfl, _⟩ := h
    rfl
  obtain ⟨c, n, rfl, h0, h1, q⟩ := h
  refine ⟨_, (pss_cons (ps_set (i := 2) sc__law_draws.nd rfl (Or.inl rfl) (pe_lst pa_nil))
    (pss_cons (ps_set (i := 3) sc__law_draws.nd rfl (Or.inl rfl) (pv 0))
    (pss_cons (ps_for PassesOwn.never rfl (pi_range1 rfl z_range (pa_cons (pv 1) pa_nil)) (pg_name (i := 4) sc__law_draws.nd rfl (Or.inl rfl))
      (pss_one (ps_if (PW.pt (pw_and (pt_cmpR op_ge (pv 0) (pe_op op_pow pe_int pe_int) (nomark _)) (pw_and1 (pt_cmpR op_gt (pv 3) pe_int (nomark _)))))
        (pss_cons (ps_expr (pe_bm PySem.F.plainAttrs_list PySem.F.slot_list_append PySem.F.type_list_append mt_append (pv 2) (pa_cons (pe_op op_mod (pe_callTy call_int1 (by rfl) z_int (by decide +kernel) (pa_cons (pv 3) pa_nil)) pe_int) pa_nil)))
        (pss_one (ps_set (i := 3) sc__law_draws.nd rfl (Or.inl rfl) (pe_op op_fdiv (pv 3) pe_int))))
        (pss_cons (ps_set (i := 5) sc__law_draws.nd rfl (Or.inl rfl) (pe_op op_mod (pe_callTy call_int1 (by rfl) z_int (by decide +kernel) (pa_cons (pe_op op_add (pe_op op_mul (pv 0) pe_int) (pe_op op_mul (pe_op op_add (pv 4) pe_int) pe_int)) pa_nil)) pe_int))
        (pss_cons (ps_set (i := 5) sc__law_draws.nd rfl (Or.inl rfl) (pe_op op_mod (pe_callTy call_int1 (by rfl) z_int (by decide +kernel) (pa_cons (pe_op op_add (pe_op op_add (pe_op op_mul (pv 5) (pv 5)) (pe_op op_mul (pv 5) pe_int)) (pe_op op_mul (pv 4) pe_int)) pa_nil)) pe_int))
        (pss_cons (ps_set (i := 5) sc__law_draws.nd rfl (Or.inl rfl) (pe_op op_mod (pe_callTy call_int1 (by rfl) z_int (by decide +kernel) (pa_cons (pe_op op_add (pe_op op_add (pe_op op_mul (pv 5) (pv 5)) (pv 0)) (pe_op op_mul pe_int (pv 4))) pa_nil)) pe_int))
        (pss_one (ps_expr (pe_bm PySem.F.plainAttrs_list PySem.F.slot_list_append PySem.F.type_list_append mt_append (pv 2) (pa_cons (pe_op op_mod (pe_op op_fdiv (pv 5) pe_int) pe_int) pa_nil))))))))))
    (pss_one (ps_ret (pv 2)))))), ?_⟩
  refine ⟨Nat.zero_le _, fun l nl => ?_⟩
  refine ⟨_, rfl, ?_⟩
  refine ⟨_, rfl, n, rfl, by omega, by omega, for_range (lo := 0) (n := n.toNat)
    (fun i σ H' => ∃ (ns : List Int) (left : Int) (kk mm : Option V), σ = [some (.int c), some (.int n), some (.ref l), some (.int left), kk, mm] ∧ H' = upd H l (.lst (ns.map V.int)) ∧
      ns.length = i ∧ ∀ x ∈ ns, 0 ≤ x ∧ x < 4096) ⟨[], c, none, none, rfl, rfl, rfl, fun x hx => by cases hx⟩ ?_ ?_⟩
  · rintro i σ H' hi ⟨ns, left, kk, mm, rfl, rfl, hlen, hb⟩
    have hlen2 : (ns.map V.int).length < sizeLine := by rw [List.length_map]; exact small1000 (by omega)
    have last : ∀ (x : Int) (left' : Int) (mm' : Option V), 0 ≤ x → x < 4096 →
        ∃ (ns' : List Int) (left1 : Int) (kk1 mm1 : Option V), [some (V.int c), some (V.int n), some (V.ref l), some (V.int left'), some (V.int (0 + (i : Int))), mm'] = [some (V.int c), some (V.int n), some (V.ref l), some (V.int left1), kk1, mm1] ∧
          upd (upd H l (.lst (ns.map V.int))) l (.lst (ns.map V.int ++ [.int x])) = upd H l (.lst (ns'.map V.int)) ∧ ns'.length = i + 1 ∧ ∀ x ∈ ns', 0 ≤ x ∧ x < 4096 := by
      intro x left' mm' hx0 hx1
      refine ⟨ns ++ [x], left', _, _, rfl, ?_, by simp [hlen], fun y hy => ?_⟩
      · rw [upd_upd, List.map_append] <;> rfl
      · rcases List.mem_append.mp hy with z | z
        · exact hb y z
        · rw [List.mem_singleton.mp z]; exact ⟨hx0, hx1⟩
    have md : ∀ x m : Int, 0 < m → m ≤ 2147483647 → 0 ≤ x % m ∧ (-(2 ^ 64) < x % m ∧ x % m < 2 ^ 64) := fun x m h1 h2 => by
      have z1 := Int.emod_nonneg x (show m ≠ 0 by omega)
      have z2 := Int.emod_lt_of_pos x h1
      exact ⟨z1, by omega, by omega⟩
    refine ⟨_, rfl, _, _, rfl, rfl, ⟨by decide, by decide, by decide⟩, _, _, rfl, rfl, _, rfl, ?_⟩
    refine ite2 (fun c1 => ?x1) (fun c1 => iteF ?x3)
    case' x1 =>
      refine ⟨_, rfl, _, _, rfl, rfl, _, rfl, ?_⟩
      refine ite2 (fun c2 => ?x2) (fun c2 => ?x4)
      case x2 =>
        refine ⟨_, rfl, .inl ⟨rfl, _, SqL.of upd_same⟩, _, rfl, .inl ⟨_, rfl, _, _, rfl, rfl, (by show (0 : Int) < 4096; decide), l, _, _, rfl, rfl, upd_same, hlen2, ?_⟩⟩
        refine ⟨_, rfl, _, _, rfl, rfl, ⟨by decide, by decide⟩, ?_⟩
        exact last _ _ _ (Int.emod_nonneg _ (by decide)) (Int.emod_lt_of_pos _ (by decide))
    all_goals
      refine ⟨_, rfl, _, _, rfl, rfl, .inr ⟨by decide, by decide⟩, _, rfl, _, _, rfl, rfl, _, _, rfl, rfl, .inr ⟨by decide, by decide⟩, _, _, rfl, rfl, .inl ⟨_, rfl, _, _, rfl, rfl, (by show (0 : Int) < 2147483647; decide), ?_⟩⟩
      refine ⟨_, rfl, _, rfl, _, _, rfl, rfl, (.inl (md _ 2147483647 (by decide) (by decide)).2), _, rfl, _, _, rfl, rfl, .inr ⟨by decide, by decide⟩, _, _, rfl, rfl, _, rfl, _, _, rfl, rfl, .inr ⟨by decide, by decide⟩, _, _, rfl, rfl, .inl ⟨_, rfl, _, _, rfl, rfl, (by show (0 : Int) < 2147483629; decide), ?_⟩⟩
      refine ⟨_, rfl, _, rfl, _, _, rfl, rfl, (.inl (md _ 2147483629 (by decide) (by decide)).2), _, rfl, _, _, rfl, rfl, _, rfl, _, _, rfl, rfl, .inl ⟨by decide, by decide⟩, _, _, rfl, rfl, .inl ⟨_, rfl, _, _, rfl, rfl, (by show (0 : Int) < 2147483587; decide), ?_⟩⟩
      refine ⟨_, rfl, .inl ⟨rfl, _, SqL.of upd_same⟩, _, rfl, _, _, rfl, rfl, ⟨by decide, by decide⟩, _, _, rfl, rfl, (by show (0 : Int) < 4096; decide), l, _, _, rfl, rfl, upd_same, hlen2, ?_⟩
      exact last _ _ _ (Int.emod_nonneg _ (by decide)) (Int.emod_lt_of_pos _ (by decide))
  · rintro σ H' ⟨ns, left, kk, mm, rfl, rfl, hlen, hb⟩
    exact ⟨_, rfl, q l ns nl hlen hb⟩
/-- a promise that asks what can't be is kept -/
theorem sameIn {H H' : Hp} {p : Addr} {o : HO} (x : Same H H') (h : H p = none) : Same H (upd H' p o) := fun b u q => by rw [upd_ne (ne_of_none q h)]; exact x b u q
theorem sqAny {H H' : Hp} {a : Addr} {xs : List V} (s0 : Same H H') (h : SqL K H a xs ∨ SqT K H a xs) : SqL K H' a xs ∨ SqT K H' a xs :=
  h.imp (fun z => s0.seq z) fun z => Same.sqT s0 z
theorem ixAny {H : Hp} {a : Addr} {xs : List V} {i : Int} {v : V} {Q : VK} (h : SqL K H a xs ∨ SqT K H a xs) (e : atI xs i = some v) (q : Q v H) : rIx K (.ref a) (.int i) H Q := by
  rcases h with h | h
  · exact .inl ⟨a, xs, i, v, rfl, rfl, h, e, q⟩
  · exact .inr (.inl ⟨a, xs, i, v, rfl, rfl, h, e, q⟩)
end
end LW

set_option Elab.async false
set_option linter.all false
set_option maxRecDepth 100000
set_option maxHeartbeats 4000000
namespace LW
open PySem PySem.Spec PyProof.Rows L2 LamX NdefX VB VM VP VR
abbrev s_order_key : Stmt := top 2
theorem sc_order_key : FnScope ["behaviour", "kind", "trace", "offers"] ["behaviour"] (defScope s_order_key) := ⟨rfl, rfl, rfl, by decide +kernel, rfl, by decide +kernel, by decide +kernel⟩
abbrev s__law_key : Stmt := top 7
theorem sc__law_key : FnScope ["behaviour", "offers", "kind"] ["behaviour"] (defScope s__law_key) := ⟨rfl, rfl, rfl, by decide +kernel, rfl, by decide +kernel, by decide +kernel⟩
structure Bh where
  k : Nat
  tr : List Str
  of : List Str
deriving DecidableEq
def kindS : Nat → Str
  | 0 => "trace"
  | 1 => "divergence"
  | _ => "failure"
def kinds : List Str := ["trace", "divergence", "failure"]
/-- a behaviour's tuple -/
def BhAt (K : PySem.W.Frag) (H : Hp) (a : Addr) (b : Bh) : Prop := ∃ t : Addr, SqT K H t (b.tr.map V.str) ∧
  ((b.k < 2 ∧ b.of = [] ∧ SqT K H a [.str (kindS b.k), .ref t]) ∨ (b.k = 2 ∧ ∃ o : Addr, SqT K H a [.str "failure", .ref t, .ref o] ∧ SqT K H o (b.of.map V.str)))
def KeyAt (K : PySem.W.Frag) (H : Hp) (a : Addr) (b : Bh) : Prop := ∃ t o : Addr, SqT K H a [.int (b.tr.length : Nat), .ref t, .int (b.k : Nat), .int (b.of.length : Nat), .ref o] ∧ SqT K H t (b.tr.map V.str) ∧ SqT K H o (b.of.map V.str)
theorem kinds_at {k : Nat} (h : k ≤ 2) : kinds[k]? = some (kindS k) ∧ ∀ m, m < k → kinds[m]? ≠ some (kindS k) := by
  match k, h with
  | 0, _ => exact ⟨rfl, fun m hm => absurd hm (Nat.not_lt_zero _)⟩
  | 1, _ => exact ⟨rfl, fun m hm => by obtain rfl : m = 0 := by omega
                                       decide +kernel⟩
  | 2, _ => exact ⟨rfl, fun m hm => by
      rcases (show m = 0 ∨ m = 1 by omega) with rfl | rfl <;> decide +kernel⟩
theorem kinds_ix {k : Nat} (h : k ≤ 2) : (kinds.map V.str)[k]? = some (V.str (kindS k)) ∧ eqV (.str (kindS k)) (.str (kindS k)) = true ∧ ∀ (m : Nat) (z' : V), m < k → (kinds.map V.str)[m]? = some z' → eqV z' (.str (kindS k)) = false := by
  match k, h with
  | 0, _ => exact ⟨rfl, by decide +kernel, fun m z hm => absurd hm (Nat.not_lt_zero _)⟩
  | 1, _ => exact ⟨rfl, by decide +kernel, fun m z hm e => by
      obtain rfl : m = 0 := by omega
      obtain rfl := Option.some.inj (show some (V.str "trace") = some z from e)
      decide +kernel⟩
  | 2, _ => exact ⟨rfl, by decide +kernel, fun m z hm e => by
      rcases (show m = 0 ∨ m = 1 by omega) with rfl | rfl
      · obtain rfl := Option.some.inj (show some (V.str "trace") = some z from e)
        decide +kernel
      · obtain rfl := Option.some.inj (show some (V.str "divergence") = some z from e)
        decide +kernel⟩
theorem kindS_f {k : Nat} (h : k ≤ 2) : decide (V.str (kindS k) = V.str "failure") = decide (k = 2) := by
  match k, h with
  | 0, _ => decide +kernel
  | 1, _ => decide +kernel
  | 2, _ => decide +kernel
theorem BhAt.kp {K : PySem.W.Frag} {H H' : Hp} {a : Addr} {b : Bh} (h : BhAt K H a b) (k : Kp H H') : BhAt K H' a b := by
  obtain ⟨t, h1, h2⟩ := h
  refine ⟨t, k.sqT h1, ?_⟩
  rcases h2 with ⟨e, f, g⟩ | ⟨e, o, g1, g2⟩
  · exact .inl ⟨e, f, k.sqT g⟩
  · exact .inr ⟨e, o, k.sqT g1, k.sqT g2⟩
theorem KeyAt.kp {K : PySem.W.Frag} {H H' : Hp} {a : Addr} {b : Bh} (h : KeyAt K H a b) (k : Kp H H') : KeyAt K H' a b := by
  obtain ⟨t, o, h1, h2, h3⟩ := h
  exact ⟨t, o, k.sqT h1, k.sqT h2, k.sqT h3⟩
section
variable {P : Program} {w : World} {K : PySem.W.Frag} {mg : Str → Option Value} {base : Heap}
def spKey (K : PySem.W.Frag) : Sp := fun vs H Q _ => ∃ (a : Addr) (b : Bh), vs = [.ref a] ∧ BhAt K H a b ∧ b.tr.length ≤ 1000 ∧ b.of.length ≤ 1000 ∧ ∀ (q : Addr) (H' : Hp), Same H H' → KeyAt K H' q b → Q (.ref q) H'
theorem c_key {ka : Addr} (D : Df K mg "order_key" s_order_key) (z_len : mg "len" = none) (g_KINDS : ∃ u, mg "KINDS" = some u ∧ RelV (.ref ka) u) (hk : ∀ H, SqT K H ka (kinds.map V.str)) (hkd : TupN K ka) : C8.Cal P w K mg base 1 "order_key" (spKey K) [] := by
  refine D.cal sc_order_key (fun _ _ _ _ _ _ us hl => match us, hl with | [_], _ => rfl) (fun vs H Q E h => ?_) (fun f cdv A outer s0 H vs Q E hr h => ?_)
  · obtain ⟨a, b, rfl, _⟩ := h
    rfl
  obtain ⟨a, b, rfl, ⟨t, ht, hb⟩, l1, l2, q⟩ := h
  refine ⟨_, (pss_cons (ps_set (i := 1) sc_order_key.nd rfl (Or.inl rfl) (pe_ix (VK.ixT (K := K) rfl) (pv 0) pe_int (fun _ _ => rfl)))
    (pss_cons (ps_set (i := 2) sc_order_key.nd rfl (Or.inl rfl) (pe_ix (VK.ixT (K := K) rfl) (pv 0) pe_int (fun _ _ => rfl)))
    (pss_cons (ps_set (i := 3) sc_order_key.nd rfl (Or.inl rfl) (pe_ifExp (pt_cmpR op_eq (pv 1) pe_str (nomark _)) (pe_ix (VK.ixT (K := K) rfl) (pv 0) pe_int (fun _ _ => rfl)) (pe_tup pa_nil)))
    (pss_one (ps_ret (pe_tup (pa_cons (pe_callB (VK.lenQ (K := K) rfl) (by rfl) z_len PySem.boot_len (pa_cons (pv 2) pa_nil)) (pa_cons (pv 2) (pa_cons (pe_bm PySem.F.plainAttrs_tuple PySem.F.slot_tuple_index PySem.F.type_tuple_index (VR.ixOf (K := K) rfl) (C8.pe_gc rfl g_KINDS) (pa_cons (pv 1) pa_nil)) (pa_cons (pe_callB (VK.lenQ (K := K) rfl) (by rfl) z_len PySem.boot_len (pa_cons (pv 3) pa_nil)) (pa_cons (pv 3) pa_nil))))))))))), ?_⟩
  have zl := sizeLine_eq
  rcases hb with ⟨hk2, ho, ha⟩ | ⟨hk2, o, ha, ho⟩
  · obtain ⟨i1, i2⟩ := kinds_at (k := b.k) (by omega)
    have nf := kindS_f (k := b.k) (by omega)
    refine ⟨_, rfl, a, _, _, _, rfl, rfl, ha, rfl, ?_⟩
    refine ⟨_, rfl, a, _, _, _, rfl, rfl, ha, rfl, ?_⟩
    refine ⟨_, rfl, rfl, _, rfl, ?_⟩
    refine iteFe (by rw [nf]; exact decide_eq_false (by omega)) ?_
    refine ⟨Nat.zero_le _, fun p np => ?_⟩
    have s1 := same_upd np (.tup [])
    refine ⟨_, rfl, t, _, rfl, .inr (VB.Same.sqT s1 ht), _, rfl, .inr (.inl ⟨rfl, hkd⟩), _, rfl, ka, kinds, kindS b.k, b.k, rfl, rfl, hk _, i1, i2, ?_⟩
    refine ⟨_, rfl, p, _, rfl, .inr (.inl (.inl upd_same)), _, rfl, (by show 5 ≤ sizeLine; omega), fun r nr => ?_⟩
    have s2 := same_upd nr (.tup [.int (((b.tr.map V.str).length : Nat) : Int), .ref t, .int (b.k : Nat), .int ((([] : List V).length : Nat) : Int), .ref p])
    refine q r _ (s1.trans s2) ⟨t, p, ?_, VB.Same.sqT (s1.trans s2) ht, ?_⟩
    · rw [ho, ← List.length_map (as := b.tr) (f := V.str)]
      exact .inl (.inl upd_same)
    · rw [ho]
      exact .inl (.inl (s2 _ _ upd_same))
  · obtain ⟨i1, i2⟩ := kinds_at (k := 2) (by omega)
    refine ⟨_, rfl, a, _, _, _, rfl, rfl, ha, rfl, ?_⟩
    refine ⟨_, rfl, a, _, _, _, rfl, rfl, ha, rfl, ?_⟩
    refine ⟨_, rfl, rfl, _, rfl, ?_⟩
    refine iteT ?_
    refine ⟨_, rfl, a, _, _, _, rfl, rfl, ha, rfl, ?_⟩
    refine ⟨_, rfl, t, _, rfl, .inr ht, _, rfl, .inr (.inl ⟨rfl, hkd⟩), _, rfl, ka, kinds, kindS 2, 2, rfl, rfl, hk _, i1, i2, ?_⟩
    refine ⟨_, rfl, o, _, rfl, .inr ho, _, rfl, (by show 5 ≤ sizeLine; omega), fun r nr => ?_⟩
    have s2 := same_upd nr (.tup [.int (((b.tr.map V.str).length : Nat) : Int), .ref t, .int ((2 : Nat) : Int), .int (((b.of.map V.str).length : Nat) : Int), .ref o])
    refine q r _ s2 ⟨t, o, ?_, VB.Same.sqT s2 ht, VB.Same.sqT s2 ho⟩
    rw [hk2, ← List.length_map (as := b.tr) (f := V.str), ← List.length_map (as := b.of) (f := V.str)]
    exact .inl (.inl upd_same)
theorem flat_strs (o : List Str) : (o.map V.str).all flatV = true := by
  induction o with
  | nil => rfl
  | cons x o ih => rw [List.map_cons, List.all_cons, ih] <;> rfl
theorem c_lkey (D : Df K mg "_law_key" s__law_key) (z_len : mg "len" = none) : C8.Cal P w K mg base 1 "_law_key" (spKey K) [] := by
  refine D.cal sc__law_key (fun _ _ _ _ _ _ us hl => match us, hl with | [_], _ => rfl) (fun vs H Q E h => ?_) (fun f cdv A outer s0 H vs Q E hr h => ?_)
  · obtain ⟨a, b, rfl, _⟩ := h
    rfl
  obtain ⟨a, b, rfl, ⟨t, ht, hb⟩, l1, l2, q⟩ := h
  refine ⟨_, (pss_cons (ps_set (i := 1) sc__law_key.nd rfl (Or.inl rfl) (pe_tup pa_nil))
    (pss_cons (ps_if (pt_cmpR op_eq (pe_ix (VK.ixT (K := K) rfl) (pv 0) pe_int (fun _ _ => rfl)) pe_str (nomark _))
      (pss_one (ps_set (i := 1) sc__law_key.nd rfl (Or.inl rfl) (pe_ix (VK.ixT (K := K) rfl) (pv 0) pe_int (fun _ _ => rfl))))
      pss_nil)
    (pss_cons (ps_set (i := 2) sc__law_key.nd rfl (Or.inl rfl) (pe_bm PySem.F.plainAttrs_list PySem.F.slot_list_index PySem.F.type_list_index mt_index (pe_lst (pa_cons pe_str (pa_cons pe_str (pa_cons pe_str pa_nil)))) (pa_cons (pe_ix (VK.ixT (K := K) rfl) (pv 0) pe_int (fun _ _ => rfl)) pa_nil)))
    (pss_one (ps_ret (pe_tup (pa_cons (pe_callB (VK.lenQ (K := K) rfl) (by rfl) z_len PySem.boot_len (pa_cons (pe_ix (VK.ixT (K := K) rfl) (pv 0) pe_int (fun _ _ => rfl)) pa_nil)) (pa_cons (pe_ix (VK.ixT (K := K) rfl) (pv 0) pe_int (fun _ _ => rfl)) (pa_cons (pv 2) (pa_cons (pe_callB (VK.lenQ (K := K) rfl) (by rfl) z_len PySem.boot_len (pa_cons (pv 1) pa_nil)) (pa_cons (pv 1) pa_nil))))))))))), ?_⟩
  have zl := sizeLine_eq
  refine ⟨Nat.zero_le _, fun p np => ?_⟩
  have s1 := same_upd np (.tup [])
  rcases hb with ⟨hk2, ho, ha⟩ | ⟨hk2, o, ha, ho⟩
  · obtain ⟨i1, i2⟩ := kinds_at (k := b.k) (by omega)
    have nf := kindS_f (k := b.k) (by omega)
    have ha1 := VB.Same.sqT s1 ha
    refine ⟨_, rfl, a, _, _, _, rfl, rfl, ha1, rfl, rfl, _, rfl, ?_⟩
    refine iteFe (by rw [nf]; exact decide_eq_false (by omega)) ?_
    obtain ⟨e1, e2, e3⟩ := kinds_ix (k := b.k) (by omega)
    refine ⟨(by show 3 ≤ sizeLine; omega), fun kl nkl => ?_⟩
    have s2 := same_upd nkl (.lst (kinds.map V.str))
    have s12 := s1.trans s2
    refine ⟨.inl ⟨rfl, _, SqL.of upd_same⟩, _, rfl, a, _, _, _, rfl, rfl, VB.Same.sqT s12 ha, rfl, kl, _, _, b.k, _, rfl, rfl, SqL.of upd_same, rfl, rfl, e1, e2, e3, ?_⟩
    refine ⟨_, rfl, a, _, _, _, rfl, rfl, VB.Same.sqT s12 ha, rfl, t, _, rfl, .inr (VB.Same.sqT s12 ht), _, rfl, a, _, _, _, rfl, rfl, VB.Same.sqT s12 ha, rfl, _, rfl, _, rfl, p, _, rfl, .inr (.inl (.inl (s2 _ _ upd_same))), _, rfl, (by show 5 ≤ sizeLine; omega), fun r nr => ?_⟩
    have s3 := same_upd nr (.tup [.int (((b.tr.map V.str).length : Nat) : Int), .ref t, .int (b.k : Nat), .int ((([] : List V).length : Nat) : Int), .ref p])
    refine q r _ (s12.trans s3) ⟨t, p, ?_, VB.Same.sqT (s12.trans s3) ht, ?_⟩
    · rw [ho, ← List.length_map (as := b.tr) (f := V.str)]
      exact .inl (.inl upd_same)
    · rw [ho]
      exact .inl (.inl (s3 _ _ (s2 _ _ upd_same)))
  · have ha1 := VB.Same.sqT s1 ha
    refine ⟨_, rfl, a, _, _, _, rfl, rfl, ha1, rfl, rfl, _, rfl, ?_⟩
    refine iteT ?_
    refine ⟨_, rfl, a, _, _, _, rfl, rfl, ha1, rfl, ?_⟩
    obtain ⟨e1, e2, e3⟩ := kinds_ix (k := 2) (by omega)
    refine ⟨(by show 3 ≤ sizeLine; omega), fun kl nkl => ?_⟩
    have s2 := same_upd nkl (.lst (kinds.map V.str))
    have s12 := s1.trans s2
    refine ⟨.inl ⟨rfl, _, SqL.of upd_same⟩, _, rfl, a, _, _, _, rfl, rfl, VB.Same.sqT s12 ha, rfl, kl, _, _, 2, _, rfl, rfl, SqL.of upd_same, rfl, rfl, e1, e2, e3, ?_⟩
    refine ⟨_, rfl, a, _, _, _, rfl, rfl, VB.Same.sqT s12 ha, rfl, t, _, rfl, .inr (VB.Same.sqT s12 ht), _, rfl, a, _, _, _, rfl, rfl, VB.Same.sqT s12 ha, rfl, _, rfl, _, rfl, o, _, rfl, .inr (VB.Same.sqT s12 ho), _, rfl, (by show 5 ≤ sizeLine; omega), fun r nr => ?_⟩
    have s3 := same_upd nr (.tup [.int (((b.tr.map V.str).length : Nat) : Int), .ref t, .int ((2 : Nat) : Int), .int (((b.of.map V.str).length : Nat) : Int), .ref o])
    refine q r _ (s12.trans s3) ⟨t, o, ?_, VB.Same.sqT (s12.trans s3) ht, VB.Same.sqT (s12.trans s3) ho⟩
    rw [hk2, ← List.length_map (as := b.tr) (f := V.str), ← List.length_map (as := b.of) (f := V.str)]
    exact .inl (.inl upd_same)
end
end LW

set_option Elab.async false
set_option linter.all false
set_option maxRecDepth 100000
set_option maxHeartbeats 4000000
namespace LW
open PySem PySem.Spec PyProof.Rows L2 LamX NdefX VB VM VP VR
abbrev s__law_few : Stmt := top 6
theorem sc__law_few : FnScope ["draw", "words", "k"] ["draw", "words"] (defScope s__law_few) := ⟨rfl, rfl, rfl, by decide +kernel, rfl, by decide +kernel, by decide +kernel⟩
abbrev s__law_words : Stmt := top 8
theorem sc__law_words : FnScope ["draw", "most", "words", "k"] ["draw", "most"] (defScope s__law_words) := ⟨rfl, rfl, rfl, by decide +kernel, rfl, by decide +kernel, by decide +kernel⟩
section
variable {P : Program} {w : World} {K : PySem.W.Frag} {mg : Str → Option Value} {base : Heap}
theorem pow6 {i : Nat} (h : i < 6) : ∃ e : Int, atI [V.int 1, .int 2, .int 4, .int 8, .int 16, .int 32] ((0 : Int) + (i : Nat)) = some (.int e) ∧ 0 < e ∧ e ≤ 32 :=
  match i, h with
  | 0, _ => ⟨1, rfl, by decide, by decide⟩
  | 1, _ => ⟨2, rfl, by decide, by decide⟩
  | 2, _ => ⟨4, rfl, by decide, by decide⟩
  | 3, _ => ⟨8, rfl, by decide, by decide⟩
  | 4, _ => ⟨16, rfl, by decide, by decide⟩
  | 5, _ => ⟨32, rfl, by decide, by decide⟩
theorem five4 {i : Nat} (h : i < 4) : ∃ e : Int, atI [V.int 1, .int 5, .int 25, .int 125] ((0 : Int) + (i : Nat)) = some (.int e) ∧ 0 < e ∧ e ≤ 125 :=
  match i, h with
  | 0, _ => ⟨1, rfl, by decide, by decide⟩
  | 1, _ => ⟨5, rfl, by decide, by decide⟩
  | 2, _ => ⟨25, rfl, by decide, by decide⟩
  | 3, _ => ⟨125, rfl, by decide, by decide⟩
theorem pickI {α : Type} (xs : List α) (f : α → V) {r : Int} (h0 : 0 ≤ r) (h1 : r < xs.length) : ∃ x ∈ xs, atI (xs.map f) r = some (f x) := by
  have lt : r.toNat < xs.length := by omega
  refine ⟨xs[r.toNat], List.getElem_mem lt, ?_⟩
  have e : r = ((r.toNat : Nat) : Int) := by omega
  generalize hj : r.toNat = j at lt e
  subst e
  exact atI_nat (by rw [List.getElem?_map, List.getElem?_eq_getElem (by omega)] <;> simp [hj])
/-- some of few words, ascending -/
def spFew (K : PySem.W.Frag) : Sp := fun vs H Q _ => ∃ (d : Int) (a : Addr) (ws : List Str), vs = [.int d, .ref a] ∧ SqL K H a (ws.map V.str) ∧ ws.length ≤ 6 ∧ 0 ≤ d ∧
  ∀ (q : Addr) (H' : Hp) (ss : List Str), Same H H' → H' q = some (.tup (ss.map V.str)) → (∀ x ∈ ss, x ∈ ws) → ss.length ≤ ws.length → Q (.ref q) H'
theorem c_few (D : Df K mg "_law_few" s__law_few) (z_len : mg "len" = none) (z_range : mg "range" = none) (z_sorted : mg "sorted" = none) (z_tuple : mg "tuple" = none) : C8.Cal P w K mg base 1 "_law_few" (spFew K) [] := by
  refine D.cal sc__law_few (fun _ _ _ _ _ _ us hl => match us, hl with | [_, _], _ => rfl) (fun vs H Q E h => ?_) (fun f cdv A outer s0 H vs Q E hr h => ?_)
  · obtain ⟨d, a, ws, rfl, _⟩ := h
    rfl
  obtain ⟨d, a, ws, rfl, hS, len, d0, q⟩ := h
  refine ⟨_, (pss_one (ps_ret (pe_callTy (VK.tupQ (K := K) rfl) (by rfl) z_tuple (by decide +kernel) (pa_cons (pe_callB (VK.sortedS (K := K) rfl hr) (by rfl) z_sorted (by decide +kernel) (pa_cons (pe_lc (own := [("k", 2)]) rfl sc__law_few.nd (pi_range1 rfl z_range (pa_cons (pe_callB (VK.lenQ (K := K) rfl) (by rfl) z_len PySem.boot_len (pa_cons (pv 1) pa_nil)) pa_nil)) (blkOk_by (N := ["draw", "words", "k"]) (sc := defScope s__law_few) (by decide +kernel)) (fun _ _ _ _ _ => (pg_name (i := 2) sc__law_few.nd rfl (Or.inl rfl) (hf := Or.inr rfl))) (fun _ _ _ _ _ => (pts_one (pt_cmpR op_eq (pe_op op_mod (pe_op op_fdivN (pv 0) (pe_ix (VK.ixL (K := K) rfl) (pe_lst (pa_cons pe_int (pa_cons pe_int (pa_cons pe_int (pa_cons pe_int (pa_cons pe_int (pa_cons pe_int pa_nil))))))) (pv 2) (fun _ _ => rfl))) pe_int) pe_int (nomark _)))) (fun _ _ _ _ _ => (pe_ix (VK.ixL (K := K) rfl) (pv 1) (pv 2) (fun _ _ => rfl)))) pa_nil)) pa_nil)))), ?_⟩
  have zl := sizeLine_eq
  refine ⟨_, rfl, a, _, rfl, .inl hS, ((ws.length : Nat) : Int), by rw [List.length_map], by omega, by omega, fun D1 nD => ?_⟩
  refine lc_range (lo := 0) (n := ws.length) (fun i H' => ∃ ss : List Str, Same H H' ∧ H' D1 = some (.lst (ss.map V.str)) ∧ (∀ x ∈ ss, x ∈ ws) ∧ ss.length ≤ i) ⟨[], same_upd nD _, upd_same, fun x hx => absurd hx List.not_mem_nil, Nat.le_refl _⟩ ?_ ?_
  · rintro i H1 hi ⟨ss, s1, hD, sub, ls⟩
    refine ⟨rfl, ?_⟩
    refine ⟨_, rfl, (by show 6 ≤ sizeLine; omega), fun xl nxl => ?_⟩
    have s2 := same_upd nxl (.lst [.int 1, .int 2, .int 4, .int 8, .int 16, .int 32])
    obtain ⟨e, he, e0, e1⟩ := pow6 (show i < 6 by omega)
    refine ⟨_, rfl, xl, _, _, _, rfl, rfl, SqL.of upd_same, he, ?_⟩
    refine ⟨_, _, rfl, rfl, ⟨by omega, by omega⟩, _, _, rfl, rfl, (by show (0 : Int) < 2; decide), rfl, _, rfl, ?_⟩
    obtain ⟨x, xin, hx⟩ := pickI ws V.str (r := (0 : Int) + (i : Nat)) (by omega) (by omega)
    refine ite2 (fun c => ?_) (fun c => ?_)
    · refine ⟨_, rfl, _, rfl, a, _, _, _, rfl, rfl, (s1.trans s2).seq hS, hx, _, s2 _ _ hD, by rw [List.length_map]; omega, ss ++ [x], sameIn (s1.trans s2) nD, by rw [upd_same, List.map_append] <;> rfl, fun y hy => ?_, by rw [List.length_append, List.length_singleton]; omega⟩
      rcases List.mem_append.mp hy with z | z
      · exact sub y z
      · rw [List.mem_singleton.mp z]; exact xin
    · exact ⟨ss, s1.trans s2, s2 _ _ hD, sub, by omega⟩
  · rintro H1 ⟨ss, s1, hD, sub, ls⟩
    refine ⟨D1, ss, rfl, SqL.of hD, fun b nb => ?_⟩
    have s2 := same_upd nb (.lst ((ss.mergeSort VS.leS).map V.str))
    exact ⟨b, _, rfl, .inl ⟨SqL.of upd_same, fun l nl => q l _ _ ((s1.trans s2).trans (same_upd nl _)) upd_same (fun x hx => sub x (List.mem_mergeSort.mp hx)) (by rw [List.length_mergeSort]; exact ls)⟩⟩
def w5 : List Str := ["a", "b", "tick", "aa", "b1"]
/-- a trace of few words -/
def spWords : Sp := fun vs H Q _ => ∃ (d m : Int), vs = [.int d, .int m] ∧ 0 ≤ d ∧ m = 3 ∧
  ∀ (q : Addr) (H' : Hp) (ss : List Str), Same H H' → H' q = some (.tup (ss.map V.str)) → (∀ x ∈ ss, x ∈ w5) → ss.length ≤ 3 → Q (.ref q) H'
theorem c_words (D : Df K mg "_law_words" s__law_words) (z_range : mg "range" = none) (z_tuple : mg "tuple" = none) : C8.Cal P w K mg base 1 "_law_words" spWords [] := by
  refine D.cal sc__law_words (fun _ _ _ _ _ _ us hl => match us, hl with | [_, _], _ => rfl) (fun vs H Q E h => ?_) (fun f cdv A outer s0 H vs Q E hr h => ?_)
  · obtain ⟨d, m, rfl, _⟩ := h
    rfl
  obtain ⟨d, m, rfl, d0, rfl, q⟩ := h
  refine ⟨_, (pss_cons (ps_set (i := 2) sc__law_words.nd rfl (Or.inr rfl) (pe_lst (pa_cons pe_str (pa_cons pe_str (pa_cons pe_str (pa_cons pe_str (pa_cons pe_str pa_nil)))))))
    (pss_one (ps_ret (pe_callTy (VK.tupQ (K := K) rfl) (by rfl) z_tuple (by decide +kernel) (pa_cons (pe_lc (own := [("k", 3)]) (tt := tYes) rfl sc__law_words.nd (pi_range1 rfl z_range (pa_cons (pe_op op_modN (pe_op op_fdiv (pv 0) pe_int) (pe_op op_add (pv 1) pe_int)) pa_nil)) (blkOk_by (N := ["draw", "most", "words", "k"]) (sc := defScope s__law_words) (by decide +kernel)) (fun _ _ _ _ _ => (pg_name (i := 3) sc__law_words.nd rfl (Or.inl rfl) (hf := Or.inr rfl))) (fun _ _ _ _ _ => pts_nil) (fun _ _ _ _ _ => (pe_ix (VK.ixL (K := K) rfl) (pv 2) (pe_op op_mod (pe_op op_fdivN (pv 0) (pe_ix (VK.ixL (K := K) rfl) (pe_lst (pa_cons pe_int (pa_cons pe_int (pa_cons pe_int (pa_cons pe_int pa_nil))))) (pv 3) (fun _ _ => rfl))) pe_int) (fun _ _ => rfl)))) pa_nil))))), ?_⟩
  have zl := sizeLine_eq
  refine ⟨(by show 5 ≤ sizeLine; omega), fun wl nwl => ?_⟩
  have s0 := same_upd nwl (.lst (w5.map V.str))
  have b0 := Int.fmod_nonneg_of_pos (d / 625) (show (0 : Int) < 3 + 1 by decide)
  have b1 := Int.fmod_lt_of_pos (d / 625) (show (0 : Int) < 3 + 1 by decide)
  refine ⟨_, rfl, _, _, rfl, rfl, ⟨by decide, by decide⟩, _, rfl, _, _, rfl, rfl, _, _, rfl, rfl, (by show (3 : Int) + 1 ≠ 0; decide), ?_⟩
  obtain ⟨m, em⟩ : ∃ m, m = (d / 625).fmod (3 + 1) := ⟨_, rfl⟩
  rw [← em] at b0 b1
  refine ⟨m, congrArg (fun z => [V.int z]) em.symm, by omega, by omega, fun D1 nD => ?_⟩
  refine lc_range (lo := 0) (n := m.toNat) (fun i H' => ∃ ss : List Str, Same H H' ∧ H' wl = some (.lst (w5.map V.str)) ∧ H' D1 = some (.lst (ss.map V.str)) ∧ (∀ x ∈ ss, x ∈ w5) ∧ ss.length ≤ i) ⟨[], s0.trans (same_upd nD _), (same_upd nD _) _ _ upd_same, upd_same, fun x hx => absurd hx List.not_mem_nil, Nat.le_refl _⟩ ?_ ?_
  · rintro i H1 hi ⟨ss, s1, hW, hD, sub, ls⟩
    refine ⟨rfl, ?_⟩
    refine ⟨_, rfl, _, rfl, (by show 4 ≤ sizeLine; omega), fun xl nxl => ?_⟩
    have s2 := same_upd nxl (.lst [.int 1, .int 5, .int 25, .int 125])
    obtain ⟨e, he, e0, e1⟩ := five4 (show i < 4 by omega)
    refine ⟨_, rfl, xl, _, _, _, rfl, rfl, SqL.of upd_same, he, ?_⟩
    refine ⟨_, _, rfl, rfl, ⟨by omega, by omega⟩, _, _, rfl, rfl, (by show (0 : Int) < 5; decide), ?_⟩
    have c0 : 0 ≤ d.fdiv e % 5 := Int.emod_nonneg _ (by decide)
    have c1 : d.fdiv e % 5 < 5 := Int.emod_lt_of_pos _ (by decide)
    obtain ⟨x, xin, hx⟩ := pickI w5 V.str c0 c1
    have nDH : H D1 = none := s0.free nD
    refine ⟨wl, _, _, _, rfl, rfl, SqL.of (s2 _ _ hW), hx, _, s2 _ _ hD, by rw [List.length_map]; omega, ss ++ [x], sameIn (s1.trans s2) nDH, ?_, by rw [upd_same, List.map_append] <;> rfl, fun y hy => ?_, by rw [List.length_append, List.length_singleton]; omega⟩
    · have ne : wl ≠ D1 := fun z => by rw [← z, upd_same] at nD; cases nD
      rw [upd_ne ne]
      exact s2 _ _ hW
    · rcases List.mem_append.mp hy with z | z
      · exact sub y z
      · rw [List.mem_singleton.mp z]; exact xin
  · rintro H1 ⟨ss, s1, hW, hD, sub, ls⟩
    refine ⟨D1, _, rfl, .inl ⟨SqL.of hD, fun l nl => q l _ _ (s1.trans (same_upd nl _)) upd_same sub (by omega)⟩⟩
end
end LW

set_option Elab.async false
set_option linter.all false
set_option maxRecDepth 100000
set_option maxHeartbeats 8000000
namespace LW
open PySem PySem.Spec PyProof.Rows L2 LamX NdefX VB VM VP VR
abbrev s_law : Stmt := top 9
theorem sc_law : FnScope ["script", "found", "k", "draws", "trace", "kind", "keys", "behaviour", "j", "mine", "other"] ["script"] (defScope s_law) := ⟨rfl, rfl, rfl, by decide +kernel, rfl, by decide +kernel, by decide +kernel⟩
structure OkB (b : Bh) : Prop where
  k : b.k ≤ 2
  tl : b.tr.length ≤ 3
  ol : b.of.length ≤ 4
  ts : ∀ x ∈ b.tr, PyData.strOk x = true
  os : ∀ x ∈ b.of, PyData.strOk x = true
  no : b.k < 2 → b.of = []
def keyD (b : Bh) : PyData := .tuple [.int (b.tr.length : Nat), .tuple (b.tr.map PyData.str), .int (b.k : Nat), .int (b.of.length : Nat), .tuple (b.of.map PyData.str)]
def bhD (b : Bh) : PyData := if b.k = 2 then .tuple [.str "failure", .tuple (b.tr.map PyData.str), .tuple (b.of.map PyData.str)] else .tuple [.str (kindS b.k), .tuple (b.tr.map PyData.str)]
section
variable {P : Program} {w : World} {K : PySem.W.Frag} {mg : Str → Option Value} {base : Heap}
theorem key_dp {H : Hp} {a : Addr} {b : Bh} (h : KeyAt K H a b) : Dp K H (.ref a) (keyD b) := by
  obtain ⟨t, o, h1, h2, h3⟩ := h
  exact .tup h1 (.cons (.int _) (.cons (.tup h2 (VB.dpAll_strs _)) (.cons (.int _) (.cons (.int _) (.cons (.tup h3 (VB.dpAll_strs _)) .nil)))))
theorem bh_dp {H : Hp} {a : Addr} {b : Bh} (h : BhAt K H a b) : Dp K H (.ref a) (bhD b) := by
  obtain ⟨t, h1, h2⟩ := h
  unfold bhD
  rcases h2 with ⟨e, f, g⟩ | ⟨e, o, g1, g2⟩
  · rw [if_neg (by omega)]
    exact .tup g (.cons (.str _) (.cons (.tup h1 (VB.dpAll_strs _)) .nil))
  · rw [if_pos e]
    exact .tup g1 (.cons (.str _) (.cons (.tup h1 (VB.dpAll_strs _)) (.cons (.tup g2 (VB.dpAll_strs _)) .nil)))
theorem strs_can {xs : List Str} (h : ∀ x ∈ xs, PyData.strOk x = true) : PyData.canLayAll0 (xs.map PyData.str) = true := by
  induction xs with
  | nil => rfl
  | cons x xs ih => rw [List.map_cons]; simp [PyData.canLayAll0, PyData.canLay0, h x List.mem_cons_self, ih fun y hy => h y (List.mem_cons_of_mem _ hy)]
theorem strs_dep : ∀ ss : List Str, PyData.depthAll (ss.map PyData.str) = 0
  | [] => rfl
  | s :: ss => by rw [List.map_cons]; unfold PyData.depthAll; rw [strs_dep ss] <;> rfl
theorem strs_eqv : ∀ xs ys : List Str, PyData.eqvAll (xs.map PyData.str) (ys.map PyData.str) = decide (xs = ys)
  | [], [] => rfl
  | [], _ :: _ => rfl
  | _ :: _, [] => rfl
  | x :: xs, y :: ys => by
    rw [List.map_cons, List.map_cons]
    unfold PyData.eqvAll
    rw [strs_eqv xs ys]
    by_cases h : x = y <;> simp [PyData.eqv, h]
theorem strs_alike : ∀ xs ys : List Str, PySem.W.alikeAll (xs.map PyData.str) (ys.map PyData.str) = true
  | [], _ => by rw [List.map_nil]; unfold PySem.W.alikeAll; rfl
  | _ :: _, [] => by rw [List.map_cons, List.map_nil]; unfold PySem.W.alikeAll; rfl
  | x :: xs, y :: ys => by
    rw [List.map_cons, List.map_cons]
    unfold PySem.W.alikeAll
    rw [strs_alike xs ys]
    rfl
theorem key_depth (b : Bh) : (keyD b).depth = 2 := by
  simp [keyD, PyData.depth, PyData.depthAll, strs_dep]
theorem key_shaped {b : Bh} (h : OkB b) : SeqAt.shaped (keyD b) = true := by
  unfold SeqAt.shaped
  rw [key_depth]
  simp [keyD, PyData.canLay0, PyData.canLayAll0, strs_can h.ts, strs_can h.os]
theorem kindS_ok {k : Nat} (h : k ≤ 2) : PyData.strOk (kindS k) = true := by
  match k, h with
  | 0, _ => decide +kernel
  | 1, _ => decide +kernel
  | 2, _ => decide +kernel
theorem bh_shaped {b : Bh} (h : OkB b) : SeqAt.shaped (bhD b) = true := by
  unfold bhD SeqAt.shaped
  by_cases c : b.k = 2
  · rw [if_pos c]
    have z : PyData.strOk ("failure" : Str) = true := by decide +kernel
    simp [PyData.canLay0, PyData.canLayAll0, PyData.depth, PyData.depthAll, strs_dep, strs_can h.ts, strs_can h.os, z]
  · rw [if_neg c]
    simp [PyData.canLay0, PyData.canLayAll0, PyData.depth, PyData.depthAll, strs_dep, strs_can h.ts, kindS_ok h.k]
theorem key_alike (a b : Bh) : PySem.W.alike (keyD a) (keyD b) = true := by
  simp [keyD, PySem.W.alike, PySem.W.alikeAll, strs_alike]
theorem kindS_inj {j k : Nat} (hj : j ≤ 2) (hk : k ≤ 2) : (kindS j = kindS k) ↔ j = k := by
  match j, hj, k, hk with
  | 0, _, 0, _ => simp
  | 0, _, 1, _ => decide +kernel
  | 0, _, 2, _ => decide +kernel
  | 1, _, 0, _ => decide +kernel
  | 1, _, 1, _ => simp
  | 1, _, 2, _ => decide +kernel
  | 2, _, 0, _ => decide +kernel
  | 2, _, 1, _ => decide +kernel
  | 2, _, 2, _ => simp
theorem int_eqv (a b : Int) : PyData.eqv (.int a) (.int b) = decide (a = b) := by
  by_cases h : a = b <;> simp [PyData.eqv, h]
theorem str_eqv (a b : Str) : PyData.eqv (.str a) (.str b) = decide (a = b) := by
  by_cases h : a = b <;> simp [PyData.eqv, h]
theorem key_eqv (a b : Bh) : PyData.eqv (keyD a) (keyD b) = decide (a = b) := by
  obtain ⟨ka, ta, oa⟩ := a
  obtain ⟨kb, tb, ob⟩ := b
  have e : PyData.eqv (keyD ⟨ka, ta, oa⟩) (keyD ⟨kb, tb, ob⟩) = (PyData.eqv (.int (ta.length : Nat)) (.int (tb.length : Nat)) && (PyData.eqvAll (ta.map PyData.str) (tb.map PyData.str) && (PyData.eqv (.int (ka : Nat)) (.int (kb : Nat)) && (PyData.eqv (.int (oa.length : Nat)) (.int (ob.length : Nat)) && PyData.eqvAll (oa.map PyData.str) (ob.map PyData.str))))) := by
    simp [keyD, PyData.eqv, PyData.eqvAll]
  rw [e, int_eqv, int_eqv, int_eqv, strs_eqv, strs_eqv, Bool.eq_iff_iff]
  simp only [Bool.and_eq_true, decide_eq_true_eq]
  constructor
  · rintro ⟨_, h1, h2, _, h3⟩
    rw [h1, h3, show ka = kb by omega]
  · intro h
    injection h with h1 h2 h3
    subst h1 h2 h3
    exact ⟨rfl, rfl, rfl, rfl, rfl⟩
theorem bh_eqv {a b : Bh} (ha : OkB a) (hb : OkB b) : PyData.eqv (bhD a) (bhD b) = decide (a = b) := by
  obtain ⟨ka, ta, oa⟩ := a
  obtain ⟨kb, tb, ob⟩ := b
  rw [Bool.eq_iff_iff, decide_eq_true_eq]
  unfold bhD
  by_cases c : ka = 2
  · by_cases d : kb = 2
    · subst c d
      rw [if_pos rfl, if_pos rfl]
      simp [PyData.eqv, PyData.eqvAll, strs_eqv]
    · rw [if_pos (show (⟨ka, ta, oa⟩ : Bh).k = 2 from c), if_neg (show ¬ (⟨kb, tb, ob⟩ : Bh).k = 2 from d)]
      simp [PyData.eqv, PyData.eqvAll]
      intro z
      omega
  · by_cases d : kb = 2
    · rw [if_neg (show ¬ (⟨ka, ta, oa⟩ : Bh).k = 2 from c), if_pos (show (⟨kb, tb, ob⟩ : Bh).k = 2 from d)]
      simp [PyData.eqv, PyData.eqvAll]
      intro z
      omega
    · rw [if_neg (show ¬ (⟨ka, ta, oa⟩ : Bh).k = 2 from c), if_neg (show ¬ (⟨kb, tb, ob⟩ : Bh).k = 2 from d)]
      have ka2 : ka ≤ 2 := ha.k
      have kb2 : kb ≤ 2 := hb.k
      have e1 : oa = [] := ha.no (by show ka < 2; omega)
      have e2 : ob = [] := hb.no (by show kb < 2; omega)
      subst e1 e2
      simp [PyData.eqv, PyData.eqvAll, strs_eqv, kindS_inj ka2 kb2]
end
end LW

set_option Elab.async false
set_option linter.all false
set_option maxRecDepth 100000
set_option maxHeartbeats 8000000
namespace LW
open PySem PySem.Spec PyProof.Rows L2 LamX NdefX VB VM VP VR
section
variable {P : Program} {w : World} {K : PySem.W.Frag} {mg : Str → Option Value} {base : Heap}
def Bhs (K : PySem.W.Frag) (H : Hp) (L : List (Addr × Bh)) : Prop := ∀ p ∈ L, BhAt K H p.1 p.2 ∧ OkB p.2
def Keys (K : PySem.W.Frag) (H : Hp) (L : List (Addr × Bh)) : Prop := ∀ p ∈ L, KeyAt K H p.1 p.2
theorem Bhs.kp {H H' : Hp} {L : List (Addr × Bh)} (h : Bhs K H L) (k : Kp H H') : Bhs K H' L := fun p hp => ⟨(h p hp).1.kp k, (h p hp).2⟩
theorem Keys.kp {H H' : Hp} {L : List (Addr × Bh)} (h : Keys K H L) (k : Kp H H') : Keys K H' L := fun p hp => (h p hp).kp k
theorem sqT_ty {H : Hp} {a : Addr} {xs : List V} (h : SqT K H a xs) : TyX K H (.ref a) (.type "tuple") := by
  rcases h with (h | ⟨o, h⟩) | ⟨o, its, n, h1, h2, _⟩
  · exact .base (.tup h)
  · exact .fTuple h
  · exact .kTuple h1 h2
theorem key_ty {H : Hp} {a : Addr} {b : Bh} (h : KeyAt K H a b) : TyX K H (.ref a) (.type "tuple") := by
  obtain ⟨t, o, h1, _⟩ := h
  exact sqT_ty h1
def spLaw (K : PySem.W.Frag) : Sp := fun vs H Q _ => ∃ (a : Addr) (ns : List Int), vs = [.ref a] ∧ SqL K H a (ns.map V.int) ∧ ns.length ≤ 63 ∧ ∀ H', Q (.bl true) H'
theorem f_law {f : Addr} {fd : FuncData} (F : FnP K "law" s_law f fd) (z_range : mg "range" = none) (z_min : mg "min" = none) (z_len : mg "len" = none) (z_isinstance : mg "isinstance" = none) (z_tuple : mg "tuple" = none)
    (c__law_cell : C8.Cal P w K mg base 1 "_law_cell" (spCell K) []) (c__law_draws : C8.Cal P w K mg base 1 "_law_draws" spDraws [])
    (c__law_few : C8.Cal P w K mg base 1 "_law_few" (spFew K) []) (c__law_words : C8.Cal P w K mg base 1 "_law_words" spWords [])
    (c_order_key : C8.Cal P w K mg base 1 "order_key" (spKey K) []) (c__law_key : C8.Cal P w K mg base 1 "_law_key" (spKey K) []) :
    FnOk P w K mg base CX0 14 f fd ["script"] (spLaw K) := by
  refine F.ok sc_law (fun vs H Q E h => ?_) (fun cdv A outer s H vs Q E0 hr h => ?_)
  · obtain ⟨a, ns, rfl, _⟩ := h
    rfl
  obtain ⟨sa, ns, rfl, hS, n63, q⟩ := h
  suffices hh : ∃ t0, PSs (cxOf CX0 P w K mg base ["script", "found", "k", "draws", "trace", "kind", "keys", "behaviour", "j", "mine", "other"] "law" (defScope s_law) f cdv A outer s H E0).nox (defBody s_law) t0 ∧
      t0 { nx := fun _ H' => Q .non H', rt := Q } (start ["script", "found", "k", "draws", "trace", "kind", "keys", "behaviour", "j", "mine", "other"] [.ref sa]) H by
    obtain ⟨t0, a, b⟩ := hh
    exact ⟨t0, a.nox, b⟩
  refine ⟨_, (pss_cons (ps_set (i := 1) sc_law.nd rfl (Or.inl rfl) (pe_lst pa_nil))
    (pss_cons (ps_for PassesOwn.never rfl (pi_range1 rfl z_range (pa_cons (pe_callB (call_min2 rfl) (by rfl) z_min (by decide +kernel) (pa_cons pe_int (pa_cons (pe_callB (VK.lenQ (K := K) rfl) (by rfl) z_len PySem.boot_len (pa_cons (pv 0) pa_nil)) pa_nil))) pa_nil)) (pg_name (i := 2) sc_law.nd rfl (Or.inl rfl))
      (pss_cons (ps_set (i := 3) sc_law.nd rfl (Or.inl rfl) (C8.pe_c c__law_draws hr (by first | decide | omega) rfl (pa_cons (C8.pe_c c__law_cell hr (by first | decide | omega) rfl (pa_cons (pv 0) (pa_cons (pv 2) pa_nil))) (pa_cons pe_int pa_nil))))
      (pss_cons (ps_set (i := 4) sc_law.nd rfl (Or.inl rfl) (C8.pe_c c__law_words hr (by first | decide | omega) rfl (pa_cons (pe_ix (VK.ixL (K := K) rfl) (pv 3) pe_int (fun _ _ => rfl)) (pa_cons pe_int pa_nil))))
      (pss_cons (ps_set (i := 5) sc_law.nd rfl (Or.inl rfl) (pe_op op_mod (pe_ix (VK.ixL (K := K) rfl) (pv 3) pe_int (fun _ _ => rfl)) pe_int))
      (pss_one (ps_if (pt_cmpR op_eq (pv 5) pe_int (nomark _))
        (pss_one (ps_expr (pe_bm PySem.F.plainAttrs_list PySem.F.slot_list_append PySem.F.type_list_append mt_append (pv 1) (pa_cons (pe_tup (pa_cons pe_str (pa_cons (pv 4) (pa_cons (C8.pe_c c__law_few hr (by first | decide | omega) rfl (pa_cons (pe_op op_mod (pe_ix (VK.ixL (K := K) rfl) (pv 3) pe_int (fun _ _ => rfl)) pe_int) (pa_cons (pe_lst (pa_cons pe_str (pa_cons pe_str (pa_cons pe_str (pa_cons pe_str pa_nil))))) pa_nil))) pa_nil)))) pa_nil))))
        (pss_one (ps_expr (pe_bm PySem.F.plainAttrs_list PySem.F.slot_list_append PySem.F.type_list_append mt_append (pv 1) (pa_cons (pe_tup (pa_cons (pe_ix (VK.ixL (K := K) rfl) (pe_lst (pa_cons pe_str (pa_cons pe_str pa_nil))) (pv 5) (fun _ _ => rfl)) (pa_cons (pv 4) pa_nil))) pa_nil))))))))))
    (pss_cons (ps_setLc (i := 6) (own := [("behaviour", 7)]) (tt := tYes) rfl sc_law.nd rfl rfl (sw_true rfl rfl rfl (by decide +kernel)) (pi_list (pv 1)) (blkOk_by (N := ["script", "found", "k", "draws", "trace", "kind", "keys", "behaviour", "j", "mine", "other"]) (sc := defScope s_law) (by decide +kernel)) (fun _ _ _ _ _ => (pg_name (i := 7) sc_law.nd rfl (Or.inl rfl) (hf := Or.inr rfl))) (fun _ _ _ _ _ => pts_nil) (fun _ _ _ _ _ => (C8.pe_c c_order_key hr (by first | decide | omega) rfl (pa_cons (pv 7) pa_nil))))
    (pss_cons (ps_for PassesOwn.never rfl (pi_range1 rfl z_range (pa_cons (pe_callB (VK.lenQ (K := K) rfl) (by rfl) z_len PySem.boot_len (pa_cons (pv 1) pa_nil)) pa_nil)) (pg_name (i := 2) sc_law.nd rfl (Or.inl rfl))
      (pss_one (ps_for PassesOwn.never rfl (pi_range1 rfl z_range (pa_cons (pe_callB (VK.lenQ (K := K) rfl) (by rfl) z_len PySem.boot_len (pa_cons (pv 1) pa_nil)) pa_nil)) (pg_name (i := 8) sc_law.nd rfl (Or.inl rfl))
        (pss_cons (ps_set (i := 9) sc_law.nd rfl (Or.inl rfl) (C8.pe_c c__law_key hr (by first | decide | omega) rfl (pa_cons (pe_ix (VK.ixL (K := K) rfl) (pv 1) (pv 2) (fun _ _ => rfl)) pa_nil)))
        (pss_cons (ps_set (i := 10) sc_law.nd rfl (Or.inl rfl) (C8.pe_c c__law_key hr (by first | decide | omega) rfl (pa_cons (pe_ix (VK.ixL (K := K) rfl) (pv 1) (pv 8) (fun _ _ => rfl)) pa_nil)))
        (pss_cons (ps_if (PW.pt (pw_or (pt_cmpR op_ne (pe_cmpR (VR.ltD (K := K) rfl (VP.un65 hr)) (pe_ix (VK.ixL (K := K) rfl) (pv 6) (pv 2) (fun _ _ => rfl)) (pe_ix (VK.ixL (K := K) rfl) (pv 6) (pv 8) (fun _ _ => rfl)) (nomark _)) (pe_cmpR (VR.ltD (K := K) rfl (VP.un65 hr)) (pv 9) (pv 10) (nomark _)) (nomark _)) (pw_or1 (pt_cmpR op_ne (pe_cmpR (VK.eqD (K := K) rfl hr.units) (pe_ix (VK.ixL (K := K) rfl) (pv 6) (pv 2) (fun _ _ => rfl)) (pe_ix (VK.ixL (K := K) rfl) (pv 6) (pv 8) (fun _ _ => rfl)) (nomark _)) (pe_cmpR (VK.eqD (K := K) rfl hr.units) (pe_ix (VK.ixL (K := K) rfl) (pv 1) (pv 2) (fun _ _ => rfl)) (pe_ix (VK.ixL (K := K) rfl) (pv 1) (pv 8) (fun _ _ => rfl)) (nomark _)) (nomark _)))))
          (pss_one (ps_ret pe_bl))
          pss_nil)
        (pss_one (ps_if (pt_not (pt_val (pe_callB (VK.isi (K := K) rfl) (by rfl) z_isinstance (by decide +kernel) (pa_cons (pe_ix (VK.ixL (K := K) rfl) (pv 6) (pv 2) (fun _ _ => rfl)) (pa_cons (pe_bltn (v := .ty "tuple") (by rfl) z_tuple (by decide +kernel) rfl) pa_nil)))))
          (pss_one (ps_ret pe_bl))
          pss_nil))))))))
    (pss_one (ps_ret pe_bl)))))), ?_⟩
  have zl := sizeLine_eq
  refine ⟨Nat.zero_le _, fun fl nfl => ?_⟩
  have s0 := same_upd nfl (.lst [])
  refine ⟨_, rfl, sa, _, rfl, .inl (s0.seq hS), 14, ((ns.length : Nat) : Int), by rw [List.length_map], ?_⟩
  obtain ⟨N, eN, hN⟩ : ∃ N : Nat, ((N : Nat) : Int) = (if ((ns.length : Nat) : Int) < 14 then ((ns.length : Nat) : Int) else 14) ∧ N ≤ 14 := by
    by_cases c : ((ns.length : Nat) : Int) < 14
    · exact ⟨ns.length, by rw [if_pos c], by omega⟩
    · exact ⟨14, by rw [if_neg c] <;> rfl, by omega⟩
  refine ⟨((N : Nat) : Int), congrArg (fun z => [V.int z]) eN.symm, by omega, by omega, for_range (lo := 0) (n := N)
    (fun i σ H' => ∃ (L : List (Addr × Bh)) (r3 r4 r5 r2 : Option V), σ = [some (.ref sa), some (.ref fl), r2, r3, r4, r5, none, none, none, none, none] ∧ Same H H' ∧ H' fl = some (.lst (refs L)) ∧ Bhs K H' L ∧ L.length = i)
    ⟨[], none, none, none, none, rfl, s0, upd_same, fun p hp => absurd hp List.not_mem_nil, rfl⟩ ?_ ?_⟩
  · rintro i σ H1 hi ⟨L, r3, r4, r5, r2, rfl, s1, hfl, hB, lenL⟩
    refine ⟨_, rfl, _, rfl, sa, ns, _, rfl, s1.seq hS, by omega, fun r r0 => ?_⟩
    refine ⟨r, 3, rfl, by decide, by decide, fun dp ds ndp lds bds => ?_⟩
    obtain ⟨x0, x1, x2, rfl⟩ : ∃ x0 x1 x2, ds = [x0, x1, x2] := by
      match ds, lds with
      | [x0, x1, x2], _ => exact ⟨x0, x1, x2, rfl⟩
    have sd := same_upd ndp (.lst ([x0, x1, x2].map V.int))
    have hdp : upd H1 dp (.lst ([x0, x1, x2].map V.int)) dp = some (.lst ([x0, x1, x2].map V.int)) := upd_same
    have s2 := s1.trans sd
    have hfl2 := sd _ _ hfl
    have hB2 := hB.kp (Kp.of sd)
    generalize upd H1 dp (.lst ([x0, x1, x2].map V.int)) = H2 at hdp s2 hfl2 hB2 ⊢
    have a0 : atI ([x0, x1, x2].map V.int) 0 = some (.int x0) := rfl
    have a1 : atI ([x0, x1, x2].map V.int) 1 = some (.int x1) := rfl
    have a2 : atI ([x0, x1, x2].map V.int) 2 = some (.int x2) := rfl
    have p0 := (bds x0 (by simp)).1
    have p2 := (bds x2 (by simp)).1
    refine ⟨_, rfl, dp, _, _, _, rfl, rfl, SqL.of hdp, a0, x0, 3, rfl, p0, rfl, fun tq H3 tr s3 htq subt ltr => ?_⟩
    have hdp3 := s3 _ _ hdp
    have hfl3 := s3 _ _ hfl2
    have hB3 := hB2.kp (Kp.of s3)
    have s13 := s2.trans s3
    refine ⟨_, rfl, dp, _, _, _, rfl, rfl, SqL.of hdp3, a1, _, _, rfl, rfl, (by show (0 : Int) < 3; decide), ?_⟩
    have k0 : 0 ≤ x1 % 3 := Int.emod_nonneg _ (by decide)
    have k1 : x1 % 3 < 3 := Int.emod_lt_of_pos _ (by decide)
    have tsok : ∀ x ∈ tr, PyData.strOk x = true := fun x hx => by
      have z : ∀ x ∈ w5, PyData.strOk x = true := by decide +kernel
      exact z x (subt x hx)
    refine ⟨_, rfl, rfl, _, rfl, ?_⟩
    refine ite2 (fun c => ?_) (fun c => ?_)
    · refine ⟨_, rfl, .inl ⟨rfl, _, SqL.of hfl3⟩, _, rfl, _, rfl, dp, _, _, _, rfl, rfl, SqL.of hdp3, a2, _, _, rfl, rfl, (by show (0 : Int) < 16; decide), (by show 4 ≤ sizeLine; omega), fun wl nwl => ?_⟩
      have s4 := same_upd nwl (.lst ([("a" : Str), "aa", "b", "tick"].map V.str))
      refine ⟨_, wl, [("a" : Str), "aa", "b", "tick"], rfl, SqL.of upd_same, by decide, Int.emod_nonneg _ (by decide), fun oq H5 of s5 hoq subo lo => ?_⟩
      have s35 := s4.trans s5
      refine ⟨(by show 3 ≤ sizeLine; omega), fun bt nbt => ?_⟩
      have s6 := same_upd nbt (.tup [.str "failure", .ref tq, .ref oq])
      have s36 := s35.trans s6
      have hfl6 := s36 _ _ hfl3
      refine ⟨fl, _, _, rfl, rfl, hfl6, by rw [refs_len]; omega, ?_⟩
      have k7 := Kp.updL hfl6 (.lst (refs L ++ [.ref bt]))
      refine ⟨L ++ [(bt, ⟨2, tr, of⟩)], _, _, _, _, rfl, sameIn (s13.trans s36) nfl, by rw [upd_same, refs_snoc], fun p hp => ?_, by rw [List.length_append, List.length_singleton, lenL]⟩
      rcases List.mem_append.mp hp with z | z
      · exact (hB3.kp ((Kp.of s36).trans k7)) p z
      · rw [List.mem_singleton.mp z]
        have z4 : ∀ x ∈ [("a" : Str), "aa", "b", "tick"], PyData.strOk x = true := by decide +kernel
        exact ⟨⟨tq, k7.sqT (.inl (.inl (s36 _ _ htq))), .inr ⟨rfl, oq, k7.sqT (.inl (.inl upd_same)), k7.sqT (.inl (.inl (s6 _ _ hoq)))⟩⟩, ⟨Nat.le_refl _, by omega, lo, tsok, fun x hx => z4 x (subo x hx), fun z => absurd z (Nat.lt_irrefl 2)⟩⟩
    · have kne : ¬ x1 % 3 = 2 := fun z => c (decide_eq_true (by show V.int (x1 % 3) = V.int 2; rw [z]))
      refine ⟨_, rfl, .inl ⟨rfl, _, SqL.of hfl3⟩, (by show 2 ≤ sizeLine; omega), fun wl nwl => ?_⟩
      have s4 := same_upd nwl (.lst ([("trace" : Str), "divergence"].map V.str))
      obtain ⟨kk, ekk, hkk⟩ : ∃ kk : Nat, x1 % 3 = ((kk : Nat) : Int) ∧ kk < 2 := ⟨(x1 % 3).toNat, by omega, by omega⟩
      have hat : atI ([("trace" : Str), "divergence"].map V.str) (x1 % 3) = some (.str (kindS kk)) := by
        rw [ekk]
        match kk, hkk with
        | 0, _ => rfl
        | 1, _ => rfl
      refine ⟨_, rfl, wl, _, _, _, rfl, rfl, SqL.of upd_same, hat, _, rfl, (by show 2 ≤ sizeLine; omega), fun bt nbt => ?_⟩
      have s6 := same_upd nbt (.tup [.str (kindS kk), .ref tq])
      have s36 := s4.trans s6
      have hfl6 := s36 _ _ hfl3
      refine ⟨fl, _, _, rfl, rfl, hfl6, by rw [refs_len]; omega, ?_⟩
      have k7 := Kp.updL hfl6 (.lst (refs L ++ [.ref bt]))
      refine ⟨L ++ [(bt, ⟨kk, tr, []⟩)], _, _, _, _, rfl, sameIn (s13.trans s36) nfl, by rw [upd_same, refs_snoc], fun p hp => ?_, by rw [List.length_append, List.length_singleton, lenL]⟩
      rcases List.mem_append.mp hp with z | z
      · exact (hB3.kp ((Kp.of s36).trans k7)) p z
      · rw [List.mem_singleton.mp z]
        exact ⟨⟨tq, k7.sqT (.inl (.inl (s36 _ _ htq))), .inl ⟨hkk, rfl, k7.sqT (.inl (.inl upd_same))⟩⟩, ⟨by show kk ≤ 2; omega, by omega, Nat.zero_le _, tsok, fun x hx => absurd hx List.not_mem_nil, fun _ => rfl⟩⟩
  · rintro σ H1 ⟨L, r3, r4, r5, r2, rfl, s1, hfl, hB, lenL⟩
    refine ⟨_, rfl, fl, rfl, ⟨_, SqL.of hfl⟩, fun D1 nD => ?_⟩
    refine lc_list (K := K) (a := fl) (xs := refs L) (fun i H2 => ∃ KL : List (Addr × Bh), Same H1 H2 ∧ H2 D1 = some (.lst (refs KL)) ∧ Keys K H2 KL ∧ KL.map (·.2) = (L.map (·.2)).take i)
      ⟨[], same_upd nD _, upd_same, fun p hp => absurd hp List.not_mem_nil, rfl⟩ (fun i H2 _ ⟨_, z, _⟩ => z.seq (SqL.of hfl)) ?_ ?_
    · rintro i v H2 hv ⟨KL, s2, hD, hK, eK⟩
      obtain ⟨p, hp, rfl⟩ := refs_at hv
      have pin := List.mem_of_getElem? hp
      have lti := (List.getElem?_eq_some_iff.mp hp).1
      refine ⟨rfl, ?_⟩
      obtain ⟨bp, okp⟩ := (hB.kp (Kp.of s2)) p pin
      have := okp.tl
      have := okp.ol
      refine ⟨_, rfl, p.1, p.2, rfl, bp, by omega, by omega, fun kq H3 s3 hkq => ?_⟩
      have lK : KL.length ≤ i := by
        have z := congrArg List.length eK
        rw [List.length_map] at z
        rw [z]
        exact List.length_take_le _ _
      have k4 := Kp.updL (s3 _ _ hD) (.lst (refs KL ++ [.ref kq]))
      refine ⟨_, s3 _ _ hD, by rw [refs_len]; omega, KL ++ [(kq, p.2)], sameIn (s2.trans s3) nD, by rw [upd_same, refs_snoc], fun y hy => ?_, ?_⟩
      · rcases List.mem_append.mp hy with z | z
        · exact (hK.kp ((Kp.of s3).trans k4)) y z
        · rw [List.mem_singleton.mp z]
          exact hkq.kp k4
      · rw [List.map_append, eK, List.take_succ, List.getElem?_map, hp] <;> rfl
    · rintro H2 ⟨KL, s2, hD, hK, eK⟩
      rw [refs_len, List.take_of_length_le (by rw [List.length_map]; exact Nat.le_refl _)] at eK
      have lK : KL.length = L.length := by
        have z := congrArg List.length eK
        rw [List.length_map, List.length_map] at z
        exact z
      have hfl2 := s2 _ _ hfl
      have hB2 := hB.kp (Kp.of s2)
      have s12 := s1.trans s2
      clear hB hfl s1 s2
      refine ⟨_, rfl, fl, _, rfl, .inl (SqL.of hfl2), ((L.length : Nat) : Int), by rw [refs_len], by omega, by omega, for_range (lo := 0) (n := L.length)
        (fun i σ H' => ∃ (r2 r8 r9 r10 : Option V), σ = [some (.ref sa), some (.ref fl), r2, r3, r4, r5, some (.ref D1), none, r8, r9, r10] ∧ Same H2 H') ⟨_, _, _, _, rfl, Same.refl _⟩ ?_ ?_⟩
      · rintro i σ H3 hi ⟨r2', r8, r9, r10, rfl, s3⟩
        refine ⟨_, rfl, fl, _, rfl, .inl (SqL.of (s3 _ _ hfl2)), ((L.length : Nat) : Int), by rw [refs_len], by omega, by omega, for_range (lo := 0) (n := L.length)
          (fun j σ H' => ∃ (r8 r9 r10 : Option V), σ = [some (.ref sa), some (.ref fl), some (.int (0 + (i : Nat))), r3, r4, r5, some (.ref D1), none, r8, r9, r10] ∧ Same H2 H') ⟨_, _, _, rfl, s3⟩ ?_ ?_⟩
        · rintro j σ H4 hj ⟨r8', r9', r10', rfl, s4⟩
          have hk2 : L[i]? = some L[i] := List.getElem?_eq_getElem hi
          have hj2 : L[j]? = some L[j] := List.getElem?_eq_getElem hj
          generalize L[i] = pk at hk2
          generalize L[j] = pj at hj2
          have ein : ∀ {m : Nat} {p : Addr × Bh}, L[m]? = some p → ∃ q : Addr × Bh, q.2 = p.2 ∧ KL[m]? = some q := fun {m p} h => by
            have z : (KL.map (·.2))[m]? = some p.2 := by rw [eK, List.getElem?_map, h] <;> rfl
            rw [List.getElem?_map] at z
            obtain ⟨q, h1, h2⟩ := Option.map_eq_some_iff.mp z
            exact ⟨q, h2, h1⟩
          obtain ⟨qk, eqk, hqk⟩ := ein hk2
          obtain ⟨qj, eqj, hqj⟩ := ein hj2
          obtain ⟨bk, okk⟩ := hB2 pk (List.mem_of_getElem? hk2)
          obtain ⟨bj, okj⟩ := hB2 pj (List.mem_of_getElem? hj2)
          have kqk := hK qk (List.mem_of_getElem? hqk)
          have kqj := hK qj (List.mem_of_getElem? hqj)
          rw [eqk] at kqk
          rw [eqj] at kqj
          have at1 : ∀ {α : Type} {M : List (Addr × α)} {m : Nat} {p : Addr × α}, M[m]? = some p → atI (refs M) ((0 : Int) + (m : Nat)) = some (V.ref p.1) := fun {α M m p} h => by
            rw [Int.zero_add]
            exact atI_nat (by rw [List.getElem?_map, h] <;> rfl)
          have := okk.tl
          have := okk.ol
          have := okj.tl
          have := okj.ol
          refine ⟨_, rfl, _, rfl, fl, _, _, _, rfl, rfl, SqL.of (s4 _ _ hfl2), at1 hk2, pk.1, pk.2, rfl, bk.kp (Kp.of s4), by omega, by omega, fun mq H5 s5 hmq => ?_⟩
          have s45 := s4.trans s5
          refine ⟨_, rfl, _, rfl, fl, _, _, _, rfl, rfl, SqL.of (s45 _ _ hfl2), at1 hj2, pj.1, pj.2, rfl, bj.kp (Kp.of s45), by omega, by omega, fun oq H6 s6 hoq => ?_⟩
          have s46 := s45.trans s6
          have hmq6 := hmq.kp (Kp.of s6)
          have kqk6 := kqk.kp (Kp.of s46)
          have kqj6 := kqj.kp (Kp.of s46)
          have ne0 : ∀ b : Bh, keyD b ≠ PyData.none := fun b z => by unfold keyD at z; cases z
          have dp2 : ∀ b : Bh, (keyD b).depth ≤ 60 := fun b => by rw [key_depth]; decide
          refine ⟨_, rfl, _, rfl, D1, _, _, _, rfl, rfl, SqL.of (s46 _ _ hD), at1 hqk, _, rfl, _, rfl, D1, _, _, _, rfl, rfl, SqL.of (s46 _ _ hD), at1 hqj, keyD pk.2, keyD pj.2, key_dp kqk6, key_dp kqj6, key_alike _ _, ne0 _, dp2 _, ?_⟩
          refine ⟨_, rfl, _, rfl, keyD pk.2, keyD pj.2, key_dp hmq6, key_dp hoq, key_alike _ _, ne0 _, dp2 _, ?_⟩
          refine ⟨rfl, _, rfl, ?_⟩
          refine iteFe (by rw [decide_eq_true rfl] <;> rfl) ?_
          refine ⟨_, rfl, _, rfl, D1, _, _, _, rfl, rfl, SqL.of (s46 _ _ hD), at1 hqk, _, rfl, _, rfl, D1, _, _, _, rfl, rfl, SqL.of (s46 _ _ hD), at1 hqj, keyD pk.2, keyD pj.2, key_dp kqk6, key_dp kqj6, key_shaped okk, key_shaped okj, ?_⟩
          refine ⟨_, rfl, _, rfl, fl, _, _, _, rfl, rfl, SqL.of (s46 _ _ hfl2), at1 hk2, _, rfl, _, rfl, fl, _, _, _, rfl, rfl, SqL.of (s46 _ _ hfl2), at1 hj2, bhD pk.2, bhD pj.2, bh_dp (bk.kp (Kp.of s46)), bh_dp (bj.kp (Kp.of s46)), bh_shaped okk, bh_shaped okj, ?_⟩
          rw [key_eqv, bh_eqv okk okj]
          refine ⟨rfl, _, rfl, ?_⟩
          refine iteFe (by rw [decide_eq_true rfl] <;> rfl) ?_
          refine ⟨_, rfl, _, rfl, D1, _, _, _, rfl, rfl, SqL.of (s46 _ _ hD), at1 hqk, ?_⟩
          refine ⟨_, _, _, _, true, rfl, .ty _, key_ty kqk6, kit_ty (by decide +kernel), _, rfl, ?_⟩
          show (if (!true) = true then _ else _)
          exact iteF ⟨_, _, _, rfl, s46⟩
        · rintro σ H4 ⟨r8', r9', r10', rfl, s4⟩
          exact ⟨_, _, _, _, rfl, s4⟩
      · rintro σ H3 ⟨r2', r8, r9, r10, rfl, s3⟩
        exact q H3
end
end LW

set_option Elab.async false
set_option linter.all false
set_option maxRecDepth 100000
set_option maxHeartbeats 0
namespace LW
open PySem PySem.Spec PyProof.Rows L2 LamX NdefX VB VM VP VR
def dd (x : Str) (st : Stmt) : He.DefD := ⟨(x, none), x, x, defArgs st, defBody st, defScope st, [], []⟩
def dm (c m q : Str) (st : Stmt) : He.DefD := ⟨(c, some m), m, q, defArgs st, defBody st, defScope st, [], []⟩
def fn : List He.DefD := [dd "order_key" s_order_key, dd "_law_cell" s__law_cell, dd "_law_draws" s__law_draws, dd "_law_few" s__law_few, dd "_law_key" s__law_key, dd "_law_words" s__law_words, dd "law" s_law]
def fa : List He.Fa := [.glo "order_key", .glo "_law_cell", .glo "_law_draws", .glo "_law_few", .glo "_law_key", .glo "_law_words", .glo "law", .free "len", .free "range", .free "abs", .free "int", .free "isinstance", .free "tuple", .free "sorted", .free "min", .glo "KINDS"]
abbrev loose : List Str := (["KINDS", "order_key", "_law_cell", "_law_draws", "_law_few", "_law_key", "_law_words"] : List Str)
abbrev lawAt : Nat := 9
theorem i_order_key : fn[0]? = some (dd "order_key" s_order_key) := rfl
theorem i__law_cell : fn[1]? = some (dd "_law_cell" s__law_cell) := rfl
theorem i__law_draws : fn[2]? = some (dd "_law_draws" s__law_draws) := rfl
theorem i__law_few : fn[3]? = some (dd "_law_few" s__law_few) := rfl
theorem i__law_key : fn[4]? = some (dd "_law_key" s__law_key) := rfl
theorem i__law_words : fn[5]? = some (dd "_law_words" s__law_words) := rfl
theorem i_law : fn[6]? = some (dd "law" s_law) := rfl
theorem j_order_key : fa[0]? = some (.glo "order_key") := rfl
theorem j__law_cell : fa[1]? = some (.glo "_law_cell") := rfl
theorem j__law_draws : fa[2]? = some (.glo "_law_draws") := rfl
theorem j__law_few : fa[3]? = some (.glo "_law_few") := rfl
theorem j__law_key : fa[4]? = some (.glo "_law_key") := rfl
theorem j__law_words : fa[5]? = some (.glo "_law_words") := rfl
theorem j_law : fa[6]? = some (.glo "law") := rfl
theorem j_len : fa[7]? = some (.free "len") := rfl
theorem j_range : fa[8]? = some (.free "range") := rfl
theorem j_abs : fa[9]? = some (.free "abs") := rfl
theorem j_int : fa[10]? = some (.free "int") := rfl
theorem j_isinstance : fa[11]? = some (.free "isinstance") := rfl
theorem j_tuple : fa[12]? = some (.free "tuple") := rfl
theorem j_sorted : fa[13]? = some (.free "sorted") := rfl
theorem j_min : fa[14]? = some (.free "min") := rfl
theorem j_KINDS : fa[15]? = some (.glo "KINDS") := rfl
def ex (K : PySem.W.Frag) : Bool := He.tupB K "KINDS" (kinds.map He.Dv.str) && tupN K (He.ga K "KINDS")
abbrev RR : PySem.W.OpenRow := PySem.W.OpenLaw.row PySem.Challenge.rw_parley_k25_order_of_behaviours
abbrev hk : PySem.W.Hook := He.hookX 5 fa fn [] [] ex
def ob (s : PySem.W.SharedT) : He.AlX := He.obsX 5 fa fn [] [] ex (HandSHeadRun.getT s)
theorem ob_eq (s : PySem.W.SharedT) : ob s = hk.obs s.abs := He.obsX_eq (HandSHeadRun.getT_eq s)
theorem runF (w : World) : HandSHeadRun.RunEq RR (PySem.W.view RR.prog [lawAt]) hk ob 4000 loose (w.withFollow "special-get-raises" false) := by
  intro os
  kernel_rfl
theorem runT (w : World) : HandSHeadRun.RunEq RR (PySem.W.view RR.prog [lawAt]) hk ob 4000 loose (w.withFollow "special-get-raises" true) := by
  intro os
  kernel_rfl
theorem run (w : World) : HandSHeadRun.RunEq RR (PySem.W.view RR.prog [lawAt]) hk ob 4000 loose w := PySem.W.byRow2 "special-get-raises" runF runT w
section
variable {P : Program} {w : World} {K : PySem.W.Frag} {h : Heap} {mg : Str → Option Value} {f : Addr}
theorem df_of (X : K.In h) (G : h.Ns mainGlobals mg) (c : He.SaysD fa fn K) {x : Str} {st : Stmt} {i j : Nat} (hi : fn[i]? = some (dd x st)) (hj : fa[j]? = some (.glo x)) : Df K mg x st := by
  obtain ⟨fd, F⟩ := c.def_ i hi
  exact ⟨He.ga K x, fd, F, He.glo_ok X G (c.fact j hj)⟩
theorem kinds_ok (c : He.SaysX fa fn [] [] ex w h K) : ∀ H, SqT K H (He.ga K "KINDS") (kinds.map V.str) := fun H =>
  He.tupB_ok (Bool.and_eq_true_iff.mp c.more).1 H
theorem kinds_nd (c : He.SaysX fa fn [] [] ex w h K) : TupN K (He.ga K "KINDS") := tupN_ok (Bool.and_eq_true_iff.mp c.more).2
theorem facts (X : K.In h) (G : h.Ns mainGlobals mg) (hfa : mg ("law" : Str) = some (.ref f)) (c : He.SaysX fa fn [] [] ex w h K) :
    LamX.LawAtS PySem.Challenge.rw_parley_k25_order_of_behaviours w K CX0 14 63 "script" mg f h := by
  have cd := c.t.d
  obtain ⟨fd, F⟩ := cd.def_ _ i_law
  have e := hfa.symm.trans (He.glo_ok X G (cd.fact _ j_law))
  cases e
  refine ⟨fd, [], spLaw K, fun p hp => absurd hp List.not_mem_nil, fun p hp => absurd hp List.not_mem_nil, fun p hp => absurd hp List.not_mem_nil, ?_, fun H a ns hl _ hT hS => ?_, fun base kin hns hTB => ?_⟩
  · have b := FunD.bindsA (ps := ["script"]) F fun _ _ _ _ _ _ us hl => match us, hl with | [_], _ => rfl
    exact fun s v => b s [v] rfl
  · exact ⟨a, ns, rfl, hS, hl, fun _ => rfl⟩
  · have z : ∀ {x : Str} {j : Nat}, fa[j]? = some (.free x) → mg x = none := fun hj => He.free_ok X G (cd.fact _ hj)
    have gs : ∀ {x y : Str} {j : Nat}, fa[j]? = some (.str x y) → ∃ u, mg x = some u ∧ RelV (.str y) u := fun hj => by
      obtain ⟨t, e⟩ := He.str_ok X G (cd.fact _ hj)
      exact ⟨_, e, t, rfl⟩
    have gi : ∀ {x : Str} {y : Int} {j : Nat}, fa[j]? = some (.int x y) → ∃ u, mg x = some u ∧ RelV (.int y) u := fun hj => by
      obtain ⟨t, e⟩ := He.int_ok X G (cd.fact _ hj)
      exact ⟨_, e, t, rfl⟩
    have gg : ∀ {x : Str} {j : Nat}, fa[j]? = some (.glo x) → ∃ u, mg x = some u ∧ RelV (.ref (He.ga K x)) u := fun hj => ⟨_, He.glo_ok X G (cd.fact _ hj), rfl⟩
    have d : ∀ {x : Str} {st : Stmt} {i j : Nat}, fn[i]? = some (dd x st) → fa[j]? = some (.glo x) → Df K mg x st := fun hi hj => df_of X G cd hi hj
    have k_cell := c_cell (P := (PySem.Challenge.rw_parley_k25_order_of_behaviours).prog) (w := w) (base := base) (d i__law_cell j__law_cell) (z j_len) (z j_abs) (z j_int)
    have k_draws := c_draws (P := (PySem.Challenge.rw_parley_k25_order_of_behaviours).prog) (w := w) (base := base) (d i__law_draws j__law_draws) (z j_range) (z j_int)
    have k_key := c_key (P := (PySem.Challenge.rw_parley_k25_order_of_behaviours).prog) (w := w) (base := base) (d i_order_key j_order_key) (z j_len) (gg j_KINDS) (kinds_ok c) (kinds_nd c)
    have k_lkey := c_lkey (P := (PySem.Challenge.rw_parley_k25_order_of_behaviours).prog) (w := w) (base := base) (d i__law_key j__law_key) (z j_len)
    have k_few := c_few (P := (PySem.Challenge.rw_parley_k25_order_of_behaviours).prog) (w := w) (base := base) (d i__law_few j__law_few) (z j_len) (z j_range) (z j_sorted) (z j_tuple)
    have k_words := c_words (P := (PySem.Challenge.rw_parley_k25_order_of_behaviours).prog) (w := w) (base := base) (d i__law_words j__law_words) (z j_range) (z j_tuple)
    exact f_law F (z j_range) (z j_min) (z j_len) (z j_isinstance) (z j_tuple) k_cell k_draws k_few k_words k_key k_lkey
end
end LW
open PySem PySem.W PySem.Calls PyProof.Rows
theorem PySem.Challenge.cw_parley_k25_order_of_behaviours_holds : PySem.Challenge.rw_parley_k25_order_of_behaviours.Holds := by
  w_on; o_law
  refine HandSHeadRun.head_any (r := OpenLaw.row PySem.Challenge.rw_parley_k25_order_of_behaviours) (q := view (OpenLaw.row PySem.Challenge.rw_parley_k25_order_of_behaviours).prog [LW.lawAt]) (H := LW.hk) (ob := LW.ob) (M := 4000) (loose := LW.loose) (d := HandSHeadRun.topDef (OpenLaw.row PySem.Challenge.rw_parley_k25_order_of_behaviours).prog LW.lawAt) (kwd := []) LW.ob_eq
    (by kernel_rfl) (fun s => by kernel_rfl) LW.run (by kernel_rfl) (by kernel_rfl) (by kernel_rfl) (by rfl) (by first | assumption | decide +kernel) (by decide +kernel) ⟨rfl, rfl, rfl, rfl, rfl, by decide +kernel⟩ ?hw ?hc
  case hw => w_witness2
  case hc =>
    refine LamX.walk_ofTsE (l := PySem.Challenge.rw_parley_k25_order_of_behaviours) (n := 63) (k := 14) (x := "script") (CX := fun _ => L2.CX0) rfl (by decide) (by kernel_rfl) ⟨rfl, by decide, by decide⟩ ?F (fun _ _ _ _ _ z => z)
    intro w mg fa h Y G hmg0
    obtain ⟨K, KX, c⟩ := Y
    have hmg : mg ("law" : PySem.Str) = some (.ref fa) := by
      have e : (HandSHeadRun.topDef (OpenLaw.row PySem.Challenge.rw_parley_k25_order_of_behaviours).prog LW.lawAt).name = ("law" : PySem.Str) := by kernel_rfl
      rw [← e]
      exact hmg0
    exact ⟨K, KX, LW.facts KX G hmg c⟩

