import PyProof.Rows.All
import Wide.All
import OpenK.AllK
import Wide.FinOn
import KE.KLam
import HandS.ForMost
import HandS.Codes
import HandS.Lambda
import HandS.Nested
import HandS.NestedK
import HandS.CallLocal
import KE.DatumOrd
import HandS.Rev
import HandS.SortInts
import KE.SortData
import HandS.SortKw
import KE.KDictLaws
import HandS.SetKeys
import HandS.Wide
import HandS.WideMore
import HandS.Conv
import HandS.IsInst
import HandS.WrittenGet
import HandS.HeadHook4
import HandS.HeadWalk
import HandS.Defaults
import PySem.Challenge.RW_parley_k01_names_heights_references
import HandS.Walk
import HandS.Head0
import HandS.Head1
import HandS.Head2
import HandS.HeadEnd
import HandS.HeadHook1
import HandS.HeadHook2
import HandS.HeadHook3
set_option Elab.async false
set_option linter.all false
set_option maxRecDepth 100000
set_option maxHeartbeats 4000000
namespace VA
open PySem PySem.Spec PyProof.Rows L2 LamX NdefX
/-! lambdas as made functions: F's statements are not used, b is the expression -/
def LamO (f : Addr) (F : NF) (b : Expr) : HO :=
  .ext fun h => ∃ (od : Option Addr) (sl : Array (Option Value)) (pm ctv : Value),
    h.get? f = some (⟨.type "function", od, .func (PySem.W.kla_fn F.name F.qual F.params b F.scope F.cl pm (.ref F.c) ctv), sl⟩ : Obj)
theorem lamO_ne {f : Addr} {F : NF} {b : Expr} (ps : Array Value) : LamO f F b ≠ .tbl ps := by
  intro z; unfold LamO at z; cases z
theorem lamO_at {P : Program} {w : World} {H : Hp} {h : Heap} {f : Addr} {F : NF} {b : Expr}
    (hok : HOk P w H h) (e : H f = some (LamO f F b)) :
    ∃ (od : Option Addr) (sl : Array (Option Value)) (pm ctv : Value),
      h.get? f = some (⟨.type "function", od, .func (PySem.W.kla_fn F.name F.qual F.params b F.scope F.cl pm (.ref F.c) ctv), sl⟩ : Obj) := by
  have z := hok f _ e
  exact z.1
abbrev lamF (q : Str) (params : Arguments) (scope : Scope) (cl : List (Str × Addr)) (c : Addr) : NF :=
  ⟨"<lambda>", q, params, [], scope, cl, c⟩
section
variable {X : Cx} {pins : List (Addr × Obj)} {σ : L2.St} {H : Hp} {s : Shared}
theorem inv_lam {F : NF} {b : Expr} {o : Obj} {t' : Nat} {pm ctv : Value} (I : Inv X pins σ H s)
    (ho : o = { cls := .type "function", data := .func (PySem.W.kla_fn F.name F.qual F.params b F.scope F.cl pm (.ref F.c) ctv) }) :
    Inv X pins σ (upd H s.heap.objs.size (LamO s.heap.objs.size F b)) { s with heap := s.heap.push o, toks := t' } := by
  subst ho
  have e : (s.heap.push ({ cls := .type "function", data := .func (PySem.W.kla_fn F.name F.qual F.params b F.scope F.cl pm (.ref F.c) ctv) } : Obj)).get? s.heap.objs.size
      = some ({ cls := .type "function", data := .func (PySem.W.kla_fn F.name F.qual F.params b F.scope F.cl pm (.ref F.c) ctv) } : Obj) :=
    Heap.get?_push_size _ rfl
  refine I.laid (a := s.heap.objs.size) (fun b u q => Heap.get?_push_of_some _ q) (Nat.le_refl _) ⟨⟨_, _, pm, ctv, e⟩, ⟨_, e⟩, ?_⟩
  rintro h1 h2 ⟨od, sl, p, t, z⟩ st
  exact ⟨od, sl, p, t, st _ z⟩
theorem lam_mk {T : List (Addr × Str)} {c P : Addr} {params : Arguments} {body : Expr} {scope : Scope} {pos : Pos}
    {E : Value → Shared → Prop} {Q : Value → Shared → Prop} (I : Inv X pins σ H s) (TB : TabB X.base X.mg c P)
    (hcode : X.env.code = .ref c) (hm : (P, X.env.qual ++ "<lambda>") ∈ T)
    (hu : ∀ p ∈ T, p.1 = P → p.2 = X.env.qual ++ "<lambda>") (hT : Tabs T H)
    (hdef : defaultsOf params X.env = ([], []))
    (hfree : ∀ y ∈ scope.names, y.2 = .free → ∃ c, X.env.cells.lookup y.1 = some c)
    (h : ∀ (f c' : Addr) (H1 : Hp) (s' : Shared), Inv X pins σ H1 s' → ExtN H H1 → (∀ b, H1 b = Option.none → H b = Option.none) →
      Tabs T H1 → H f = none →
      H1 f = some (LamO f (lamF (X.env.qual ++ "<lambda>") params scope (cloFrom X.env.cells scope.names []) c') body) →
      H1 c' = some (CodeO c' (X.env.qual ++ "<lambda>")) → Q (.ref f) s') :
    wpAny (model X.prog X.w) X.A (eval (.Lambda params body scope pos) X.env) Q E s := by
  obtain ⟨ps, hP, ht, ha⟩ := hT _ hm
  refine PySem.W.kla_eval hdef ?_
  have bP : s.heap.BuiltinsAt X.mg P := TB.bm.keeps I.bk
  have hP' : s.heap.get? P = some { cls := .none, data := .fields ps } := I.hok P _ hP
  cases hc : codeAmong pos ps.toList with
  | none =>
    refine PySem.W.kla_makeFunction (mg := X.mg) (c := c) (P := P) (ps := ps) (closure_ok hfree) I.ok.glob (I.mod.glob.keeps I.bk)
      hcode (TB.code.keeps I.bk) hP' ht hc TB.gP bP ?_
    rintro c' ctv h' tk hx hge hlt ⟨c2, oc, vs, t, e2, hoc, hd, hv⟩ htb
    cases e2
    have nC : H c' = none := I.hok.fresh hge
    have I1 := inv_table (t' := tk) (q := X.env.qual ++ "<lambda>") (more := #[rawInt pos.line, rawInt pos.col, .ref c']) (h' := h')
      I hP (fun b o hb e => hx b o hb e) htb hge ⟨oc, vs, t, hoc, hd, hv⟩
    have hE : ExtN H (upd (upd H P (.tbl (ps ++ #[rawInt pos.line, rawInt pos.col, .ref c']))) c' (CodeO c' (X.env.qual ++ "<lambda>"))) := by
      intro b o e n
      have n1 : b ≠ P := fun z => n ps (Option.some.inj (e.symm.trans (by rw [z]; exact hP)))
      rw [upd_ne (ne_of_none e nC), upd_ne n1, e]
    have eL : (ps ++ #[rawInt pos.line, rawInt pos.col, .ref c']).toList = ps.toList ++ [rawInt pos.line, rawInt pos.col, .ref c'] := by simp
    have T1 : Tabs T (upd (upd H P (.tbl (ps ++ #[rawInt pos.line, rawInt pos.col, .ref c']))) c' (CodeO c' (X.env.qual ++ "<lambda>"))) := by
      intro p hp
      by_cases hb : p.1 = P
      · rw [hu p hp hb, hb]
        refine ⟨_, by rw [upd_ne (ne_of_none hP nC), upd_same], by rw [eL]; exact PySem.TriplesOk_snoc _ _ _ _ ht, fun p' cv hcv => ?_⟩
        rw [eL] at hcv
        rcases among_app _ ht hcv with z | z
        · obtain ⟨c0, e1, e2⟩ := ha p' cv z
          exact ⟨c0, e1, hE _ _ e2 codeO_ne⟩
        · exact ⟨c', z, upd_same⟩
      · obtain ⟨ps', a1, a2, a3⟩ := hT p hp
        refine ⟨ps', ?_, a2, fun p' cv hcv => ?_⟩
        · rw [upd_ne (ne_of_none a1 nC), upd_ne hb, a1]
        · obtain ⟨c0, e1, e2⟩ := a3 p' cv hcv
          exact ⟨c0, e1, hE _ _ e2 codeO_ne⟩
    have nF := I1.hok.fresh (Nat.le_refl _)
    have I2 := inv_lam (F := lamF (X.env.qual ++ "<lambda>") params scope (cloFrom X.env.cells scope.names []) c') (b := body) (t' := tk)
      (pm := (X.mg "__name__").getD .none) (ctv := ctv) I1 rfl
    refine h h'.objs.size c' _ _ I2 ?_ (fun b e => upd_none (upd_none (upd_none e))) (T1.ext fun b o e => ?_)
      (I.hok.fresh (Nat.le_trans hge (Nat.le_of_lt hlt))) upd_same ?_
    · intro b o e n
      have e1 := hE b o e n
      exact (upd_ne (ne_of_none e1 nF)).trans e1
    · exact (upd_ne (ne_of_none e nF)).trans e
    · exact (upd_ne (Nat.ne_of_lt hlt)).trans upd_same
  | some cv =>
    obtain ⟨c', e, hco⟩ := ha pos cv hc
    subst e
    refine PySem.W.kla_makeFunctionHit (mg := X.mg) (c := c) (P := P) (ps := ps) (closure_ok hfree) I.ok.glob (I.mod.glob.keeps I.bk)
      hcode (TB.code.keeps I.bk) hP' ht hc bP ?_
    intro ctv h' tk hx hsz
    have I1 : Inv X pins σ H { s with heap := h', toks := tk } := I.kept hx
    have nF : H h'.objs.size = none := I1.hok.fresh (Nat.le_refl _)
    have I2 := inv_lam (F := lamF (X.env.qual ++ "<lambda>") params scope (cloFrom X.env.cells scope.names []) c') (b := body) (t' := tk)
      (pm := (X.mg "__name__").getD .none) (ctv := ctv) I1 rfl
    refine h h'.objs.size c' _ _ I2 ?_ (fun b e => upd_none e) (hT.ext fun b o e => ?_) nF upd_same ?_
    · intro b o e n
      exact (upd_ne (ne_of_none e nF)).trans e
    · exact (upd_ne (ne_of_none e nF)).trans e
    · exact (upd_ne (ne_of_none hco nF)).trans hco
/-- the reading of «lambda ..: b» as a value -/
def tLam (T : List (Addr × Str)) (mk : Addr → NF) (b : Expr) : TE := fun σ H Q => Tabs T H ∧
  ∀ (f c' : Addr) (H1 : Hp), ExtN H H1 → (∀ b, H1 b = Option.none → H b = Option.none) → Tabs T H1 → H f = none →
    H1 f = some (LamO f (mk c') b) → H1 c' = some (CodeO c' (mk c').qual) → Q (.ref f) H1
theorem pe_lam {T : List (Addr × Str)} {c P : Addr} {params : Arguments} {body : Expr} {scope : Scope} {pos : Pos}
    (TB : TabB X.base X.mg c P) (hcode : X.env.code = .ref c) (hm : (P, X.env.qual ++ "<lambda>") ∈ T)
    (hu : ∀ p ∈ T, p.1 = P → p.2 = X.env.qual ++ "<lambda>") (hdef : defaultsOf params X.env = ([], []))
    (hfree : ∀ y ∈ scope.names, y.2 = .free → X.env.scope.names.lookup y.1 = some .cell ∨ X.env.scope.names.lookup y.1 = some .free) :
    PE X (.Lambda params body scope pos) (tLam T (lamF (X.env.qual ++ "<lambda>") params scope (cloFrom X.env.cells scope.names [])) body) := by
  refine ⟨fun pins s σ H Q I h => ?_⟩
  obtain ⟨hT, h⟩ := h
  refine lam_mk I TB hcode hm hu hT hdef (fun y hy e => ?_) fun f c' H1 s' I1 eN nn T1 f0 f1 c1 => ?_
  · exact (hfree y hy e).elim (fun z => I.ok.has _ (.inl z)) fun z => I.ok.has _ (.inr z)
  · exact ⟨.ref f, H1, I1, rfl, h f c' H1 eN nn T1 f0 f1 c1⟩
end
/-! a value that may be called: φ tells what must stand in the heap -/
structure VCall (P : Program) (w : World) (K : PySem.W.Frag) (mg : Str → Option Value) (base : Heap) (k : Nat) (f : Addr) (φ : Hp → Prop) (sp : Sp) : Prop where
  fn : ∀ (h : Heap) (H : Hp), HOk P w H h → K.In h → φ H → PySem.W.FnAt f h
  run : ∀ (A : Around) (outer : List Env) (s : Shared) (H : Hp) (us : List Value) (vs : List V) (Q : VK) (E : XK), Room k A →
    Env0 P w K mg base A outer s H → φ H → Vals vs us → sp vs H Q E →
    codeAny (model P w) A (.call (.ref f) ⟨us, []⟩) (CR CX0 outer P w H s Q E) s
section
variable {P : Program} {w : World} {K : PySem.W.Frag} {mg : Str → Option Value} {base : Heap} {k j : Nat} {f : Addr} {φ : Hp → Prop} {sp sp' : Sp}
theorem VCall.mono (c : VCall P w K mg base j f φ sp) (h : j ≤ k) : VCall P w K mg base k f φ sp :=
  ⟨c.fn, fun A outer s H us vs Q E hr => c.run A outer s H us vs Q E (hr.mono h)⟩
theorem VCall.imp (c : VCall P w K mg base k f φ sp) (h : ∀ vs H Q E, sp' vs H Q E → sp vs H Q E) : VCall P w K mg base k f φ sp' :=
  ⟨c.fn, fun A outer s H us vs Q E hr e0 hf r q => c.run A outer s H us vs Q E hr e0 hf r (h _ _ _ _ q)⟩
/-- a def of the module -/
theorem VCall.def_ {fd : FuncData} {ps : List Str} (F : FnOk P w K mg base CX0 k f fd ps sp) (b : Binds K fd ps [])
    (lk : ∃ oc od sl, K.lookup f = some ⟨oc, od, .func fd, sl⟩) : VCall P w K mg base k f (fun _ => True) sp := by
  obtain ⟨oc, od, sl, lk⟩ := lk
  refine ⟨fun h H _ kin _ => ⟨oc, od, fd, sl, kin _ _ lk⟩, fun A outer s H us vs Q E hr e0 _ r q => ?_⟩
  have KX : K.In s.heap := e0.mod.kin.keeps fun b o e => (e0.bs b o e).1
  have hl : us.length = ps.length := by rw [← r.length]; exact F.len _ _ _ _ q
  have hb := b s us KX (by simpa using hl)
  rw [List.append_nil] at hb
  exact F.run A outer s H ⟨us, []⟩ us vs Q E hr e0 hb r q
end
end VA

set_option Elab.async false
set_option linter.all false
set_option maxRecDepth 100000
set_option maxHeartbeats 4000000
namespace VA
open PySem PySem.Spec PyProof.Rows L2 LamX NdefX
section
variable {prog : Program} {w : World} {A : Around} {E : Value → Shared → Prop} {s : Shared}
/-- the test of a slice of step one -/
def selF (a n : Int) (i : Nat) : Bool :=
  if (1 : Int) > 0 then a ≤ i && i < n && (i - a) % 1 == 0
  else n < i && i ≤ a && (a - i) % (-1) == 0
theorem sel_from (a n k : Nat) (hk : k < n) : selF (a : Int) (n : Int) k = decide (a ≤ k) := by
  unfold selF
  by_cases h : a ≤ k
  · have h1 : (a : Int) ≤ k := by omega
    have h2 : (k : Int) < n := by omega
    have h3 : ((k : Int) - a) % 1 = 0 := by omega
    simp [h, h1, h2, h3]
  · have h1 : ¬ (a : Int) ≤ k := by omega
    simp [h, h1]
theorem keep_from (a : Nat) : ∀ (xs : List Value) (i n : Nat), i + xs.length ≤ n →
    (xs.zipIdx i).filterMap (fun (x, k) => if selF (a : Int) (n : Int) k then none else some x) = xs.take (a - i)
  | [], i, n, _ => by simp
  | x :: xs, i, n, h => by
    have hn : i + 1 + xs.length ≤ n := by rw [List.length_cons] at h; omega
    have hk : i < n := by rw [List.length_cons] at h; omega
    rw [List.zipIdx_cons, List.filterMap_cons, keep_from a xs (i + 1) n hn]
    have hs := sel_from a n i hk
    by_cases q : a ≤ i
    · have e : a - i = 0 := by omega
      have e2 : a - (i + 1) = 0 := by omega
      simp [hs, q, e, e2]
    · have e : a - i = (a - (i + 1)) + 1 := by omega
      simp [hs, q, e]
theorem bounds_from {a n : Nat} (h : a ≤ n) : sliceBounds (some (a : Int)) none none n = ((a : Int), (n : Int), 1) := by
  simp only [sliceBounds, Option.getD_none]
  have h1 : ¬ ((a : Int) < 0) := by omega
  simp only [h1, if_false, show (1 : Int) > 0 by decide, if_true]
  congr 1
  omega
theorem delItem_tail {l sl : Addr} {items : List Value} {n : Nat} {vl : Value} {a : Nat} {Q : Unit → Shared → Prop}
    (e : s.heap.get? l = some { cls := .type "list", data := .seq items.toArray n }) (hs : s.heap.IsSliceOf sl vl .none .none)
    (pl : IsPart vl (some (a : Int))) (ha : a ≤ items.length) (hsz : items.length ≤ sizeLine)
    (h : Q () { s with heap := s.heap.update l (Obj.mapSeq fun xs => (xs.toList.zipIdx.filterMap fun (x, k) => if selF (a : Int) (items.length : Int) k then none else some x).toArray) }) :
    wpAny (model prog w) A (delItem (.ref l) (.ref sl)) Q E s := by
  have hl : s.heap.IsList l items.toArray := PySem.IsL.isList e
  obtain ⟨os, hos, hcs, hds⟩ := id hs
  have hTs : s.TypeIs (.ref sl) "slice" := ⟨os, hos, hcs⟩
  have hstep : ¬ ((rawPart none == rawInt 0) = true) := Bool.false_ne_true
  have hz' : ((fun xs : Array Value => (xs.toList.zipIdx.filterMap fun (x, k) => if selF (a : Int) (items.length : Int) k then none else some x).toArray) items.toArray).size ≤ sizeLine + 1 := by
    show (items.zipIdx.filterMap _).toArray.size ≤ _
    rw [List.size_toArray]
    refine Nat.le_trans (List.length_filterMap_le _ _) ?_
    rw [List.length_zipIdx]; omega
  unfold delItem
  try with_reducible refine wpAny_holding ?_
  first | refine wpAny_bind (wpAny_pure ?_) | skip
  refine wpAny_bind (wpAny_sequenceKey hl.typeIs (by decide) ?_)
  refine wpAny_bind (wpAny_callSpecial?_slot (name := Str.ofString "__delitem__") hl.typeIs PySem.F.slot_list_delitem
    (wpAny_call_entry PySem.F.slot_list_delitem hl.typeIs PySem.F.entry_list_delitem ?_ (PySem.F.args_list_delitem_2 _ _)))
  show wpAny _ _ (Builtin.List.listSubscript? (.ref sl) >>= _) _ _ s
  refine wpAny_bind ?_
  unfold Builtin.List.listSubscript?
  refine wpAny_bind (wpAny_specialOf hTs slice_no_index ?_)
  simp only [Option.isNone_none, if_true]
  refine wpAny_pure ?_
  show wpAny _ _ (typeOf (.ref sl) >>= _) _ _ s
  refine wpAny_bind (wpAny_typeOf hTs ?_)
  first
    | rw [if_neg (by decide)]
    | refine PySem.W.KFB.if_not (by decide) ?_
  rw [listSliceParts_eq]
  refine wpAny_bind (wpAny_bind (wpAny_field hos hds (x := .none) rfl (wpAny_bind (wpAny_listPart .none ?_))))
  rw [if_neg hstep]
  refine wpAny_bind (wpAny_field hos hds (x := vl) rfl (wpAny_bind (wpAny_listPart pl ?_)))
  refine wpAny_bind (wpAny_field hos hds (x := .none) rfl (wpAny_bind (wpAny_listPart .none (wpAny_pure ?_))))
  unfold Builtin.List.listItems
  refine wpAny_bind (wpAny_bind (wpAny_seqItems e rfl (wpAny_pure ?_)))
  refine wpAny_bind (wpAny_of_eq ((sliceIndices_raw (some (a : Int)) none none items.toArray.size (by simp)).trans (congrArg (pure : Int × Int × Int → Sem (Int × Int × Int)) (bounds_from (n := items.toArray.size) (by simpa using ha)))) ?_)
  refine wpAny_bind (wpAny_rule ?_)
  have esz : ((items.toArray.size : Nat) : Int) = (items.length : Int) := by rw [List.size_toArray]
  rw [esz]
  refine wpAny_bind (wpAny_updateSeq (hz := by rw [List.size_toArray]; exact hsz) (_hz' := hz') e rfl ?_)
  refine wpAny_bind (wpAny_letGo ?_)
  first
    | exact wpAny_bind (wpAny_pure (wpAny_pure ⟨.none, rfl, wpAny_pure h⟩))
    | exact wpAny_pure ⟨.none, rfl, wpAny_pure h⟩
end
section
variable {X : Cx} {pos tpos p2 : Pos}
/-- del xs[a:] of a list -/
def tDelFrom (to tl : TE) : TS := fun D σ H => to σ H fun x H1 => tl σ H1 fun y H2 =>
  ∃ (l : Addr) (xs : List V) (a : Nat), x = .ref l ∧ y = .int a ∧ H2 l = some (.lst xs) ∧ a ≤ xs.length ∧ D.nx σ (upd H2 l (.lst (xs.take a)))
theorem ps_delFrom {o lo : Expr} {to tl : TE} (ho : PE X o to) (hl : PE X lo tl) :
    PS X (.Delete [.Subscript o (.Slice (some lo) none none p2) tpos] pos) (tDelFrom to tl) := by
  refine ⟨fun pins s σ H D I h => ?_⟩
  refine wpAny_Delete (wpAny_deleteEach_cons (wpAny_delete_Subscript (thn (ho.run pins s σ H _ I h) fun u s1 ⟨x, H1, I1, rx, q1⟩ => ?_)))
  refine wpAny_Slice ?_
  rw [evalPart_some]
  refine thn (hl.run pins s1 σ H1 _ I1 q1) fun vl s2 ⟨y, H2, I2, ry, q2⟩ => ?_
  rw [evalPart_none]
  refine wpAny_pure (wpAny_pure ?_)
  obtain ⟨l, xs, a, ex, ey, hH, ha, q⟩ := q2
  subst ex
  subst ey
  cases (show u = Value.ref l from rx)
  obtain ⟨t, rfl⟩ := (show ∃ t, vl = Value.int (a : Int) t from ry)
  have I3 : Inv X pins σ H2 { s2 with heap := s2.heap.push { cls := .type "slice", data := .fields #[.int (a : Int) t, .none, .none] } } :=
    I2.kept (t' := s2.toks) fun b ob q => Heap.get?_push_of_some _ q
  obtain ⟨hz, its, n, rv, hlen, e⟩ := I3.lstM hH
  refine delItem_tail (n := n) e (Heap.IsSliceOf.new ..) (.int _ _) (by omega) (by omega) ?_
  refine wpAny_deleteEach_nil ⟨σ, upd H2 l (.lst (xs.take a)), ?_, q⟩
  refine I3.lset (its' := its.take a) (t' := s2.toks) hH e ?_ (rv.take _) (by rw [List.length_take]; omega)
  show (List.filterMap _ (its.toArray.toList.zipIdx)).toArray = _
  rw [List.toList_toArray]
  exact congrArg List.toArray (keep_from a its 0 its.length (by omega))
end
end VA

set_option Elab.async false
set_option linter.all false
set_option maxRecDepth 100000
set_option maxHeartbeats 4000000
namespace VA
open PySem PySem.Spec PyProof.Rows L2 LamX NdefX
theorem each_vals {β : Type} (emb : β → V) : ∀ {bs : List β} {us : List Value}, Vals (bs.map emb) us → PySem.W.EachIs (fun u b => RelV (emb b) u) us bs
  | [], us, r => by rw [List.map_nil] at r; cases r; exact .nil
  | b :: bs, us, r => by
    rw [List.map_cons] at r
    cases r with
    | cons h t => exact .cons h (each_vals emb t)
theorem vals_each {β : Type} (emb : β → V) : ∀ {bs : List β} {us : List Value}, PySem.W.EachIs (fun u b => RelV (emb b) u) us bs → Vals (bs.map emb) us
  | _, _, .nil => .nil
  | _, _, .cons h t => .cons h (vals_each emb t)
theorem each_reads {β : Type} {X : Cx} {pins : List (Addr × Obj)} {σ : L2.St} {H : Hp} {s : Shared} (I : Inv X pins σ H s) (emb : β → V) (enc : β → PyData) :
    ∀ {bs : List β} {us : List Value}, (∀ b ∈ bs, Dp X.K H (emb b) (enc b)) → Vals (bs.map emb) us → PySem.W.EachIs (fun u b => ∃ as, Reads s.heap u (enc b) as) us bs
  | [], us, _, r => by rw [List.map_nil] at r; cases r; exact .nil
  | b :: bs, us, hd, r => by
    rw [List.map_cons] at r
    cases r with
    | cons h t =>
      exact .cons (Dp.reads I _ _ _ (hd b List.mem_cons_self) h) (each_reads I emb enc (fun c hc => hd c (List.mem_cons_of_mem _ hc)) t)
/-- sorted(xs), any alike data: bs are the items, emb their values, enc their data -/
def rSortedB {β : Type} (K : PySem.W.Frag) (emb : β → V) (enc : β → PyData) : List V → Hp → VK → Prop := fun vs H Q =>
  ∃ (a : Addr) (bs : List β), vs = [V.ref a] ∧ SqL K H a (bs.map emb) ∧ (∀ b ∈ bs, Dp K H (emb b) (enc b)) ∧
    PySem.W.AllAlike (bs.map enc) ∧ PySem.W.Sortable (bs.map enc) ∧ (∀ b ∈ bs, (enc b).depth ≤ 8) ∧
    ∀ p : Addr, H p = none → Q (.ref p) (upd H p (.lst ((bs.mergeSort (PySem.W.dataLe false enc)).map emb)))
section
variable {X : Cx}
theorem cr_sortedB {β : Type} {k : Nat} (emb : β → V) (enc : β → PyData) (hr : Room k X.A) : CallR X (.builtin "sorted") (rSortedB X.K emb enc) := by
  intro pins s σ H vs us Q I r h
  obtain ⟨a, bs, rfl, hs, hd, hal, hk, hdp, q⟩ := h
  obtain ⟨its, rv, hl, hz⟩ := I.list hs
  rw [Vals.ref1 r]
  have hun := hr.un
  have hlen : bs.length ≤ sizeLine := by rw [List.length_map] at hz; exact hz
  refine PySem.W.sorted_data (R := fun u b => RelV (emb b) u) hl.isList (each_vals emb rv) (each_reads I emb enc hd rv) hal hk hlen
    (fun b hb => by have := hdp b hb; omega) fun out ho he => ?_
  obtain ⟨ep, he'⟩ := PyProof.Rows.sortedAll_at s.heap its out.toArray
  have hl2 : ((bs.mergeSort (PySem.W.dataLe false enc)).map emb).length ≤ sizeLine := by
    rw [List.length_map, List.length_mergeSort]; exact hlen
  exact ⟨.ref _, upd H (s.heap.objs.size + 1) (.lst ((bs.mergeSort (PySem.W.dataLe false enc)).map emb)),
    I.laid (t' := s.toks) (fun _ _ => PyProof.Rows.sortedAll_old) (Nat.le_succ _) ⟨hl2, out, ep, vals_each emb he, he'⟩, rfl, q _ (I.hok.fresh (Nat.le_succ _))⟩
/-- max(xs, default=d), whole numbers -/
def rMaxD (K : PySem.W.Frag) : List V → List V → Hp → VK → Prop := fun vs zs H Q =>
  ∃ (a : Addr) (ns : List Int) (d : Int), vs = [V.ref a] ∧ zs = [.int d] ∧ SqL K H a (ns.map V.int) ∧
    Q (.int (match ns with | [] => d | n :: r => r.foldl max n)) H
theorem reads_ints {h : Heap} : ∀ {us : List Value} {ns : List Int}, IntsAre us ns → ReadsAll h us (ns.map .int) []
  | _, _, .nil => .nil
  | _, _, .cons n t r => ReadsAll.cons (as := []) (bs := []) (.int n t) (reads_ints r)
theorem alike_ints (ns : List Int) : PySem.W.AlikeAll (ns.map .int) := by
  refine ⟨fun x hx y hy => ?_, fun x hx => ?_⟩
  · obtain ⟨n, _, rfl⟩ := List.mem_map.mp hx
    obtain ⟨m, _, rfl⟩ := List.mem_map.mp hy
    rfl
  · obtain ⟨n, _, rfl⟩ := List.mem_map.mp hx
    intro z; cases z
theorem depth_ints : ∀ ns : List Int, PyData.depthAll (ns.map PyData.int) = 0
  | [] => rfl
  | n :: r => by
    rw [List.map_cons]
    simp only [PyData.depthAll, PyData.depth, depth_ints r, Nat.max_self]
theorem cr_maxD {k : Nat} (hc : X.calm = true) (hr : Room k X.A) : CallRK X (.builtin "max") [Str.ofString "default"] (rMaxD X.K) := by
  intro pins s σ H vs zs us ws Q I r rz h
  obtain ⟨a, ns, d, rfl, rfl, hs, q⟩ := h
  obtain rfl := Vals.ref1 r
  obtain ⟨w1, rfl, e1⟩ := vals1 rz
  obtain ⟨t, rfl⟩ := e1
  obtain ⟨its, rv, hl, hz⟩ := I.list hs
  have hi := rv.ints
  have hun := hr.un
  have hin : X.A.handled = none := I.ok.hd hc
  refine PySem.W.max_list_default (xs := ns.map .int) hin hl.isList (by simpa using reads_ints (h := s.heap) hi) (alike_ints ns) (by rw [depth_ints]; omega)
    (fun e h' tk hk => ?_) fun y ys i v h' tk bs e hv hr2 hk => ?_
  · have e0 : ns = [] := List.map_eq_nil_iff.mp e
    subst e0
    exact ⟨.int d, H, I.kept (t' := tk) hk, ⟨t, rfl⟩, q⟩
  · cases ns with
    | nil => cases e
    | cons n rr =>
      rw [List.map_cons] at e
      injection e with e1 e2
      subst e1
      subst e2
      rw [PySem.W.maxD_ints] at hr2
      cases hr2 with
      | int z tz => exact ⟨.int (rr.foldl max n), H, I.kept (t' := tk) hk, ⟨tz, rfl⟩, q⟩
end
/-! calls of a value -/
section
variable {X : Cx} {k j i : Nat} {x : Str} {p pos : Pos} {e : Expr} {es : List Expr} {t : TA}
/-- x(..), x a name that holds a function value -/
def tCallVal (P : Program) (w : World) (K : PySem.W.Frag) (mg : Str → Option Value) (base : Heap) (k i : Nat) (t : TA) : TE := fun σ H Q =>
  ∃ (f : Addr) (φ : Hp → Prop) (sp : Sp), σ[i]? = some (some (.ref f)) ∧ VCall P w K mg base k f φ sp ∧ φ H ∧ t σ H fun vs H1 => φ H1 ∧ sp vs H1 Q E0
theorem pe_callVal (hr : Room j X.A) (hk : k ≤ j) (hN : X.N[i]? = some x) (hv : Vis X.env.scope x) (ha : PA X (e :: es) t)
    (hdb : (x == ("__debug__" : Str)) = false := by decide) (hcd : (x == ("__classdict__" : Str)) = false := by decide)
    (he : starEach (e :: es) X.env = (false, eval e X.env) :: starEach es X.env := by rfl) (hpl : (backTo pos (starEach es X.env)).any (·.1) = false := by rfl) :
    PE X (.Call (.Name x p) (e :: es) [] pos) (tCallVal X.prog X.w X.K X.mg X.base k i t) := by
  refine ⟨fun pins s σ H Q I h => ?_⟩
  obtain ⟨f, φ, sp, hs, c, hf, ht⟩ := h
  refine wpAny_Call_Name_kw (thn ((pe_var (pos := p) hN hv hdb hcd).run pins s σ H (fun v H1 => v = .ref f ∧ H1 = H) I ⟨.ref f, hs, rfl, rfl⟩) fun u s1 ⟨v, H1, I1, r1, q1⟩ => ?_)
  obtain ⟨ev, eH⟩ := q1
  subst ev
  subst eH
  obtain rfl : u = Value.ref f := r1
  refine PySem.W.callWith_F (first := []) (c.fn _ _ I1.hok I1.kIn hf) (thn (ha.run pos pins s1 σ _ _ I1 ht) fun us s2 ⟨vs, H2, I2, r, h2, q⟩ => ⟨c.fn _ _ I2.hok I2.kIn h2, ?_⟩) he hpl
  show wpAny _ _ (call (.ref f) us) _ _ _
  refine wpAny_call (codeAny_mono (c.run X.A X.stack s2 H2 us vs Q E0 (hr.mono hk) I2.env0 h2 r q) fun r s' hq => ?_)
  cases r with
  | error e => exact hq.elim
  | ok fl =>
    cases fl with
    | ret u => exact I2.after hq
    | next => exact hq.elim
    | brk => exact hq.elim
    | cont => exact hq.elim
end
/-- a lambda without captured names, by its expression -/
def lamAt (f : Addr) (F : NF) (b : Expr) : Hp → Prop := fun H => H f = some (LamO f F b) ∧ H F.c = some (CodeO F.c F.qual)
section
variable {P : Program} {w : World} {K : PySem.W.Frag} {mg : Str → Option Value} {base : Heap} {N ps : List Str} {F : NF} {b : Expr} {f : Addr} {k : Nat} {sp : Sp}
theorem VCall.lam (S : NScope N ps [] F.scope) (hcl : F.cl = [])
    (hb : ∀ (pm ctv : Value) (us : List Value), us.length = ps.length → bindArgs (PySem.W.kla_fn F.name F.qual F.params b F.scope F.cl pm (.ref F.c) ctv) ⟨us, []⟩ = pure (ps.zip us))
    (len : ∀ vs H Q E, sp vs H Q E → vs.length = ps.length)
    (hbody : ∀ (A : Around) (outer : List Env) (s : Shared) (H : Hp) (vs : List V) (Q : VK) (E : XK), Room k (A.deeper (envF F f s.heap.objs.size)) → lamAt f F b H → sp vs H Q E →
      ∃ t, PE (ncx CX0 P w K mg base N F f A outer s H E).nox b t ∧ t (startF N vs []) H Q) :
    VCall P w K mg base (k + 1) f (lamAt f F b) sp := by
  refine ⟨fun h H hok _ hf => ?_, fun A outer s H us vs Q E hr e0 hf r hsp => ?_⟩
  · obtain ⟨od, sl, pm, ctv, z⟩ := lamO_at hok hf.1
    exact ⟨_, od, _, sl, z⟩
  · have hl := len _ _ _ _ hsp
    have lim : s.heap.NoLimit := e0.mod.nolimit.keeps fun b o e => (e0.bs b o e).1
    obtain ⟨od, sl, pm, ctv, ho⟩ := lamO_at e0.hok hf.1
    refine PySem.W.kla_callFunE hr.depth ho rfl S.co S.gen rfl (codeO_at e0.hok hf.2) ?_
    rw [hb pm ctv us (by rw [← r.length]; exact hl)]
    refine wpAny_pure (wpAny_newFunctionEnv S.nocell (fun ⟨n, _⟩ hy => S.par n (List.of_mem_zip hy).1) (fun h₁ hns hsb => ⟨lim.fresh _ hsb, ?_⟩) S.kind)
    show codeAny _ _ (.expr b (envF F f s.heap.objs.size)) _ _
    have kp : ∀ b o, s.heap.get? b = some o → h₁.get? b = some o := fun b o e =>
      hsb.extBut b o (Nat.ne_of_lt (Heap.lt_size e)) (Heap.get?_push_of_some _ e)
    obtain ⟨t, ht, hq⟩ := hbody A outer s H vs Q E (hr.deeper _) hf hsp
    have C : CellsAt F.cl ([] : List Str) ([] : List (Option V)) s.heap H := by
      have no : ∀ (y : Str) (c : Addr), F.cl.lookup y ≠ some c := fun y c e => by
        rw [hcl] at e
        exact nomatch (show (none : Option Addr) = some c from e)
      exact ⟨rfl, fun y c e => absurd e (no y c), fun x y c e _ => absurd e (no x c), fun i y e => nomatch (show (none : Option Str) = some y from (by simpa using e))⟩
    have J : Inv (ncx CX0 P w K mg base N F f A outer s H E) [] (startF N vs []) H { s with heap := h₁, toks := s.toks + (ps.zip us).length } := inv_startN S hr.hd e0 hl r C hns kp
    refine PySem.W.kla_codeExpr (wpAny_mono (ht.nox.run [] _ (startF N vs []) H Q J hq) (fun v s' z => ?_) fun e s' z => z)
    obtain ⟨w', H', J', rv, q⟩ := z
    exact ⟨w', H', J'.os, J'.bare, J'.base, J'.hok, rv, q⟩
end
end VA

set_option Elab.async false
set_option linter.all false
set_option maxRecDepth 100000
set_option maxHeartbeats 4000000
namespace VS
open PySem PySem.Spec PyProof.Rows L2
/-! sets of keys (whole numbers and texts) that can be walked: as SetR, over the mixed keys -/
def kOf (e : Int × Value) : Key := match e.2 with
  | .int k _ => Sum.inl k
  | .str x _ => Sum.inr x
  | _ => Sum.inl 0
def Fit (w : World) (e : Int × Value) : Prop := ∃ k : Key, keyIs k e.2 = true ∧ e.1 = keyH w k
theorem kOf_is {e : Int × Value} {k : Key} (h : keyIs k e.2 = true) : kOf e = k := by
  unfold kOf
  rcases keyIs_shape h with ⟨i, t, rfl, q⟩ | ⟨x, t, rfl, q⟩ <;> rw [q]
theorem keyIs_kOf {w : World} {e : Int × Value} (g : Fit w e) (k : Key) : keyIs k e.2 = true ↔ kOf e = k := by
  obtain ⟨k0, h0, _⟩ := g
  have e0 := kOf_is h0
  constructor
  · exact kOf_is
  · intro z
    rw [e0] at z
    rw [← z]
    exact h0
theorem fit_scan {w : World} {e : Int × Value} (g : Fit w e) : e.2.scannable = true := by
  obtain ⟨k0, h0, _⟩ := g
  rcases keyIs_shape h0 with ⟨i, t, _, q⟩ | ⟨x, t, _, q⟩ <;> rw [q] <;> rfl
/-- the set at a: its members are those of S, n of them -/
def SetM (w : World) (h : Heap) (a : Addr) (S : Key → Bool) (n : Nat) : Prop :=
  ∃ ob es ep tb, h.get? a = some ob ∧ ob.ExactSet ∧ ob.data = .set es ep tb ∧ (∀ e ∈ es.toList, Fit w e) ∧ (es.toList.map kOf).Nodup ∧
    (∀ k, S k = true ↔ k ∈ es.toList.map kOf) ∧ es.size < scanBound ∧ tb.fits es.size = true ∧ es.size = n ∧ Ris tb.place.toList ∧
    (w.params.followText "set-order" = true ∨ tb.led = true)
section
variable {P : Program} {w : World} {h h' : Heap} {a : Addr} {S : Key → Bool} {n : Nat}
theorem SetM.at (m : SetM w h a S n) (kp : ∀ ob, h.get? a = some ob → h'.get? a = some ob) : SetM w h' a S n := by
  obtain ⟨ob, es, ep, tb, ho, r⟩ := m
  exact ⟨ob, es, ep, tb, kp ob ho, r⟩
theorem fit_elems {l : List (Int × Value)} (g : ∀ e ∈ l, Fit w e) : ElemsOf (mixKind P w) l := by
  intro e he
  obtain ⟨k, h1, h2⟩ := g e he
  exact ⟨⟨k, h1, h2⟩, fit_scan (g e he)⟩
theorem fit_mem {l : List (Int × Value)} (g : ∀ e ∈ l, Fit w e) (k : Key) : k ∈ l.map kOf ↔ ∃ e ∈ l, (mixKind P w).is k e.2 = true := by
  rw [List.mem_map]
  constructor
  · rintro ⟨e, he, q⟩; exact ⟨e, he, (keyIs_kOf (g e he) k).2 q⟩
  · rintro ⟨e, he, q⟩; exact ⟨e, he, (keyIs_kOf (g e he) k).1 q⟩
theorem SetM.setOf (m : SetM w h a S n) : h.SetOf (mixKind P w) a S n := by
  obtain ⟨ob, es, ep, tb, ho, hx, hd, g, nd, hm, hb, hf, hn, _⟩ := m
  exact ⟨ob, es, ep, tb, ho, hx, hd, fit_elems g, fun k => Iff.trans (hm k) (fit_mem g k), hb, hf, hn⟩
end
section
variable {P : Program} {w : World} {A : Around} {E : Value → Shared → Prop} {s : Shared} {a : Addr} {S : Key → Bool} {n : Nat}
theorem add_tailM {gv : Bool → Sem Unit} (hgv : ∀ (b : Bool) (z : Shared) (F : Unit → Shared → Prop), F () z → wpAny (model P w) A (gv b) F E z)
    {ob : Obj} {es : Array (Int × Value)} {ep : Nat} {tb : SetTable} (ho : s.heap.get? a = some ob) (hex : ob.ExactSet) (hd : ob.data = .set es ep tb)
    {e1 : Array (Int × Value)} {t1 : SetTable} {S1 : Key → Bool} (g1 : ∀ e ∈ e1.toList, Fit w e) (nd1 : (e1.toList.map kOf).Nodup)
    (m1 : ∀ k, S1 k = true ↔ k ∈ e1.toList.map kOf) (hb1 : e1.size < scanBound) (hf1 : t1.fits e1.size = true) (hr1 : Ris t1.place.toList)
    (hl1 : w.params.followText "set-order" = true ∨ t1.led = true) {wasDummy : Bool} {F : Option Bool → Shared → Prop}
    (hF : ∀ h', Heap.SameBut a s.heap h' → SetM w h' a S1 e1.size → F (some true) { s with heap := h' }) :
    wpAny (model P w) A (do
      storeSet a e1 t1
      if (!wasDummy && t1.tooFull) = true then do
          gv (relayAll t1 e1 (SetTable.grown e1.size)).2.2
          storeSet a (relayAll t1 e1 (SetTable.grown e1.size)).1 (relayAll t1 e1 (SetTable.grown e1.size)).2.1
          pure (some true)
        else pure (some true)) F E s := by
  have at1 := store_at (es' := e1) (t' := t1) ho hd
  have but1 := Heap.SameBut.update s.heap a (Obj.putSet e1 t1)
  refine wpAny_bind (wpAny_storeSet_of ho hd ?_ (fits_of_scanBound hb1))
  split
  · have p2 := relayAll_perm t1 e1 (SetTable.grown e1.size)
    have f2 := relayAll_fits t1 e1 (SetTable.grown e1.size)
    have r2 := relayAll_ris t1 e1 (SetTable.grown e1.size)
    have l2 := relayAll_led t1 e1 (SetTable.grown e1.size)
    generalize relayAll t1 e1 (SetTable.grown e1.size) = Y at p2 f2 r2 l2 ⊢
    obtain ⟨e2, t2, gave⟩ := Y
    dsimp only at p2 f2 r2 l2 ⊢
    have z2 : e2.size = e1.size := by rw [← Array.length_toList, p2.length_eq, Array.length_toList]
    have b2 : e2.size < scanBound := z2 ▸ hb1
    refine wpAny_bind (hgv _ _ _ (wpAny_bind (wpAny_storeSet_of at1 rfl ?_ (fits_of_scanBound b2))))
    have at2 := store_at (es' := e2) (t' := t2) at1 rfl
    have pk := p2.map kOf
    refine wpAny_pure (hF _ (but1.trans (Heap.SameBut.update _ a _)) ⟨_, e2, _, t2, at2, hex, rfl, ?_, ?_, ?_, b2, f2, z2, r2, ?_⟩)
    · intro e he; exact g1 e (p2.mem_iff.mp he)
    · exact pk.nodup_iff.mpr nd1
    · intro k; exact Iff.trans (m1 k) pk.mem_iff.symm
    · exact hl1.imp id fun z => by rw [l2]; exact z
  · exact wpAny_pure (hF _ but1 ⟨_, e1, _, t1, at1, hex, rfl, g1, nd1, m1, hb1, hf1, rfl, hr1, hl1⟩)
theorem add_hashedM {k : Key} {u : Value} {F : Bool → Shared → Prop} (hkey : (mixKind P w).is k u = true) (hsc : u.scannable = true)
    (m : SetM w s.heap a S n) (room : n + 1 < scanBound)
    (hF : ∀ h', Heap.SameBut a s.heap h' → SetM w h' a (fun j => S j || decide (j = k)) (if S k = true then n else n + 1) → F (!S k) { s with heap := h' }) :
    wpAny (model P w) A (setAddHashed a u ((mixKind P w).hash k)) F E s := by
  obtain ⟨ob, es, ep, tb, ho, hex, hd, g, nd, hm, hb, hf, hn, hr, hl⟩ := m
  have hel : ElemsOf (mixKind P w) es.toList := fit_elems g
  unfold setAddHashed setAddHashedIn
  refine wpAny_holding (wpAny_bind (wpAny_setState_of ho hd hf ?_))
  dsimp only
  rw [byScan_of hsc hb hel]
  simp only [↓reduceIte]
  unfold setAddByScan
  refine wpAny_bind (wpAny_bind (wpAny_rule (wpAny_bind (wpAny_setScan_of hkey ho hd hf hel ?_))))
  cases hfi : List.findIdx? (fun e => (mixKind P w).is k e.2) es.toList with
  | some j =>
    obtain ⟨hj, pj, _⟩ := List.findIdx?_eq_some_iff_getElem.mp hfi
    have inS : S k = true := (hm k).2 ((fit_mem (P := P) (w := w) g k).2 ⟨es.toList[j], List.getElem_mem hj, pj⟩)
    dsimp only
    have mem : ∀ i, (S i || decide (i = k)) = true ↔ i ∈ es.toList.map kOf := by
      intro i
      rw [Bool.or_eq_true, decide_eq_true_eq, ← hm i]
      exact ⟨fun z => z.elim id (fun e => e ▸ inS), .inl⟩
    have q := hF s.heap (Heap.SameBut.refl a s.heap) ⟨ob, es, ep, tb, ho, hex, hd, g, nd, mem, hb, hf, by rw [if_pos inS]; exact hn, hr, hl⟩
    rw [inS] at q
    exact wpAny_pure (wpAny_pure q)
  | none =>
    have out : k ∉ es.toList.map kOf := by
      intro z
      obtain ⟨e, he, q⟩ := (fit_mem (P := P) (w := w) g k).1 z
      have c := List.findIdx?_eq_none_iff.mp hfi e he
      rw [q] at c
      cases c
    have offS : S k = false := by
      cases q : S k with
      | false => rfl
      | true => exact absurd ((hm k).1 q) out
    dsimp only
    have gw : ∀ (b : Bool) {z : Shared} {F' : Unit → Shared → Prop}, F' () z →
        wpAny (model P w) A (match b with | true => rule "set.scan.the-table-gave-way" | false => pure ()) F' E z := by
      intro b z F' q
      cases b
      · exact wpAny_pure q
      · exact wpAny_rule q
    have p1 := layNew_perm tb es ((mixKind P w).hash k) u
    have f1 := layNew_fits tb es ((mixKind P w).hash k) u
    have r1 := layNew_ris tb es ((mixKind P w).hash k) u hr
    have l1 := layNew_led tb es ((mixKind P w).hash k) u
    generalize layNew tb es ((mixKind P w).hash k) u = Y at p1 f1 r1 l1 ⊢
    obtain ⟨e1, t1, wasDummy, gave⟩ := Y
    dsimp only at p1 f1 r1 l1 ⊢
    rw [Array.toList_push] at p1
    have pc : e1.toList.Perm (((mixKind P w).hash k, u) :: es.toList) := p1.trans (List.perm_append_singleton _ _)
    have hk1 : kOf ((mixKind P w).hash k, u) = k := kOf_is hkey
    have pk : (e1.toList.map kOf).Perm (k :: es.toList.map kOf) := by
      have z := pc.map kOf
      rw [List.map_cons, hk1] at z
      exact z
    have g1 : ∀ e ∈ e1.toList, Fit w e := by
      intro e he
      rcases List.mem_cons.mp (pc.mem_iff.mp he) with z | z
      · rw [z]; exact ⟨k, hkey, rfl⟩
      · exact g e z
    have nd1 : (e1.toList.map kOf).Nodup := pk.nodup_iff.mpr (List.nodup_cons.mpr ⟨out, nd⟩)
    have m1 : ∀ i, (S i || decide (i = k)) = true ↔ i ∈ e1.toList.map kOf := by
      intro i
      rw [Bool.or_eq_true, decide_eq_true_eq, hm i, pk.mem_iff, List.mem_cons]
      exact Or.comm
    have sz : e1.size = n + 1 := by rw [← Array.length_toList, pc.length_eq, List.length_cons, Array.length_toList, hn]
    have b1 : e1.size < scanBound := by rw [sz]; exact room
    have led1 : w.params.followText "set-order" = true ∨ t1.led = true := hl.imp id fun z => by rw [l1]; exact z
    have fin : ∀ h', Heap.SameBut a s.heap h' → SetM w h' a (fun j => S j || decide (j = k)) e1.size → F true { s with heap := h' } := by
      intro h' sb r
      have q := hF h' sb
      rw [offS] at q
      rw [sz] at r
      exact q r
    refine wpAny_bind (gw _ ?_)
    split
    · refine wpAny_bind ?_
      rw [hashByValue_scannable 8 hsc]
      refine wpAny_pure (add_tailM ?_ ho hex hd g1 nd1 m1 b1 ?_ ?_ ?_ fun h' sb r => ?_)
      · intro b z F' q
        cases b
        · first | exact wpAny_pure q | exact wpAny_rule q
        · first | exact wpAny_rule q | exact wpAny_pure q
      · first | (split <;> first | exact f1 | exact SetTable.fits_plain_off f1) | exact f1
      · first | (split <;> exact r1) | exact r1
      · first | (split <;> exact led1) | exact led1
      · dsimp only; exact wpAny_pure (fin h' sb r)
    · refine wpAny_bind (wpAny_pure ?_)
      simp only [↓reduceIte]
      refine add_tailM ?_ ho hex hd g1 nd1 m1 b1 f1 r1 led1 fun h' sb r => ?_
      · intro b z F' q
        cases b
        · first | exact wpAny_pure q | exact wpAny_rule q
        · first | exact wpAny_rule q | exact wpAny_pure q
      · dsimp only; exact wpAny_pure (fin h' sb r)
theorem call_addM {k : Key} {u : Value} {F : Value → Shared → Prop} (hkey : (mixKind P w).is k u = true) (hsc : u.scannable = true)
    (m : SetM w s.heap a S n) (room : n + 1 < scanBound)
    (hF : ∀ h', Heap.SameBut a s.heap h' → SetM w h' a (fun j => S j || decide (j = k)) (if S k = true then n else n + 1) → F .none { s with heap := h', toks := s.toks + 1 }) :
    wpAny (model P w) A (call (.builtin "set.add") [.ref a, u]) F E s := by
  have so : s.heap.SetOf (mixKind P w) a S n := m.setOf
  refine wpAny_call_entry PySem.F.slot_set_add so.typeIs PySem.F.entry_set_add ?_ (PySem.F.args_set_add_2 _ _)
  unfold Builtin.«set.add» Builtin.Frozenset.oneOther
  simp only [List.isEmpty_nil, bind_assoc]
  unfold Builtin.Frozenset.addrOf setAdd
  refine wpAny_bind (wpAny_pure ?_)
  try dsimp only
  refine wpAny_bind (wpAny_pure ?_)
  try dsimp only
  refine wpAny_bind (wpAny_holding (wpAny_bind ((mixKind P w).pyHash hkey ?_)))
  refine add_hashedM (s := { s with toks := s.toks + 1 }) hkey hsc m room fun h' sb r => ?_
  show wpAny _ _ (ret Value.none) _ _ _
  exact wpAny_pure ⟨_, rfl, hF h' sb r⟩
theorem freshM {h : Heap} (w : World) : SetM w (h.push { cls := .type "set", dict := none, data := .set #[] 0 (.fresh 0 0 (!w.params.followText "set-order")) }) h.objs.size (fun _ => false) 0 := by
  refine ⟨_, #[], 0, _, Heap.get?_push_size _ rfl, ⟨rfl, rfl, rfl⟩, rfl, (fun e he => by simp at he), (by simp), (fun k => by simp), (by decide), (by rfl), rfl, List.Pairwise.nil, ?_⟩
  show _ ∨ (!w.params.followText "set-order") = true
  cases w.params.followText "set-order"
  · exact .inr rfl
  · exact .inl rfl
end
/-! over the layer -/
def SetMO (w : World) (a : Addr) (S : Key → Bool) (n : Nat) : HO := .ext fun h => SetM w h a S n
section
variable {X : Cx}
theorem setMO_new {w : World} {P : Program} {H : Hp} {h : Heap} {a : Addr} {S : Key → Bool} {n : Nat} (m : SetM w h a S n) : ObjOk P w H h a (SetMO w a S n) := by
  have ⟨o, _, _, _, ho, _⟩ := m
  exact ⟨m, ⟨o, ho⟩, fun _ _ p q => SetM.at p q⟩
theorem setMO_get {pins : List (Addr × Obj)} {σ : L2.St} {H : Hp} {s : Shared} {a : Addr} {S : Key → Bool} {n : Nat} (I : Inv X pins σ H s)
    (ha : H a = some (SetMO X.w a S n)) : SetM X.w s.heap a S n := by
  have z := I.hok a _ ha
  exact z.1
/-- set() -/
def rSet0M (w : World) : List V → Hp → VK → Prop := fun xs H Q => xs = [] ∧ ∀ p, H p = none → Q (.ref p) (upd H p (SetMO w p (fun _ => false) 0))
theorem cr_set0M : CallR X (.type "set") (rSet0M X.w) := by
  intro pins s σ H xs us Q I r h
  obtain ⟨rfl, q⟩ := h
  cases r
  refine setR_new fun _ => ?_
  have fr : H s.heap.objs.size = none := I.hok.fresh (Nat.le_refl _)
  exact ⟨.ref _, upd H s.heap.objs.size (SetMO X.w s.heap.objs.size (fun _ => false) 0),
    I.laid (t' := s.toks) (fun b u e => Heap.get?_push_of_some _ e) (Nat.le_refl _) (setMO_new (freshM X.w)), rfl, q _ fr⟩
/-- found.add(k) -/
def tSAddM (w : World) (to te : TE) : TE := fun σ H Q => to σ H fun x H1 => (∃ a S n, x = V.ref a ∧ H1 a = some (SetMO w a S n)) ∧
  te σ H1 fun y H2 => ∃ (a : Addr) (k : Key) (S : Key → Bool) (n : Nat), x = V.ref a ∧ y = kV k ∧ H2 a = some (SetMO w a S n) ∧ n + 1 < scanBound ∧
    Q .non (upd H2 a (SetMO w a (fun j => S j || decide (j = k)) (if S k = true then n else n + 1)))
variable {o e : Expr} {to te : TE} {apos cpos : Pos}
theorem pe_saddM (ho : PE X o to) (he : PE X e te)
    (hbase : attributeBase o "add" X.env (eval o X.env) = eval o X.env := by rfl)
    (hfew : ((backTo cpos (starEach [e] X.env)).all (fun x => !x.1) && (backToKw cpos (keywordEach [] X.env)).all (fun x => x.1.isSome)
      && decide (([e] : List Expr).length + ([] : List Keyword).length + (if ([] : List Keyword).isEmpty then 0 else 1) < 30)) = true := by rfl)
    (hline : (apos.endLine == cpos.line) = true := by rfl) (hs : starEach [e] X.env = (false, eval e X.env) :: starEach [] X.env := by rfl) :
    PE X (.Call (.Attribute o "add" apos) [e] [] cpos) (tSAddM X.w to te) := by
  refine ⟨fun pins s σ H Q I h => ?_⟩
  refine wpAny_Call_method_late hbase hfew hline rfl (thn (ho.run pins s σ H _ I h) fun v s1 ⟨x, H1, I1, r1, ty, q1⟩ => ?_)
  obtain ⟨a, S, n, ex, hka⟩ := ty
  subst ex
  have m1 := setMO_get I1 hka
  obtain rfl : v = Value.ref a := r1
  have so : s1.heap.SetOf (mixKind X.prog X.w) a S n := m1.setOf
  refine ⟨"set", "set.add", PySem.F.plainAttrs_set, PySem.F.slot_set_add, PySem.F.type_set_add, so.typeIs, so.noDict, ?_⟩
  rw [hs]
  refine Calls.callWith_builtin (by rfl) (Calls.evalArgs_plain (Calls.spliced_cons (thn (he.run pins s1 σ H1 _ I1 q1) fun u s2 ⟨y, H2, I2, ry, q2⟩ => Calls.spliced_nil ?_)))
  obtain ⟨a2, k, S2, n2, ea, ey, hk2, room, q⟩ := q2
  obtain rfl : a = a2 := V.ref.inj ea
  subst ey
  refine call_addM (kV_is ry) (key_scan ry) (setMO_get I2 hk2) room fun h' sb new => ?_
  have there : ∃ o', h'.get? a = some o' := by
    have ⟨o', _, _, _, ho', _⟩ := new
    exact ⟨o', ho'⟩
  exact ⟨.non, upd H2 a (SetMO X.w a (fun j => S2 j || decide (j = k)) (if S2 k = true then n2 else n2 + 1)),
    I2.write (e := a) (t' := s2.toks + 1) (by rw [hk2]; trivial) (.inl rfl) (fun b u' hb hu => (sb.2 b hb).trans hu) there (setMO_new new), rfl, q⟩
/-- the order of texts -/
def leS (a b : Str) : Bool := decide (a.cps.toList ≤ b.cps.toList)
/-- sorted(found), the members texts -/
def rSortedM (w : World) : List V → Hp → VK → Prop := fun vs H Q => ∃ (a : Addr) (S : Key → Bool) (n : Nat), vs = [V.ref a] ∧ H a = some (SetMO w a S n) ∧
  (∀ k, S k = true → ∃ x, k = Sum.inr x) ∧ ∀ (ss : List Str) (p : Addr), ss.Nodup → (∀ x, x ∈ ss ↔ S (Sum.inr x) = true) → ss.length = n → H p = none →
    Q (.ref p) (upd H p (.lst ((ss.mergeSort leS).map V.str)))
theorem key_str {e : Int × Value} {w : World} (g : Fit w e) {x : Str} (hk : kOf e = Sum.inr x) : RelV (V.str x) e.2 := by
  obtain ⟨k0, h0, _⟩ := g
  have e0 := kOf_is h0
  rw [hk] at e0
  subst e0
  rcases keyIs_shape h0 with ⟨i, t, z, _⟩ | ⟨y, t, z, q⟩
  · cases z
  · cases z
    exact ⟨t, q⟩
theorem cr_sortedM {k : Nat} (hc : X.calm = true) (hr : Room k X.A) : CallR X (.builtin "sorted") (rSortedM X.w) := by
  intro pins s σ H vs us Q I r h
  obtain ⟨a, S, n, rfl, ha, ks, q⟩ := h
  obtain ⟨ob, es, ep, tb, ho, hex, hd, g, nd, hm, hb, hf, hn, hri, hl⟩ := setMO_get I ha
  rw [Vals.ref1 r]
  have hun := hr.un
  have hh : X.A.handled = none := I.ok.hd hc
  refine Calls.call_function_entry kind_sorted plain_sorted entry_sorted (args_sorted1 _) ?_
  unfold Builtin.«sorted»
  refine wpAny_bind (m := checkCount "sorted" 1 1 _) (wpAny_pure ?_)
  refine wpAny_bind (collect_set (A := X.A.in1) hh ⟨ob, ho, hex.1, hd⟩ hf hb hri hl fun s1 us1 k1 hz g1 o1 pm => ?_)
  -- the texts, in the order met
  have hv : ∀ u ∈ us1, ∃ x, RelV (V.str x) u ∧ S (Sum.inr x) = true := by
    intro u hu
    obtain ⟨e, he, z⟩ := List.mem_map.mp (pm.mem_iff.mp hu)
    have inS : S (kOf e) = true := (hm _).2 (List.mem_map.mpr ⟨e, he, rfl⟩)
    obtain ⟨x, hx⟩ := ks _ inS
    exact ⟨x, by rw [← z]; exact key_str (g e he) hx, by rw [← hx]; exact inS⟩
  let tx : Value → Str := fun u => match u with | .str x _ => x | _ => Str.empty
  have htx : ∀ {u : Value} {x : Str}, RelV (V.str x) u → tx u = x := by
    intro u x z
    obtain ⟨t, z⟩ := z
    rw [z]
  have each : ∀ l : List Value, (∀ u ∈ l, ∃ x, RelV (V.str x) u ∧ S (Sum.inr x) = true) → PySem.W.EachIs (fun u x => RelV (V.str x) u) l (l.map tx) := by
    intro l
    induction l with
    | nil => intro _; exact .nil
    | cons u l ih =>
      intro hl2
      obtain ⟨x, hx, _⟩ := hl2 u List.mem_cons_self
      exact .cons (by rw [htx hx]; exact hx) (ih fun v hv => hl2 v (List.mem_cons_of_mem _ hv))
  have e1 := each us1 hv
  have pk : ((us1.map tx).map Sum.inr).Perm (es.toList.map kOf) := by
    have z := pm.map (fun u => (Sum.inr (tx u) : Key))
    rw [List.map_map] at z
    rw [List.map_map]
    refine z.trans (List.Perm.of_eq ?_)
    refine List.map_congr_left fun e he => ?_
    obtain ⟨x, hx⟩ := ks _ ((hm _).2 (List.mem_map.mpr ⟨e, he, rfl⟩))
    show (Sum.inr (tx e.2) : Key) = kOf e
    rw [htx (key_str (g e he) hx), hx]
  have ndS : (us1.map tx).Nodup := by
    have z := pk.nodup_iff.mpr nd
    exact List.Pairwise.of_map _ (fun x y hxy e => hxy (congrArg Sum.inr e)) z
  have memS : ∀ x, x ∈ us1.map tx ↔ S (Sum.inr x) = true := by
    intro x
    rw [hm, ← pk.mem_iff]
    refine ⟨fun z => List.mem_map.mpr ⟨x, z, rfl⟩, fun z => ?_⟩
    obtain ⟨y, hy, e⟩ := List.mem_map.mp z
    cases e
    exact hy
  have lenS : (us1.map tx).length = n := by
    rw [List.length_map, pm.length_eq, List.length_map, Array.length_toList]; exact hn
  have few : us1.length ≤ sizeLine := by
    have z := lenS
    rw [List.length_map] at z
    rw [z, ← hn]
    exact fits_of_scanBound hb
  refine wpAny_bind (wpAny_newList ?_ few)
  have hoL : (s1.heap.push (seqObj "list" us1.toArray 0)).get? s1.heap.objs.size = some (seqObj "list" us1.toArray 0) := Heap.get?_push_size _ rfl
  have hbs : ((us1.map tx).map PyData.str).length = us1.length := by rw [List.length_map, List.length_map]
  refine wpAny_bind (wpAny_holding (PySem.W.list_sort_data (enc := PyData.str) (bs := us1.map tx) (R := fun u x => RelV (V.str x) u) hoL e1 ?_ ?_ ?_ (by rw [List.length_map]; exact few) ?_ fun out lo eo => ?_))
  · exact e1.mono fun u x ⟨t, z⟩ => ⟨[], by rw [z]; exact .str x t, by simp⟩
  · intro d hd' d' hd''
    obtain ⟨x, _, rfl⟩ := List.mem_map.mp hd'
    obtain ⟨y, _, rfl⟩ := List.mem_map.mp hd''
    rfl
  · refine .inr fun d hd' => ?_
    obtain ⟨x, _, rfl⟩ := List.mem_map.mp hd'
    exact ⟨fun z => PyData.noConfusion z, fun xs z => PyData.noConfusion z⟩
  · intro b hb'
    show X.A.units + 1 + 1 + 0 < cLine
    omega
  · obtain ⟨c, hc'⟩ := sortedHeap_at (vs := us1) (out := out.toArray) hoL
    have kp : ∀ b u, s.heap.get? b = some u → (PyProof.Rows.sortedHeap (s1.heap.push (seqObj "list" us1.toArray 0)) s1.heap.objs.size us1 out.toArray).get? b = some u := by
      intro b u e
      have z := k1 b u e
      have hlt := Heap.lt_size z
      rw [sortedHeap_old (Nat.ne_of_lt hlt) (by rw [size_push']; exact Nat.lt_succ_of_lt hlt)]
      exact Heap.get?_push_of_some _ z
    have eS : (PySem.W.dataLe false PyData.str : Str → Str → Bool) = leS := PySem.W.dataLe_str (fun x => x)
    rw [eS] at eo
    have fr : H s1.heap.objs.size = none := I.hok.fresh hz
    have rv : Vals ((((us1.map tx).mergeSort leS)).map V.str) out := VA.vals_each V.str eo
    have lim : ((((us1.map tx).mergeSort leS)).map V.str).length ≤ sizeLine := by
      rw [List.length_map, List.length_mergeSort, List.length_map]; exact few
    have J : Inv X pins σ (upd H s1.heap.objs.size (.lst (((us1.map tx).mergeSort leS).map V.str)))
        { s with heap := PyProof.Rows.sortedHeap (s1.heap.push (seqObj "list" us1.toArray 0)) s1.heap.objs.size us1 out.toArray, gens := s1.gens, drawn := s1.drawn, toks := s1.toks } :=
      I.call (ch := []) (Un.laid kp hz fr) (I.hok.laid kp hz ⟨lim, out, c, rv, hc'⟩) (by rw [g1]; exact I.bare) (fun _ z => nomatch z)
    have es' : ({ s1 with heap := PyProof.Rows.sortedHeap (s1.heap.push (seqObj "list" us1.toArray 0)) s1.heap.objs.size us1 out.toArray } : Shared) =
        { s with heap := PyProof.Rows.sortedHeap (s1.heap.push (seqObj "list" us1.toArray 0)) s1.heap.objs.size us1 out.toArray, gens := s1.gens, drawn := s1.drawn, toks := s1.toks } := by
      rw [← o1]
    refine wpAny_pure ⟨_, rfl, ?_⟩
    rw [es']
    exact ⟨.ref _, _, J, rfl, q (us1.map tx) _ ndS memS lenS fr⟩
end
end VS

set_option Elab.async false
set_option linter.all false
set_option maxRecDepth 100000
set_option maxHeartbeats 4000000
namespace VB
open PySem PySem.Spec PyProof.Rows L2 LamX NdefX
/-! a def of the text under its name -/
abbrev FnP (K : PySem.W.Frag) (x : Str) (st : Stmt) (f : Addr) (fd : FuncData) : Prop := FunD K x x (defArgs st) (defBody st) (defScope st) [] [] f fd
def Df (K : PySem.W.Frag) (mg : Str → Option Value) (x : Str) (st : Stmt) : Prop := ∃ (f : Addr) (fd : FuncData), FnP K x st f fd ∧ mg x = some (.ref f)
abbrev BindOk (x : Str) (st : Stmt) (ps : List Str) : Prop := ∀ (kV doc pm : Value) (an : Option Addr) (cdv ct : Value) (us : List Value), us.length = ps.length →
  bindArgs (PySem.W.fnOf x x (defArgs st) (defBody st) (defScope st) .none kV doc pm an cdv ct) ⟨us, []⟩ = pure (ps.zip us)
section
variable {P : Program} {w : World} {K : PySem.W.Frag} {mg : Str → Option Value} {base : Heap}
theorem Df.cal {x : Str} {st : Stmt} {N ps : List Str} {k : Nat} {sp : Sp} (D : Df K mg x st) (S : FnScope N ps (defScope st)) (hb : BindOk x st ps)
    (len : ∀ vs H Q E, sp vs H Q E → vs.length = ps.length)
    (hbody : ∀ (f : Addr) (cdv : Value) (A : Around) (outer : List Env) (s : Shared) (H : Hp) (vs : List V) (Q : VK) (E : XK),
      Room k (A.deeper (envOfC x (defScope st) s.heap.objs.size f cdv)) → sp vs H Q E →
      ∃ t, PSs (cxOf CX0 P w K mg base N x (defScope st) f cdv A outer s H E).nox (defBody st) t ∧ t { nx := fun _ H' => Q .non H', rt := Q } (start N vs) H) :
    C8.Cal P w K mg base (k + 1) x sp [] := by
  obtain ⟨f, fd, F, hm⟩ := D
  refine ⟨f, fd, ps, [], F.ok S len (fun cdv A outer s H vs Q E hr h => ?_), hm, F.kp, F.bindsN hb, .nil⟩
  obtain ⟨t, a, b⟩ := hbody f cdv A outer s H vs Q E hr h
  exact ⟨t, a.nox, b⟩
theorem calMono {x : Str} {j k : Nat} {sp : Sp} {dvs : List V} (c : C8.Cal P w K mg base j x sp dvs) (h : j ≤ k) : C8.Cal P w K mg base k x sp dvs := by
  obtain ⟨f, fd, ps, ds, F, r⟩ := c.ex
  exact ⟨f, fd, ps, ds, F.mono h, r⟩
theorem calImp {x : Str} {k : Nat} {sp sp' : Sp} {dvs : List V} (c : C8.Cal P w K mg base k x sp dvs) (h : ∀ vs H Q E, sp' vs H Q E → sp vs H Q E) : C8.Cal P w K mg base k x sp' dvs := by
  obtain ⟨f, fd, ps, ds, F, r⟩ := c.ex
  exact ⟨f, fd, ps, ds, F.imp h, r⟩
end
/-! heaps -/
/-- all but the object at a is as it was -/
def But (a : Addr) (H H' : Hp) : Prop := ∀ b o, b ≠ a → H b = some o → H' b = some o
/-- tuples and what is locked stay -/
structure Kp (H H' : Hp) : Prop where
  tup : ∀ b xs, H b = some (.tup xs) → H' b = some (.tup xs)
  frz : ∀ b o u, H b = some (.frz o u) → H' b = some (.frz o u)
theorem But.refl (a : Addr) (H : Hp) : But a H H := fun _ _ _ h => h
theorem But.trans {a : Addr} {H H1 H2 : Hp} (x : But a H H1) (y : But a H1 H2) : But a H H2 := fun b o n h => y b o n (x b o n h)
theorem But.of {a : Addr} {H H' : Hp} (x : Same H H') : But a H H' := fun b o _ h => x b o h
theorem But.upd {a : Addr} {H : Hp} (o : HO) : But a H (upd H a o) := fun b u n h => by rw [upd_ne n]; exact h
theorem same_upd {H : Hp} {p : Addr} (h : H p = none) (o : HO) : Same H (upd H p o) := fun b u q => by rw [upd_ne (ne_of_none q h)]; exact q
theorem Kp.refl (H : Hp) : Kp H H := ⟨fun _ _ h => h, fun _ _ _ h => h⟩
theorem Kp.trans {H H1 H2 : Hp} (x : Kp H H1) (y : Kp H1 H2) : Kp H H2 := ⟨fun b xs h => y.tup b xs (x.tup b xs h), fun b o u h => y.frz b o u (x.frz b o u h)⟩
theorem Kp.of {H H' : Hp} (x : Same H H') : Kp H H' := ⟨fun b xs h => x b _ h, fun b o u h => x b _ h⟩
theorem Kp.ofExtN {H H' : Hp} (x : ExtN H H') : Kp H H' := ⟨fun b xs h => x b _ h (fun ps z => by cases z), fun b o u h => x b _ h (fun ps z => by cases z)⟩
theorem Kp.ofBut {a : Addr} {H H' : Hp} {ys : List V} (x : But a H H') (h : H a = some (.lst ys)) : Kp H H' :=
  ⟨fun b xs q => x b _ (ne_of q h (by intro z; cases z)) q, fun b o u q => x b _ (ne_of q h (by intro z; cases z)) q⟩
theorem Kp.updL {H : Hp} {a : Addr} {ys : List V} (h : H a = some (.lst ys)) (o : HO) : Kp H (upd H a o) := Kp.ofBut (But.upd o) h
theorem Kp.updE {H : Hp} {a : Addr} {φ : Heap → Prop} (h : H a = some (.ext φ)) (o : HO) : Kp H (upd H a o) :=
  ⟨fun b xs q => by rw [upd_ne (ne_of q h (by intro z; cases z))]; exact q, fun b u v q => by rw [upd_ne (ne_of q h (by intro z; cases z))]; exact q⟩
theorem Kp.updN {H : Hp} {a : Addr} (h : H a = none) (o : HO) : Kp H (upd H a o) := Kp.of (same_upd h o)
theorem Kp.sqT {K : PySem.W.Frag} {H H' : Hp} {a : Addr} {xs : List V} (x : Kp H H') (h : SqT K H a xs) : SqT K H' a xs := by
  rcases h with (h | ⟨o, h⟩) | h
  · exact .inl (.inl (x.tup _ _ h))
  · exact .inl (.inr ⟨o, x.frz _ _ _ h⟩)
  · exact .inr h
theorem Same.sqT {K : PySem.W.Frag} {H H' : Hp} {a : Addr} {xs : List V} (x : Same H H') (h : SqT K H a xs) : SqT K H' a xs := (Kp.of x).sqT h
theorem same_none {H H' : Hp} (x : Same H H') {b : Addr} (h : H' b = none) : H b = none := x.free h
theorem But.none {a b : Addr} {H H' : Hp} (x : But a H H') (n : b ≠ a) (h : H' b = Option.none) : H b = Option.none := by
  cases q : H b with
  | none => rfl
  | some o => rw [x b o n q] at h; cases h
/-! data of tuples alone -/
mutual
def flatD : PyData → Bool
  | .none => true
  | .bool _ => true
  | .int _ => true
  | .str _ => true
  | .tuple xs => flatAll xs
  | _ => false
def flatAll : List PyData → Bool
  | [] => true
  | x :: xs => flatD x && flatAll xs
end
mutual
theorem Dp.kp {K : PySem.W.Frag} {H H' : Hp} (x : Kp H H') : ∀ (d : PyData) (v : V), flatD d = true → Dp K H v d → Dp K H' v d
  | .none, _, _, h => by cases h; exact .non
  | .bool _, _, _, h => by cases h; exact .bl _
  | .int _, _, _, h => by cases h; exact .int _
  | .str _, _, _, h => by cases h; exact .str _
  | .tuple ds, _, hf, h => by
    cases h with
    | tup h1 h2 => exact .tup (x.sqT h1) (DpAll.kp x ds _ (by simpa only [flatD] using hf) h2)
theorem DpAll.kp {K : PySem.W.Frag} {H H' : Hp} (x : Kp H H') : ∀ (ds : List PyData) (vs : List V), flatAll ds = true → DpAll K H vs ds → DpAll K H' vs ds
  | [], _, _, h => by cases h; exact .nil
  | d :: ds, _, hf, h => by
    cases h with
    | cons h1 h2 =>
      simp only [flatAll, Bool.and_eq_true] at hf
      exact .cons (Dp.kp x d _ hf.1 h1) (DpAll.kp x ds _ hf.2 h2)
end
theorem DpAll.len {K : PySem.W.Frag} {H : Hp} : ∀ {vs : List V} {ds : List PyData}, DpAll K H vs ds → vs.length = ds.length
  | _, _, .nil => rfl
  | _, _, .cons _ t => congrArg Nat.succ (DpAll.len t)
theorem DpAll.get {K : PySem.W.Frag} {H : Hp} : ∀ {vs : List V} {ds : List PyData}, DpAll K H vs ds → ∀ {i : Nat} {d : PyData}, ds[i]? = some d → ∃ v, vs[i]? = some v ∧ Dp K H v d
  | _, _, .nil, i, d, e => by simp at e
  | _, _, .cons (v := v) h t, 0, d, e => by simp at e; subst e; exact ⟨v, rfl, h⟩
  | _, _, .cons h t, i + 1, d, e => by
    obtain ⟨v, h1, h2⟩ := DpAll.get t (i := i) (d := d) (by simpa using e)
    exact ⟨v, by simpa using h1, h2⟩
/-! .. and any list, where all that was tracked stays -/
mutual
theorem Dp.same {K : PySem.W.Frag} {H H' : Hp} (x : Same H H') : ∀ (d : PyData) (v : V), Dp K H v d → Dp K H' v d
  | .none, _, h => by cases h; exact .non
  | .bool _, _, h => by cases h; exact .bl _
  | .int _, _, h => by cases h; exact .int _
  | .str _, _, h => by cases h; exact .str _
  | .tuple ds, _, h => by
    cases h with
    | tup h1 h2 => exact .tup (Same.sqT x h1) (DpAll.same x ds _ h2)
  | .list ds, _, h => by
    cases h with
    | lst h1 h2 => exact .lst (x.seq h1) (DpAll.same x ds _ h2)
theorem DpAll.same {K : PySem.W.Frag} {H H' : Hp} (x : Same H H') : ∀ (ds : List PyData) (vs : List V), DpAll K H vs ds → DpAll K H' vs ds
  | [], _, h => by cases h; exact .nil
  | d :: ds, _, h => by
    cases h with
    | cons h1 h2 => exact .cons (Dp.same x d _ h1) (DpAll.same x ds _ h2)
end
theorem dpAll_strs {K : PySem.W.Frag} {H : Hp} : ∀ ss : List Str, DpAll K H (ss.map V.str) (ss.map PyData.str)
  | [] => .nil
  | s :: ss => .cons (.str s) (dpAll_strs ss)
/-- the order of texts has one sorted list -/
theorem leS_total (a b : Str) : (VS.leS a b || VS.leS b a) = true := by
  unfold VS.leS
  rw [Bool.or_eq_true, decide_eq_true_eq, decide_eq_true_eq]
  exact List.le_total _ _
theorem leS_trans (a b c : Str) (h1 : VS.leS a b = true) (h2 : VS.leS b c = true) : VS.leS a c = true := by
  unfold VS.leS at *
  rw [decide_eq_true_eq] at *
  exact List.le_trans h1 h2
theorem leS_anti {a b : Str} (h1 : VS.leS a b = true) (h2 : VS.leS b a = true) : a = b := by
  unfold VS.leS at *
  rw [decide_eq_true_eq] at *
  exact PyProof.Rows.ext_toList (List.le_antisymm h1 h2)
theorem sort_perm {xs ys : List Str} (h : xs.Perm ys) : xs.mergeSort VS.leS = ys.mergeSort VS.leS := by
  have h1 := List.pairwise_mergeSort (le := VS.leS) leS_trans leS_total xs
  have h2 := List.pairwise_mergeSort (le := VS.leS) leS_trans leS_total ys
  have p : (xs.mergeSort VS.leS).Perm (ys.mergeSort VS.leS) := (List.mergeSort_perm xs _).trans (h.trans (List.mergeSort_perm ys _).symm)
  exact p.eq_of_pairwise (fun a b _ _ x y => leS_anti x y) h1 h2
theorem sort_mem {xs ys : List Str} (n1 : xs.Nodup) (n2 : ys.Nodup) (h : ∀ x, x ∈ xs ↔ x ∈ ys) : xs.mergeSort VS.leS = ys.mergeSort VS.leS :=
  sort_perm ((List.perm_ext_iff_of_nodup n1 n2).mpr h)
end VB

set_option Elab.async false
set_option linter.all false
set_option maxRecDepth 100000
set_option maxHeartbeats 4000000
namespace VK
open PySem PySem.Spec PyProof.Rows L2 LamX NdefX VB
/-! rules told with the written part by its name (within a comprehension's block the context has names of its own) -/
section
variable {X : Cx} {K : PySem.W.Frag} (h : X.K = K)
include h
theorem ixL : IxR X (rIxL K) := by subst h; exact ix_list
theorem ixT : IxR X (rIxT K) := by subst h; exact ix_tup
theorem ixQ : IxR X (rIx K) := by subst h; exact ix_seq
theorem slL : SlR X (rSlL K) := by subst h; exact sl_list
theorem slT : SlR X (rSlT K) := by subst h; exact sl_tup
theorem catT : OpR X (binaryOp .Add) (rCatT K) := by subst h; exact op_catT
theorem inQ : OpR X (compareOp .In) (rIn K false) := by subst h; exact op_in_seq
theorem notInQ : OpR X (compareOp .NotIn) (rIn K true) := by subst h; exact op_notIn_seq
theorem eqD (hu : X.A.units + 64 < cLine) : OpR X (compareOp .Eq) (rEqD K) := by subst h; exact op_eqD hu
theorem neD (hu : X.A.units + 64 < cLine) : OpR X (compareOp .NotEq) (rNeD K) := by subst h; exact op_neD hu
theorem maxL (hc : X.calm = true) : CallR X (.builtin "max") (rMax K) := by subst h; exact cr_max hc
theorem allL (hc : X.calm = true) : CallR X (.builtin "all") (rAll K) := by subst h; exact cr_all hc
theorem isi : CallR X (.builtin "isinstance") (rIsi K) := by subst h; exact call_isi
end
def rLenQ (K : PySem.W.Frag) : List V → Hp → VK → Prop := fun xs H Q => ∃ p ys, xs = [.ref p] ∧ (SqL K H p ys ∨ SqT K H p ys) ∧ Q (.int ys.length) H
def rListQ (K : PySem.W.Frag) : List V → Hp → VK → Prop := fun xs H Q => ∃ p ys, xs = [.ref p] ∧ (SqL K H p ys ∨ SqT K H p ys) ∧ ∀ l, H l = none → Q (.ref l) (upd H l (.lst ys))
def rTupQ (K : PySem.W.Frag) : List V → Hp → VK → Prop := fun xs H Q => ∃ p ys, xs = [.ref p] ∧ ((SqL K H p ys ∧ ∀ l, H l = none → Q (.ref l) (upd H l (.tup ys))) ∨ (SqT K H p ys ∧ Q (.ref p) H))
section
variable {X : Cx} {K : PySem.W.Frag} (h : X.K = K)
include h
theorem lenQ : CallR X (.builtin "len") (rLenQ K) := by subst h; exact call_len_seq
theorem listQ : CallR X (.type "list") (rListQ K) := by subst h; exact call_list_of
theorem tupQ : CallR X (.type "tuple") (rTupQ K) := by subst h; exact call_tuple_of
end
end VK
namespace VK
open PySem PySem.Spec PyProof.Rows L2 LamX NdefX VB
/-- sorted of texts, any number of them -/
def rSortS (K : PySem.W.Frag) : List V → Hp → VK → Prop := fun vs H Q => ∃ (a : Addr) (ss : List Str), vs = [V.ref a] ∧ SqL K H a (ss.map V.str) ∧
  ∀ p : Addr, H p = none → Q (.ref p) (upd H p (.lst ((ss.mergeSort VS.leS).map V.str)))
theorem sortedS {X : Cx} {K : PySem.W.Frag} (h : X.K = K) {k : Nat} (hr : Room k X.A) : CallR X (.builtin "sorted") (rSortS K) := by
  subst h
  intro pins s σ H vs us Q I r hh
  obtain ⟨a, ss, rfl, hs, q⟩ := hh
  have eS : (PySem.W.dataLe false PyData.str : Str → Str → Bool) = VS.leS := PySem.W.dataLe_str (fun x => x)
  refine VA.cr_sortedB V.str PyData.str hr pins s σ H [V.ref a] us Q I r ⟨a, ss, rfl, hs, fun b _ => .str b, ?_, ?_, ?_, fun p np => ?_⟩
  · intro d hd d' hd'
    obtain ⟨x, _, rfl⟩ := List.mem_map.mp hd
    obtain ⟨y, _, rfl⟩ := List.mem_map.mp hd'
    rfl
  · refine .inr fun d hd => ?_
    obtain ⟨x, _, rfl⟩ := List.mem_map.mp hd
    exact ⟨fun z => PyData.noConfusion z, fun xs z => PyData.noConfusion z⟩
  · intro b _
    show (0 : Nat) ≤ 8
    decide
  · rw [eS]
    exact q p np
end VK
namespace VK
open PySem PySem.Spec PyProof.Rows L2 LamX NdefX VB
/-! sets, told with the world by its name -/
section
variable {X : Cx} {w : World} (h : X.w = w)
include h
theorem set0M : CallR X (.type "set") (VS.rSet0M w) := by subst h; exact VS.cr_set0M
theorem sortedM {k : Nat} (hc : X.calm = true) (hr : Room k X.A) : CallR X (.builtin "sorted") (VS.rSortedM w) := by subst h; exact VS.cr_sortedM hc hr
theorem saddM {o e : Expr} {to te : TE} {apos cpos : Pos} (ho : PE X o to) (he : PE X e te)
    (hbase : attributeBase o "add" X.env (eval o X.env) = eval o X.env := by rfl)
    (hfew : ((backTo cpos (starEach [e] X.env)).all (fun x => !x.1) && (backToKw cpos (keywordEach [] X.env)).all (fun x => x.1.isSome)
      && decide (([e] : List Expr).length + ([] : List Keyword).length + (if ([] : List Keyword).isEmpty then 0 else 1) < 30)) = true := by rfl)
    (hline : (apos.endLine == cpos.line) = true := by rfl) (hs : starEach [e] X.env = (false, eval e X.env) :: starEach [] X.env := by rfl) :
    PE X (.Call (.Attribute o "add" apos) [e] [] cpos) (VS.tSAddM w to te) := by subst h; exact VS.pe_saddM ho he hbase hfew hline hs
end
end VK

set_option Elab.async false
set_option linter.all false
set_option maxRecDepth 100000
set_option maxHeartbeats 4000000
namespace LW
open PySem PySem.Spec PyProof.Rows L2 LamX NdefX VB
def top (i : Nat) : Stmt := PySem.Challenge.pw_parley_k01_names_heights_references.main.body.getD i (.Pass ⟨0, 0, 0, 0⟩)
abbrev s__law_cell : Stmt := top 15
theorem sc__law_cell : FnScope ["script", "k"] ["script", "k"] (defScope s__law_cell) := ⟨rfl, rfl, rfl, by decide +kernel, rfl, by decide +kernel, by decide +kernel⟩
abbrev s__law_draws : Stmt := top 16
theorem sc__law_draws : FnScope ["cell", "count", "rows", "left", "k", "mixed"] ["cell", "count"] (defScope s__law_draws) := ⟨rfl, rfl, rfl, by decide +kernel, rfl, by decide +kernel, by decide +kernel⟩
abbrev s__law_pool : Stmt := top 19
theorem sc__law_pool : FnScope ["script", "draws", "k"] ["script"] (defScope s__law_pool) := ⟨rfl, rfl, rfl, by decide +kernel, rfl, by decide +kernel, by decide +kernel⟩
abbrev s__law_pick : Stmt := top 20
theorem sc__law_pick : FnScope ["pool", "many", "at", "turn"] ["pool", "many"] (defScope s__law_pick) := ⟨rfl, rfl, rfl, by decide +kernel, rfl, by decide +kernel, by decide +kernel⟩
abbrev s__law_once : Stmt := top 18
theorem sc__law_once : FnScope ["rows", "found", "row"] ["rows"] (defScope s__law_once) := ⟨rfl, rfl, rfl, by decide +kernel, rfl, by decide +kernel, by decide +kernel⟩
section
variable {P : Program} {w : World} {K : PySem.W.Frag} {mg : Str → Option Value} {base : Heap}
/-- a cell of the script: some number that is not negative -/
def spCell (K : PySem.W.Frag) : Sp := fun vs H Q _ => ∃ (a : Addr) (ns : List Int) (k : Int), vs = [.ref a, .int k] ∧ SqL K H a (ns.map V.int) ∧ 0 ≤ k ∧
  ∀ r : Int, 0 ≤ r → Q (.int r) H
theorem c_cell (D : Df K mg "_law_cell" s__law_cell) (z_len : mg "len" = none) (z_abs : mg "abs" = none) (z_int : mg "int" = none) :
    C8.Cal P w K mg base 1 "_law_cell" (spCell K) [] := by
  refine D.cal sc__law_cell (fun _ _ _ _ _ _ us hl => match us, hl with | [_, _], _ => rfl) (fun vs H Q E h => ?_) (fun f cdv A outer s H vs Q E hr h => ?_)
  · obtain ⟨a, ns, k, rfl, _⟩ := h
    rfl
  obtain ⟨a, ns, k, rfl, hS, h0, q⟩ := h
  have hl : (ns.map V.int).length = ns.length := List.length_map _
  refine ⟨_, (pss_cons (ps_if (pt_cmpR op_lt (pv 1) (pe_callB (VK.lenQ (K := K) rfl) (by rfl) z_len PySem.boot_len (pa_cons (pv 0) pa_nil)) (nomark _))
      (pss_one (ps_ret (pe_callB call_abs (by rfl) z_abs (by decide +kernel) (pa_cons (pe_callTy call_int1 (by rfl) z_int (by decide +kernel) (pa_cons (pe_ix (VK.ixL (K := K) rfl) (pv 0) (pv 1) (fun _ _ => rfl)) pa_nil)) pa_nil))))
      pss_nil)
    (pss_one (ps_ret pe_int))), ?_⟩
  refine ⟨_, rfl, _, rfl, a, _, rfl, .inl hS, _, _, rfl, rfl, _, rfl, ?_⟩
  refine ite2 (fun c => ?_) (fun c => ?_)
  · have c' : k < (((ns.map V.int).length : Nat) : Int) := of_decide_eq_true c
    rw [hl] at c'
    have hk : k.toNat < ns.length := by omega
    have ek : k = ((k.toNat : Nat) : Int) := by omega
    have q1 : atI (ns.map V.int) ((k.toNat : Nat) : Int) = some (.int ns[k.toNat]) := atI_nat (by rw [List.getElem?_map, List.getElem?_eq_getElem hk] <;> rfl)
    rw [← ek] at q1
    refine ⟨_, rfl, _, rfl, a, _, _, _, rfl, rfl, hS, q1, .inl ⟨_, rfl, _, rfl, q _ ?_⟩⟩
    split <;> omega
  · exact q 0 (Int.le_refl 0)
/-- so many draws, each from 0 to 4095 -/
def spDraws : Sp := fun vs H Q _ => ∃ (c n : Int), vs = [.int c, .int n] ∧ 0 ≤ n ∧ n ≤ 1000 ∧
  ∀ (p : Addr) (ns : List Int), H p = none → ns.length = n.toNat → (∀ x ∈ ns, 0 ≤ x ∧ x < 4096) → Q (.ref p) (upd H p (.lst (ns.map V.int)))
theorem c_draws (D : Df K mg "_law_draws" s__law_draws) (z_range : mg "range" = none) (z_int : mg "int" = none) :
    C8.Cal P w K mg base 1 "_law_draws" spDraws [] := by
  refine D.cal sc__law_draws (fun _ _ _ _ _ _ us hl => match us, hl with | [_, _], _ => rfl) (fun vs H Q E h => ?_) (fun f cdv A outer s H vs Q E hr h => ?_)
  · obtain ⟨c, n, rfl, _⟩ := h
    rfl
  obtain ⟨c, n, rfl, h0, h1, q⟩ := h
  refine ⟨_, (pss_cons (ps_set (i := 2) sc__law_draws.nd rfl (Or.inl rfl) (pe_lst pa_nil))
    (pss_cons (ps_set (i := 3) sc__law_draws.nd rfl (Or.inl rfl) (pv 0))
    (pss_cons (ps_for PassesOwn.never rfl (pi_range1 rfl z_range (pa_cons (pv 1) pa_nil)) (pg_name (i := 4) sc__law_draws.nd rfl (Or.inl rfl))
      (pss_one (ps_if (PW.pt (pw_and (pt_cmpR op_ge (pv 0) (pe_op op_pow pe_int pe_int) (nomark _)) (pw_and1 (pt_cmpR op_gt (pv 3) pe_int (nomark _)))))
        (pss_cons (ps_expr (pe_bm PySem.F.plainAttrs_list PySem.F.slot_list_append PySem.F.type_list_append mt_append (pv 2) (pa_cons (pe_op op_mod (pe_callTy call_int1 (by rfl) z_int (by decide +kernel) (pa_cons (pv 3) pa_nil)) pe_int) pa_nil)))
        (pss_one (ps_set (i := 3) sc__law_draws.nd rfl (Or.inl rfl) (pe_op op_fdiv (pv 3) pe_int))))
        (pss_cons (ps_set (i := 5) sc__law_draws.nd rfl (Or.inl rfl) (pe_op op_mod (pe_callTy call_int1 (by rfl) z_int (by decide +kernel) (pa_cons (pe_op op_add (pe_op op_mul (pv 0) pe_int) (pe_op op_mul (pe_op op_add (pv 4) pe_int) pe_int)) pa_nil)) pe_int))
        (pss_cons (ps_set (i := 5) sc__law_draws.nd rfl (Or.inl rfl) (pe_op op_mod (pe_callTy call_int1 (by rfl) z_int (by decide +kernel) (pa_cons (pe_op op_add (pe_op op_add (pe_op op_mul (pv 5) (pv 5)) (pe_op op_mul (pv 5) pe_int)) (pe_op op_mul (pv 4) pe_int)) pa_nil)) pe_int))
        (pss_cons (ps_set (i := 5) sc__law_draws.nd rfl (Or.inl rfl) (pe_op op_mod (pe_callTy call_int1 (by rfl) z_int (by decide +kernel) (pa_cons (pe_op op_add (pe_op op_add (pe_op op_mul (pv 5) (pv 5)) (pv 0)) (pe_op op_mul pe_int (pv 4))) pa_nil)) pe_int))
        (pss_one (ps_expr (pe_bm PySem.F.plainAttrs_list PySem.F.slot_list_append PySem.F.type_list_append mt_append (pv 2) (pa_cons (pe_op op_mod (pe_op op_fdiv (pv 5) pe_int) pe_int) pa_nil))))))))))
    (pss_one (ps_ret (pv 2)))))), ?_⟩
  refine ⟨Nat.zero_le _, fun l nl => ?_⟩
  refine ⟨_, rfl, ?_⟩
  refine ⟨_, rfl, n, rfl, by omega, by omega, for_range (lo := 0) (n := n.toNat)
    (fun i σ H' => ∃ (ns : List Int) (left : Int) (kk mm : Option V), σ = [some (.int c), some (.int n), some (.ref l), some (.int left), kk, mm] ∧ H' = upd H l (.lst (ns.map V.int)) ∧
      ns.length = i ∧ ∀ x ∈ ns, 0 ≤ x ∧ x < 4096) ⟨[], c, none, none, rfl, rfl, rfl, fun x hx => by cases hx⟩ ?_ ?_⟩
  · rintro i σ H' hi ⟨ns, left, kk, mm, rfl, rfl, hlen, hb⟩
    have hlen2 : (ns.map V.int).length < sizeLine := by rw [List.length_map]; exact small1000 (by omega)
    have last : ∀ (x : Int) (left' : Int) (mm' : Option V), 0 ≤ x → x < 4096 →
        ∃ (ns' : List Int) (left1 : Int) (kk1 mm1 : Option V), [some (V.int c), some (V.int n), some (V.ref l), some (V.int left'), some (V.int (0 + (i : Int))), mm'] = [some (V.int c), some (V.int n), some (V.ref l), some (V.int left1), kk1, mm1] ∧
          upd (upd H l (.lst (ns.map V.int))) l (.lst (ns.map V.int ++ [.int x])) = upd H l (.lst (ns'.map V.int)) ∧ ns'.length = i + 1 ∧ ∀ x ∈ ns', 0 ≤ x ∧ x < 4096 := by
      intro x left' mm' hx0 hx1
      refine ⟨ns ++ [x], left', _, _, rfl, ?_, by simp [hlen], fun y hy => ?_⟩
      · rw [upd_upd, List.map_append] <;> rfl
      · rcases List.mem_append.mp hy with z | z
        · exact hb y z
        · rw [List.mem_singleton.mp z]; exact ⟨hx0, hx1⟩
    have md : ∀ x m : Int, 0 < m → m ≤ 2147483647 → 0 ≤ x % m ∧ (-(2 ^ 64) < x % m ∧ x % m < 2 ^ 64) := fun x m h1 h2 => by
      have z1 := Int.emod_nonneg x (show m ≠ 0 by omega)
      have z2 := Int.emod_lt_of_pos x h1
      exact ⟨z1, by omega, by omega⟩
    refine ⟨_, rfl, _, _, rfl, rfl, ⟨by decide, by decide, by decide⟩, _, _, rfl, rfl, _, rfl, ?_⟩
    refine ite2 (fun c1 => ?x1) (fun c1 => iteF ?x3)
    case' x1 =>
      refine ⟨_, rfl, _, _, rfl, rfl, _, rfl, ?_⟩
      refine ite2 (fun c2 => ?x2) (fun c2 => ?x4)
      case x2 =>
        refine ⟨_, rfl, .inl ⟨rfl, _, SqL.of upd_same⟩, _, rfl, .inl ⟨_, rfl, _, _, rfl, rfl, (by show (0 : Int) < 4096; decide), l, _, _, rfl, rfl, upd_same, hlen2, ?_⟩⟩
        refine ⟨_, rfl, _, _, rfl, rfl, ⟨by decide, by decide⟩, ?_⟩
        exact last _ _ _ (Int.emod_nonneg _ (by decide)) (Int.emod_lt_of_pos _ (by decide))
    all_goals
      refine ⟨_, rfl, _, _, rfl, rfl, .inr ⟨by decide, by decide⟩, _, rfl, _, _, rfl, rfl, _, _, rfl, rfl, .inr ⟨by decide, by decide⟩, _, _, rfl, rfl, .inl ⟨_, rfl, _, _, rfl, rfl, (by show (0 : Int) < 2147483647; decide), ?_⟩⟩
      refine ⟨_, rfl, _, rfl, _, _, rfl, rfl, (.inl (md _ 2147483647 (by decide) (by decide)).2), _, rfl, _, _, rfl, rfl, .inr ⟨by decide, by decide⟩, _, _, rfl, rfl, _, rfl, _, _, rfl, rfl, .inr ⟨by decide, by decide⟩, _, _, rfl, rfl, .inl ⟨_, rfl, _, _, rfl, rfl, (by show (0 : Int) < 2147483629; decide), ?_⟩⟩
      refine ⟨_, rfl, _, rfl, _, _, rfl, rfl, (.inl (md _ 2147483629 (by decide) (by decide)).2), _, rfl, _, _, rfl, rfl, _, rfl, _, _, rfl, rfl, .inl ⟨by decide, by decide⟩, _, _, rfl, rfl, .inl ⟨_, rfl, _, _, rfl, rfl, (by show (0 : Int) < 2147483587; decide), ?_⟩⟩
      refine ⟨_, rfl, .inl ⟨rfl, _, SqL.of upd_same⟩, _, rfl, _, _, rfl, rfl, ⟨by decide, by decide⟩, _, _, rfl, rfl, (by show (0 : Int) < 4096; decide), l, _, _, rfl, rfl, upd_same, hlen2, ?_⟩
      exact last _ _ _ (Int.emod_nonneg _ (by decide)) (Int.emod_lt_of_pos _ (by decide))
  · rintro σ H' ⟨ns, left, kk, mm, rfl, rfl, hlen, hb⟩
    exact ⟨_, rfl, q l ns nl hlen hb⟩
/-- the pool of draws: a list of the draws and the place -/
def PoolAt (H : Hp) (a d : Addr) (at_ : Int) : Prop := ∃ (ns : List Int), d ≠ a ∧ H a = some (.lst [.ref d, .int at_]) ∧ H d = some (.lst (ns.map V.int)) ∧
  ns.length = 160 ∧ (∀ x ∈ ns, 0 ≤ x ∧ x < 4096) ∧ 0 ≤ at_
theorem PoolAt.but {H H' : Hp} {a b d : Addr} {i : Int} (p : PoolAt H a d i) (h : Same H H') : PoolAt H' a d i := by
  obtain ⟨ns, n, h1, h2, r⟩ := p
  exact ⟨ns, n, h _ _ h1, h _ _ h2, r⟩
def spPool (K : PySem.W.Frag) : Sp := fun vs H Q _ => ∃ (a : Addr) (ns : List Int), vs = [.ref a] ∧ SqL K H a (ns.map V.int) ∧
  ∀ (p d : Addr) (H' : Hp), Same H H' → H p = none → PoolAt H' p d 0 → Q (.ref p) H'
theorem c_pool (D : Df K mg "_law_pool" s__law_pool) (z_range : mg "range" = none) (c__law_cell : C8.Cal P w K mg base 1 "_law_cell" (spCell K) [])
    (c__law_draws : C8.Cal P w K mg base 1 "_law_draws" spDraws []) : C8.Cal P w K mg base 2 "_law_pool" (spPool K) [] := by
  refine D.cal sc__law_pool (fun _ _ _ _ _ _ us hl => match us, hl with | [_], _ => rfl) (fun vs H Q E h => ?_) (fun f cdv A outer s H vs Q E hr h => ?_)
  · obtain ⟨a, ns, rfl, _⟩ := h
    rfl
  obtain ⟨a, ns, rfl, hS, q⟩ := h
  refine ⟨_, (pss_cons (ps_set (i := 1) sc__law_pool.nd rfl (Or.inl rfl) (pe_lst pa_nil))
    (pss_cons (ps_for PassesOwn.never rfl (pi_range1 rfl z_range (pa_cons pe_int pa_nil)) (pg_name (i := 2) sc__law_pool.nd rfl (Or.inl rfl))
      (pss_one (ps_set (i := 1) sc__law_pool.nd rfl (Or.inl rfl) (pe_op op_cat (pv 1) (C8.pe_c c__law_draws hr (by first | decide | omega) rfl (pa_cons (C8.pe_c c__law_cell hr (by first | decide | omega) rfl (pa_cons (pv 0) (pa_cons (pv 2) pa_nil))) (pa_cons pe_int pa_nil)))))))
    (pss_one (ps_ret (pe_lst (pa_cons (pv 1) (pa_cons pe_int pa_nil))))))), ?_⟩
  refine ⟨Nat.zero_le _, fun l nl => ?_⟩
  refine ⟨4, rfl, by decide, by decide, for_range (lo := 0) (n := 4)
    (fun i σ H' => ∃ (d : Addr) (ds : List Int) (kk : Option V), σ = [some (.ref a), some (.ref d), kk] ∧ Same H H' ∧ H' d = some (.lst (ds.map V.int)) ∧ H d = none ∧
      ds.length = 40 * i ∧ ∀ x ∈ ds, 0 ≤ x ∧ x < 4096) ⟨l, [], none, rfl, same_upd nl _, upd_same, nl, rfl, fun x hx => by cases hx⟩ ?_ ?_⟩
  · rintro i σ H' hi ⟨d, ds, kk, rfl, s0, hd, nd, hlen, hb⟩
    refine ⟨_, rfl, _, rfl, _, rfl, a, ns, 0 + (i : Int), rfl, s0.seq hS, by omega, fun r hr0 => ?_⟩
    refine ⟨r, 40, rfl, by decide, by decide, fun p ms np hml hmb => ?_⟩
    have s1 : Same H' (upd H' p (.lst (ms.map V.int))) := same_upd np _
    have hz : (ds.map V.int).length + (ms.map V.int).length ≤ sizeLine := by
      rw [List.length_map, List.length_map, hlen, hml]
      exact Nat.le_of_lt (small1000 (by show 40 * i + 40 ≤ 1000; omega))
    refine ⟨d, p, _, _, rfl, rfl, s1 _ _ hd, upd_same, hz, fun t nt => ?_⟩
    have s2 := s0.trans (s1.trans (same_upd nt (.lst (ds.map V.int ++ ms.map V.int))))
    refine ⟨t, ds ++ ms, _, rfl, s2, by rw [upd_same, List.map_append], (s0.trans s1).free nt, ?_, fun x hx => ?_⟩
    · rw [List.length_append, hlen, hml]
      show 40 * i + 40 = 40 * (i + 1)
      omega
    · rcases List.mem_append.mp hx with z | z
      · exact hb x z
      · exact hmb x z
  · rintro σ H' ⟨d, ds, kk, rfl, s0, hd, nd, hlen, hb⟩
    refine ⟨_, rfl, (by show 2 ≤ sizeLine; decide), fun p np => ?_⟩
    have s1 : Same H' (upd H' p (.lst [.ref d, .int 0])) := same_upd np _
    exact q p d _ (s0.trans s1) (s0.free np) ⟨ds, ne_of_none hd np, upd_same, s1 _ _ hd, hlen, hb, Int.le_refl 0⟩
/-- one draw below many -/
def spPick : Sp := fun vs H Q _ => ∃ (a d : Addr) (at_ m : Int), vs = [.ref a, .int m] ∧ PoolAt H a d at_ ∧ at_ < 1000000 ∧ 0 < m ∧
  ∀ (r : Int) (H' : Hp), 0 ≤ r → r < m → But a H H' → PoolAt H' a d (at_ + 1) → Q (.int r) H'
theorem c_pick (D : Df K mg "_law_pick" s__law_pick) (z_len : mg "len" = none) : C8.Cal P w K mg base 1 "_law_pick" spPick [] := by
  refine D.cal sc__law_pick (fun _ _ _ _ _ _ us hl => match us, hl with | [_, _], _ => rfl) (fun vs H Q E h => ?_) (fun f cdv A outer s H vs Q E hr h => ?_)
  · obtain ⟨a, d, at_, m, rfl, _⟩ := h
    rfl
  obtain ⟨a, d, at_, m, rfl, ⟨ns, nda, ha, hd, hlen, hb, h0⟩, hlim, hm, q⟩ := h
  refine ⟨_, (pss_cons (ps_set (i := 2) sc__law_pick.nd rfl (Or.inl rfl) (pe_ix (VK.ixL (K := K) rfl) (pv 0) pe_int (fun _ _ => rfl)))
    (pss_cons (ps_asg (pe_op op_add (pv 2) pe_int) (pg_sub (pv 0) pe_int set_list))
    (pss_cons (ps_set (i := 3) sc__law_pick.nd rfl (Or.inl rfl) (pe_op op_fdivN (pv 2) (pe_callB (VK.lenQ (K := K) rfl) (by rfl) z_len PySem.boot_len (pa_cons (pe_ix (VK.ixL (K := K) rfl) (pv 0) pe_int (fun _ _ => rfl)) pa_nil))))
    (pss_one (ps_ret (pe_op op_modN (pe_op op_add (pe_op op_add (pe_ix (VK.ixL (K := K) rfl) (pe_ix (VK.ixL (K := K) rfl) (pv 0) pe_int (fun _ _ => rfl)) (pe_op op_modN (pv 2) (pe_callB (VK.lenQ (K := K) rfl) (by rfl) z_len PySem.boot_len (pa_cons (pe_ix (VK.ixL (K := K) rfl) (pv 0) pe_int (fun _ _ => rfl)) pa_nil))) (fun _ _ => rfl)) (pe_op op_mul (pv 3) pe_int)) (pe_op op_mul (pv 3) (pv 2))) (pv 1))))))), ?_⟩
  have e0 : atI [V.ref d, V.int at_] 0 = some (.ref d) := rfl
  have e1 : atI [V.ref d, V.int at_] 1 = some (.int at_) := rfl
  have hl2 : ((ns.map V.int).length : Int) = 160 := by rw [List.length_map, hlen] <;> rfl
  refine ⟨_, rfl, a, _, _, _, rfl, rfl, SqL.of ha, e1, ?_⟩
  refine ⟨_, rfl, _, _, rfl, rfl, _, rfl, a, _, _, 1, rfl, rfl, ha, rfl, ?_⟩
  have ha2 : upd H a (.lst ([V.ref d, V.int at_].set 1 (V.int (at_ + 1)))) a = some (.lst [V.ref d, V.int (at_ + 1)]) := upd_same
  have hd2 : upd H a (.lst ([V.ref d, V.int at_].set 1 (V.int (at_ + 1)))) d = some (.lst (ns.map V.int)) := by rw [upd_ne nda]; exact hd
  have hj : ((ns.map V.int).length : Int) ≠ 0 := by omega
  have h01 : 0 ≤ at_.fmod ((ns.map V.int).length : Int) := by rw [hl2]; exact Int.fmod_nonneg h0 (by decide)
  have h02 : at_.fmod ((ns.map V.int).length : Int) < 160 := by rw [hl2]; exact Int.fmod_lt_of_pos _ (by decide)
  obtain ⟨k, ek⟩ := Int.eq_ofNat_of_zero_le h01
  have hk : k < ns.length := by omega
  have hat : atI (ns.map V.int) (at_.fmod ((ns.map V.int).length : Int)) = some (.int ns[k]) := by
    rw [ek]
    exact atI_nat (by rw [List.getElem?_map, List.getElem?_eq_getElem hk] <;> rfl)
  refine ⟨_, rfl, _, rfl, a, _, _, _, rfl, rfl, SqL.of ha2, rfl, d, _, rfl, .inl (SqL.of hd2), _, _, rfl, rfl, ⟨hj, by omega⟩, ?_⟩
  refine ⟨_, rfl, a, _, _, _, rfl, rfl, SqL.of ha2, rfl, _, rfl, _, rfl, a, _, _, _, rfl, rfl, SqL.of ha2, rfl, d, _, rfl, .inl (SqL.of hd2), _, _, rfl, rfl, hj, d, _, _, _, rfl, rfl, SqL.of hd2, hat, ?_⟩
  refine ⟨_, rfl, _, _, rfl, rfl, .inr ⟨by decide, by decide⟩, _, _, rfl, rfl, _, rfl, _, rfl, _, _, rfl, rfl, .inr ⟨by omega, by omega⟩, _, _, rfl, rfl, _, rfl, _, _, rfl, rfl, (by omega), ?_⟩
  exact q _ _ (Int.fmod_nonneg_of_pos _ hm) (Int.fmod_lt_of_pos _ hm) (But.upd _) ⟨ns, nda, ha2, hd2, hlen, hb, by omega⟩
/-- each text once -/
def onceS : List Str → List Str → List Str
  | acc, [] => acc
  | acc, x :: r => onceS (if x ∈ acc then acc else acc ++ [x]) r
theorem onceS_snoc : ∀ (xs acc : List Str) (x : Str), onceS acc (xs ++ [x]) = if x ∈ onceS acc xs then onceS acc xs else onceS acc xs ++ [x]
  | [], acc, x => rfl
  | y :: xs, acc, x => onceS_snoc xs _ x
theorem onceS_nodup : ∀ (xs acc : List Str), acc.Nodup → (onceS acc xs).Nodup
  | [], acc, h => h
  | x :: xs, acc, h => by
    unfold onceS
    refine onceS_nodup xs _ ?_
    by_cases q : x ∈ acc
    · rw [if_pos q]; exact h
    · rw [if_neg q]
      refine List.nodup_append.mpr ⟨h, by simp, fun a ha b hb => ?_⟩
      rw [List.mem_singleton.mp hb]
      intro e; exact q (e ▸ ha)
theorem onceS_mem : ∀ (xs acc : List Str) (y : Str), y ∈ onceS acc xs ↔ y ∈ acc ∨ y ∈ xs
  | [], acc, y => by simp [onceS]
  | x :: xs, acc, y => by
    unfold onceS
    rw [onceS_mem xs _ y]
    by_cases q : x ∈ acc
    · rw [if_pos q, List.mem_cons]
      constructor
      · rintro (z | z)
        · exact .inl z
        · exact .inr (.inr z)
      · rintro (z | z | z)
        · exact .inl z
        · exact .inl (z ▸ q)
        · exact .inr z
    · rw [if_neg q, List.mem_append, List.mem_singleton, List.mem_cons, or_assoc]
theorem onceS_len (xs : List Str) : (onceS [] xs).length ≤ xs.length := by
  have h : ∀ (xs acc : List Str), (onceS acc xs).length ≤ acc.length + xs.length := by
    intro xs
    induction xs with
    | nil => intro acc; exact Nat.le_refl _
    | cons x xs ih =>
      intro acc
      unfold onceS
      refine Nat.le_trans (ih _) ?_
      by_cases q : x ∈ acc
      · rw [if_pos q, List.length_cons]; omega
      · rw [if_neg q, List.length_append, List.length_singleton, List.length_cons]; omega
  have z := h xs []
  rw [List.length_nil, Nat.zero_add] at z
  exact z
theorem inV_strs (x : Str) : ∀ ss : List Str, inV (.str x) (ss.map V.str) = decide (x ∈ ss)
  | [] => by simp [inV]
  | y :: ss => by
    have ih := inV_strs x ss
    unfold inV at ih ⊢
    rw [List.map_cons, List.any_cons, ih]
    show ((y == x) || decide (x ∈ ss)) = _
    by_cases e : x = y
    · subst e; simp
    · have e2 : (y == x) = false := beq_eq_false_iff_ne.mpr (fun z => e z.symm)
      rw [e2]
      simp [e]
def spOnce (K : PySem.W.Frag) : Sp := fun vs H Q _ => ∃ (a : Addr) (ss : List Str), vs = [.ref a] ∧ SqL K H a (ss.map V.str) ∧ ss.length ≤ 100000 ∧
  ∀ (p : Addr), H p = none → Q (.ref p) (upd H p (.lst ((onceS [] ss).map V.str)))
theorem c_once (D : Df K mg "_law_once" s__law_once) : C8.Cal P w K mg base 1 "_law_once" (spOnce K) [] := by
  refine D.cal sc__law_once (fun _ _ _ _ _ _ us hl => match us, hl with | [_], _ => rfl) (fun vs H Q E h => ?_) (fun f cdv A outer s H vs Q E hr h => ?_)
  · obtain ⟨a, ss, rfl, _⟩ := h
    rfl
  obtain ⟨a, ss, rfl, hS, hz, q⟩ := h
  refine ⟨_, (pss_cons (ps_set (i := 1) sc__law_once.nd rfl (Or.inl rfl) (pe_lst pa_nil))
    (pss_cons (ps_for PassesOwn.never rfl (pi_list (pv 0)) (pg_name (i := 2) sc__law_once.nd rfl (Or.inl rfl))
      (pss_one (ps_if (pt_cmpR (VK.notInQ (K := K) rfl) (pv 2) (pv 1) rfl)
        (pss_one (ps_expr (pe_bm PySem.F.plainAttrs_list PySem.F.slot_list_append PySem.F.type_list_append mt_append (pv 1) (pa_cons (pv 2) pa_nil))))
        pss_nil)))
    (pss_one (ps_ret (pv 1))))), ?_⟩
  refine ⟨Nat.zero_le _, fun l nl => ?_⟩
  have s0 : ∀ o, Same H (upd H l o) := fun o => same_upd nl o
  refine ⟨_, rfl, a, rfl, ⟨_, (s0 _).seq hS⟩, for_list (K := K) (a := a) (xs := ss.map V.str)
    (fun i σ H' => ∃ (rr : Option V), σ = [some (.ref a), some (.ref l), rr] ∧ H' = upd H l (.lst ((onceS [] (ss.take i)).map V.str)))
    ⟨none, rfl, rfl⟩ (fun i σ H' _ ⟨_, _, e⟩ => by rw [e]; exact (s0 _).seq hS) ?_ ?_⟩
  · rintro i x σ H' hi ⟨rr, rfl, rfl⟩
    have hi2 : i < ss.length := by
      have z := (List.getElem?_eq_some_iff.mp hi).1
      rw [List.length_map] at z
      exact z
    have ex : x = V.str ss[i] := by
      rw [List.getElem?_map, List.getElem?_eq_getElem hi2] at hi
      exact (Option.some.inj hi).symm
    subst ex
    have et : onceS [] (ss.take (i + 1)) = if ss[i] ∈ onceS [] (ss.take i) then onceS [] (ss.take i) else onceS [] (ss.take i) ++ [ss[i]] := by
      rw [List.take_add_one, List.getElem?_eq_getElem hi2]
      exact onceS_snoc _ _ _
    have lim : ((onceS [] (ss.take i)).map V.str).length < sizeLine := by
      rw [List.length_map]
      have z := onceS_len (ss.take i)
      rw [List.length_take] at z
      have z2 := sizeLine_eq
      omega
    refine ⟨_, rfl, _, rfl, l, _, rfl, .inl (SqL.of upd_same), rfl, ?_, _, rfl, ?_⟩
    · rw [List.all_eq_true]
      intro v hv
      obtain ⟨x, _, rfl⟩ := List.mem_map.mp hv
      rfl
    · rw [inV_strs]
      refine ite2 (fun c => ?_) (fun c => ?_)
      · have c' : ¬ ss[i] ∈ onceS [] (ss.take i) := by
          intro z
          rw [decide_eq_true z] at c
          exact absurd c (by decide)
        refine ⟨_, rfl, .inl ⟨rfl, _, SqL.of upd_same⟩, _, rfl, l, _, _, rfl, rfl, upd_same, lim, ?_⟩
        refine ⟨_, rfl, ?_⟩
        rw [upd_upd, et, if_neg c', List.map_append] <;> rfl
      · have c' : ss[i] ∈ onceS [] (ss.take i) := by
          by_cases z : ss[i] ∈ onceS [] (ss.take i)
          · exact z
          · exact absurd (by rw [decide_eq_false z]; rfl) c
        refine ⟨_, rfl, ?_⟩
        rw [et, if_pos c']
  · rintro σ H' ⟨rr, rfl, rfl⟩
    rw [List.length_map, List.take_length]
    exact ⟨_, rfl, q l nl⟩
end
end LW

set_option Elab.async false
set_option linter.all false
set_option maxRecDepth 100000
set_option maxHeartbeats 4000000
namespace LW
open PySem PySem.Spec PyProof.Rows L2 LamX NdefX VB
abbrev s__law_like : Stmt := top 17
theorem sc__law_like : FnScope ["actual", "due", "k"] ["actual", "due"] (defScope s__law_like) := ⟨rfl, rfl, rfl, by decide +kernel, rfl, by decide +kernel, by decide +kernel⟩
section
variable {P : Program} {w : World} {K : PySem.W.Frag} {mg : Str → Option Value} {base : Heap}
/-- a promise that asks what can't be is kept -/
theorem calNone {x : Str} {st : Stmt} {ps : List Str} {sp : Sp} (D : Df K mg x st) (hb : BindOk x st ps) (no : ∀ vs H Q E, ¬ sp vs H Q E) : C8.Cal P w K mg base 0 x sp [] := by
  obtain ⟨f, fd, F, hm⟩ := D
  exact ⟨f, fd, ps, [], ⟨fun vs H Q E h => absurd h (no vs H Q E), fun A outer s H args us vs Q E _ _ _ _ h => absurd h (no vs H Q E)⟩, hm, F.kp, F.bindsN hb, .nil⟩
/-- the name of a datum's class -/
def tyN : PyData → String
  | .none => "NoneType"
  | .bool _ => "bool"
  | .int _ => "int"
  | .str _ => "str"
  | .list _ => "list"
  | .tuple _ => "tuple"
  | .dict _ => "dict"
theorem sqL_ty {H : Hp} {a : Addr} {xs : List V} (h : SqL K H a xs) : TyX K H (.ref a) (.type "list") := by
  rcases h with (h | ⟨o, h⟩) | ⟨o, its, n, h1, h2, _⟩
  · exact .base (.lst h)
  · exact .base (.frz h)
  · exact .kList h1 h2
theorem sqT_ty {H : Hp} {a : Addr} {xs : List V} (h : SqT K H a xs) : TyX K H (.ref a) (.type "tuple") := by
  rcases h with (h | ⟨o, h⟩) | ⟨o, its, n, h1, h2, _⟩
  · exact .base (.tup h)
  · exact .fTuple h
  · exact .kTuple h1 h2
theorem dp_ty {H : Hp} {v : V} {d : PyData} (h : Dp K H v d) : TyX K H v (.type (tyN d)) := by
  cases h with
  | non => exact .base .non
  | bl b => exact .base (.bl b)
  | int i => exact .base (.int i)
  | str x => exact .base (.str x)
  | lst h1 _ => exact sqL_ty h1
  | tup h1 _ => exact sqT_ty h1
mutual
/-- no list or tuple in it has more than n items -/
def slimD (n : Nat) : PyData → Bool
  | .list xs => decide (xs.length ≤ n) && slimAll n xs
  | .tuple xs => decide (xs.length ≤ n) && slimAll n xs
  | _ => true
def slimAll (n : Nat) : List PyData → Bool
  | [] => true
  | x :: xs => slimD n x && slimAll n xs
end
theorem depth_mem : ∀ {xs : List PyData} {d : PyData}, d ∈ xs → d.depth ≤ PyData.depthAll xs
  | x :: xs, d, h => by
    unfold PyData.depthAll
    rcases List.mem_cons.mp h with z | z
    · subst z; exact Nat.le_max_left _ _
    · exact Nat.le_trans (depth_mem z) (Nat.le_max_right _ _)
theorem slim_mem {n : Nat} : ∀ {xs : List PyData} {d : PyData}, slimAll n xs = true → d ∈ xs → slimD n d = true
  | x :: xs, d, hs, h => by
    simp only [slimAll, Bool.and_eq_true] at hs
    rcases List.mem_cons.mp h with z | z
    · subst z; exact hs.1
    · exact slim_mem hs.2 z
def noDict : PyData → Bool
  | .dict _ => false
  | _ => true
/-- the two stand for the same datum: True -/
def spLike (K : PySem.W.Frag) (m : Nat) : Sp := fun vs H Q _ => ∃ (x y : V) (d : PyData), vs = [x, y] ∧ Dp K H x d ∧ Dp K H y d ∧ d.depth < m ∧ slimD 100000 d = true ∧
  ∀ H', Same H H' → Q (.bl true) H'
theorem like_seq {H : Hp} {K : PySem.W.Frag} {xs ys : List V} {ds : List PyData} (hx : DpAll K H xs ds) (hy : DpAll K H ys ds) {i : Nat} (hi : i < ds.length) :
    ∃ x y, atI xs ((0 : Int) + (i : Int)) = some x ∧ atI ys ((0 : Int) + (i : Int)) = some y ∧ Dp K H x ds[i] ∧ Dp K H y ds[i] := by
  obtain ⟨x, h1, h2⟩ := VB.DpAll.get hx (List.getElem?_eq_getElem hi)
  obtain ⟨y, h3, h4⟩ := VB.DpAll.get hy (List.getElem?_eq_getElem hi)
  rw [Int.zero_add]
  exact ⟨x, y, atI_nat h1, atI_nat h3, h2, h4⟩
theorem sameIn {H H' : Hp} {p : Addr} {o : HO} (x : Same H H') (h : H p = none) : Same H (upd H' p o) := fun b u q => by rw [upd_ne (ne_of_none q h)]; exact x b u q
theorem sqAny {H H' : Hp} {a : Addr} {xs : List V} (s0 : Same H H') (h : SqL K H a xs ∨ SqT K H a xs) : SqL K H' a xs ∨ SqT K H' a xs :=
  h.imp (fun z => s0.seq z) fun z => Same.sqT s0 z
theorem ixAny {H : Hp} {a : Addr} {xs : List V} {i : Int} {v : V} {Q : VK} (h : SqL K H a xs ∨ SqT K H a xs) (e : atI xs i = some v) (q : Q v H) : rIx K (.ref a) (.int i) H Q := by
  rcases h with h | h
  · exact .inl ⟨a, xs, i, v, rfl, rfl, h, e, q⟩
  · exact .inr (.inl ⟨a, xs, i, v, rfl, rfl, h, e, q⟩)
theorem all_true : ∀ n : Nat, (List.replicate n true).all id = true
  | 0 => rfl
  | n + 1 => by rw [List.replicate_succ, List.all_cons, all_true n] <;> rfl
theorem c_like (D : Df K mg "_law_like" s__law_like) (z_isinstance : mg "isinstance" = none) (z_bool : mg "bool" = none) (z_str : mg "str" = none) (z_int : mg "int" = none)
    (z_list : mg "list" = none) (z_tuple : mg "tuple" = none) (z_len : mg "len" = none) (z_range : mg "range" = none) (z_all : mg "all" = none) :
    ∀ m : Nat, C8.Cal P w K mg base m "_law_like" (spLike K m) [] := by
  intro m
  induction m with
  | zero => exact calNone D (ps := ["actual", "due"]) (fun _ _ _ _ _ _ us hl => match us, hl with | [_, _], _ => rfl) fun vs H Q E ⟨_, _, _, _, _, _, z, _⟩ => Nat.not_lt_zero _ z
  | succ m c__law_like =>
    refine D.cal sc__law_like (fun _ _ _ _ _ _ us hl => match us, hl with | [_, _], _ => rfl) (fun vs H Q E h => ?_) (fun f cdv A outer s H vs Q E hr h => ?_)
    · obtain ⟨x, y, d, rfl, _⟩ := h
      rfl
    obtain ⟨x, y, d, rfl, hx, hy, hm, hw, q⟩ := h
    refine ⟨_, (pss_cons (ps_if (pt_cmpR op_isN (pv 1) pe_non (nomark _))
      (pss_one (ps_ret (pe_cmpR op_isN (pv 0) pe_non (nomark _))))
      pss_nil)
    (pss_cons (ps_if (pt_val (pe_callB (VK.isi (K := K) rfl) (by rfl) z_isinstance (by decide +kernel) (pa_cons (pv 1) (pa_cons (pe_bltn (v := .ty "bool") (by rfl) z_bool (by decide +kernel) rfl) pa_nil))))
      (pss_one (ps_ret (pe_and (pe_callB (VK.isi (K := K) rfl) (by rfl) z_isinstance (by decide +kernel) (pa_cons (pv 0) (pa_cons (pe_bltn (v := .ty "bool") (by rfl) z_bool (by decide +kernel) rfl) pa_nil))) (pe_one (pe_cmpR op_eq (pv 0) (pv 1) (nomark _))))))
      pss_nil)
    (pss_cons (ps_if (pt_val (pe_callB (VK.isi (K := K) rfl) (by rfl) z_isinstance (by decide +kernel) (pa_cons (pv 1) (pa_cons (pe_bltn (v := .ty "str") (by rfl) z_str (by decide +kernel) rfl) pa_nil))))
      (pss_one (ps_ret (pe_and (pe_callB (VK.isi (K := K) rfl) (by rfl) z_isinstance (by decide +kernel) (pa_cons (pv 0) (pa_cons (pe_bltn (v := .ty "str") (by rfl) z_str (by decide +kernel) rfl) pa_nil))) (pe_one (pe_cmpR op_eq (pv 0) (pv 1) (nomark _))))))
      pss_nil)
    (pss_cons (ps_if (pt_val (pe_callB (VK.isi (K := K) rfl) (by rfl) z_isinstance (by decide +kernel) (pa_cons (pv 1) (pa_cons (pe_bltn (v := .ty "int") (by rfl) z_int (by decide +kernel) rfl) pa_nil))))
      (pss_one (ps_ret (pe_and (pe_callB (VK.isi (K := K) rfl) (by rfl) z_isinstance (by decide +kernel) (pa_cons (pv 0) (pa_cons (pe_bltn (v := .ty "int") (by rfl) z_int (by decide +kernel) rfl) pa_nil))) (pe_and (pe_not (pe_callB (VK.isi (K := K) rfl) (by rfl) z_isinstance (by decide +kernel) (pa_cons (pv 0) (pa_cons (pe_bltn (v := .ty "bool") (by rfl) z_bool (by decide +kernel) rfl) pa_nil)))) (pe_one (pe_cmpR op_eq (pv 0) (pv 1) (nomark _)))))))
      pss_nil)
    (pss_cons (ps_if (PW.pt (pw_or (pt_cmpR op_ne (pe_callB (VK.isi (K := K) rfl) (by rfl) z_isinstance (by decide +kernel) (pa_cons (pv 1) (pa_cons (pe_bltn (v := .ty "list") (by rfl) z_list (by decide +kernel) rfl) pa_nil))) (pe_callB (VK.isi (K := K) rfl) (by rfl) z_isinstance (by decide +kernel) (pa_cons (pv 0) (pa_cons (pe_bltn (v := .ty "list") (by rfl) z_list (by decide +kernel) rfl) pa_nil))) (nomark _)) (pw_or1 (pt_cmpR op_ne (pe_callB (VK.isi (K := K) rfl) (by rfl) z_isinstance (by decide +kernel) (pa_cons (pv 1) (pa_cons (pe_bltn (v := .ty "tuple") (by rfl) z_tuple (by decide +kernel) rfl) pa_nil))) (pe_callB (VK.isi (K := K) rfl) (by rfl) z_isinstance (by decide +kernel) (pa_cons (pv 0) (pa_cons (pe_bltn (v := .ty "tuple") (by rfl) z_tuple (by decide +kernel) rfl) pa_nil))) (nomark _)))))
      (pss_one (ps_ret pe_bl))
      pss_nil)
    (pss_cons (ps_if (pt_cmpR op_ne (pe_callB (VK.lenQ (K := K) rfl) (by rfl) z_len PySem.boot_len (pa_cons (pv 0) pa_nil)) (pe_callB (VK.lenQ (K := K) rfl) (by rfl) z_len PySem.boot_len (pa_cons (pv 1) pa_nil)) (nomark _))
      (pss_one (ps_ret pe_bl))
      pss_nil)
    (pss_one (ps_ret (pe_callB (VK.allL (K := K) rfl rfl) (by rfl) z_all (by decide +kernel) (pa_cons (pe_lc (own := [("k", 2)]) (tt := tYes) rfl sc__law_like.nd (pi_range1 rfl z_range (pa_cons (pe_callB (VK.lenQ (K := K) rfl) (by rfl) z_len PySem.boot_len (pa_cons (pv 1) pa_nil)) pa_nil)) (blkOk_by (N := ["actual", "due", "k"]) (sc := defScope s__law_like) (by decide +kernel)) (fun _ _ _ _ _ => (pg_name (i := 2) sc__law_like.nd rfl (Or.inl rfl))) (fun _ _ _ _ _ => pts_nil) (fun _ _ _ _ _ => (C8.pe_c c__law_like hr (by first | decide | omega) rfl (pa_cons (pe_ix (VK.ixQ (K := K) rfl) (pv 0) (pv 2) (fun _ _ => rfl)) (pa_cons (pe_ix (VK.ixQ (K := K) rfl) (pv 1) (pv 2) (fun _ _ => rfl)) pa_nil))))) pa_nil)))))))))), ?_⟩
    refine ⟨_, rfl, rfl, _, rfl, ?_⟩
    cases d
    case none =>
      cases hx
      cases hy
      refine ite2 (fun _ => ?_) (fun c => absurd (decide_eq_true rfl) c)
      exact ⟨_, rfl, rfl, q H (Same.refl H)⟩
    case bool b =>
      have ty : TyX K H y (.type "bool") := dp_ty hy
      have tx : TyX K H x (.type "bool") := dp_ty hx
      cases hx
      cases hy
      refine ite2 (fun c => absurd (of_decide_eq_true c) (by intro z; cases z)) (fun _ => ?_)
      refine ⟨_, rfl, _, _, _, _, true, rfl, .ty _, ty, kit_ty (by decide +kernel), _, rfl, iteT ?_⟩
      refine ⟨_, rfl, _, _, _, _, true, rfl, .ty _, tx, kit_ty (by decide +kernel), _, rfl, iteT ?_⟩
      refine ⟨_, rfl, _, rfl, rfl, ?_⟩
      rw [decide_eq_true rfl]
      exact q H (Same.refl H)
    case str b =>
      have ty : TyX K H y (.type "str") := dp_ty hy
      have tx : TyX K H x (.type "str") := dp_ty hx
      cases hx
      cases hy
      refine ite2 (fun c => absurd (of_decide_eq_true c) (by intro z; cases z)) (fun _ => ?_)
      refine ⟨_, rfl, _, _, _, _, false, rfl, .ty _, ty, kit_ty (by decide +kernel), _, rfl, iteF ?_⟩
      refine ⟨_, rfl, _, _, _, _, true, rfl, .ty _, ty, kit_ty (by decide +kernel), _, rfl, iteT ?_⟩
      refine ⟨_, rfl, _, _, _, _, true, rfl, .ty _, tx, kit_ty (by decide +kernel), _, rfl, iteT ?_⟩
      refine ⟨_, rfl, _, rfl, rfl, ?_⟩
      rw [decide_eq_true rfl]
      exact q H (Same.refl H)
    case int b =>
      have ty : TyX K H y (.type "int") := dp_ty hy
      have tx : TyX K H x (.type "int") := dp_ty hx
      cases hx
      cases hy
      refine ite2 (fun c => absurd (of_decide_eq_true c) (by intro z; cases z)) (fun _ => ?_)
      refine ⟨_, rfl, _, _, _, _, false, rfl, .ty _, ty, kit_ty (by decide +kernel), _, rfl, iteF ?_⟩
      refine ⟨_, rfl, _, _, _, _, false, rfl, .ty _, ty, kit_ty (by decide +kernel), _, rfl, iteF ?_⟩
      refine ⟨_, rfl, _, _, _, _, true, rfl, .ty _, ty, kit_ty (by decide +kernel), _, rfl, iteT ?_⟩
      refine ⟨_, rfl, _, _, _, _, true, rfl, .ty _, tx, kit_ty (by decide +kernel), _, rfl, iteT ?_⟩
      refine ⟨_, rfl, _, _, _, _, false, rfl, .ty _, tx, kit_ty (by decide +kernel), _, rfl, _, rfl, iteT ?_⟩
      refine ⟨_, rfl, _, rfl, rfl, ?_⟩
      rw [decide_eq_true rfl]
      exact q H (Same.refl H)
    case dict kvs => cases hx
    case' list ds =>
      have ty : TyX K H y (.type "list") := dp_ty hy
      have tx : TyX K H x (.type "list") := dp_ty hx
      cases hx
      cases hy
      rename_i a xs sx0 dx b ys sy0 dy
      have sx : SqL K H a xs ∨ SqT K H a xs := .inl sx0
      have sy : SqL K H b ys ∨ SqT K H b ys := .inl sy0
      refine ite2 (fun c => absurd (of_decide_eq_true c) (by intro z; cases z)) (fun _ => ?_)
      refine ⟨_, rfl, _, _, _, _, false, rfl, .ty _, ty, kit_ty (by decide +kernel), _, rfl, iteF ?_⟩
      refine ⟨_, rfl, _, _, _, _, false, rfl, .ty _, ty, kit_ty (by decide +kernel), _, rfl, iteF ?_⟩
      refine ⟨_, rfl, _, _, _, _, false, rfl, .ty _, ty, kit_ty (by decide +kernel), _, rfl, iteF ?_⟩
      refine ⟨_, rfl, _, _, _, _, true, rfl, .ty _, ty, kit_ty (by decide +kernel), _, rfl, _, _, _, _, true, rfl, .ty _, tx, kit_ty (by decide +kernel), rfl, _, rfl, iteNS rfl ?_⟩
      refine ⟨_, rfl, _, _, _, _, false, rfl, .ty _, ty, kit_ty (by decide +kernel), _, rfl, _, _, _, _, false, rfl, .ty _, tx, kit_ty (by decide +kernel), rfl, _, rfl, iteNS rfl ?_⟩
      clear sx0 sy0 ty tx
    case' tuple ds =>
      have ty : TyX K H y (.type "tuple") := dp_ty hy
      have tx : TyX K H x (.type "tuple") := dp_ty hx
      cases hx
      cases hy
      rename_i a xs sx0 dx b ys sy0 dy
      have sx : SqL K H a xs ∨ SqT K H a xs := .inr sx0
      have sy : SqL K H b ys ∨ SqT K H b ys := .inr sy0
      refine ite2 (fun c => absurd (of_decide_eq_true c) (by intro z; cases z)) (fun _ => ?_)
      refine ⟨_, rfl, _, _, _, _, false, rfl, .ty _, ty, kit_ty (by decide +kernel), _, rfl, iteF ?_⟩
      refine ⟨_, rfl, _, _, _, _, false, rfl, .ty _, ty, kit_ty (by decide +kernel), _, rfl, iteF ?_⟩
      refine ⟨_, rfl, _, _, _, _, false, rfl, .ty _, ty, kit_ty (by decide +kernel), _, rfl, iteF ?_⟩
      refine ⟨_, rfl, _, _, _, _, false, rfl, .ty _, ty, kit_ty (by decide +kernel), _, rfl, _, _, _, _, false, rfl, .ty _, tx, kit_ty (by decide +kernel), rfl, _, rfl, iteNS rfl ?_⟩
      refine ⟨_, rfl, _, _, _, _, true, rfl, .ty _, ty, kit_ty (by decide +kernel), _, rfl, _, _, _, _, true, rfl, .ty _, tx, kit_ty (by decide +kernel), rfl, _, rfl, iteNS rfl ?_⟩
      clear sx0 sy0 ty tx
    all_goals
      simp only [slimD, Bool.and_eq_true, decide_eq_true_eq] at hw
      have hm2 : PyData.depthAll ds < m := by
        have z := hm
        unfold PyData.depth at z
        omega
      have lx := VB.DpAll.len dx
      have ly := VB.DpAll.len dy
      refine ⟨_, rfl, a, xs, rfl, sx, _, rfl, b, ys, rfl, sy, rfl, _, rfl, iteNS (by rw [lx, ly]) ?_⟩
      have big : ys.length ≤ 100000 := by omega
      refine ⟨_, rfl, b, ys, rfl, sy, _, rfl, by omega, by omega, fun D nD => lc_range (lo := 0) (n := ((ys.length : Int)).toNat)
        (fun i H' => Same H H' ∧ H' D = some (.lst ((List.replicate i true).map V.bl))) ⟨same_upd nD _, upd_same⟩ ?_ ?_⟩
      · rintro i H' hi ⟨s0, hD⟩
        have hi2 : i < ds.length := by omega
        obtain ⟨xi, yi, hxi, hyi, px, py⟩ := like_seq dx dy hi2
        refine ⟨rfl, ?_⟩
        unfold tYes
        refine iteT ?_
        refine ⟨_, rfl, _, rfl, ixAny (sqAny s0 sx) hxi ⟨_, rfl, _, rfl, ixAny (sqAny s0 sy) hyi ?_⟩⟩
        refine ⟨xi, yi, ds[i], rfl, Dp.same s0 _ _ px, Dp.same s0 _ _ py, Nat.lt_of_le_of_lt (depth_mem (List.getElem_mem hi2)) hm2, slim_mem hw.2 (List.getElem_mem hi2), fun H4 s4 => ?_⟩
        refine ⟨_, s4 _ _ hD, ?_, sameIn (s0.trans s4) nD, ?_⟩
        · rw [List.length_map, List.length_replicate]
          have z := sizeLine_eq
          omega
        · rw [upd_same, List.replicate_succ', List.map_append] <;> rfl
      · rintro H' ⟨s0, hD⟩
        refine ⟨D, _, rfl, SqL.of hD, ?_⟩
        rw [all_true]
        exact q H' s0
end
end LW

set_option Elab.async false
set_option linter.all false
set_option maxRecDepth 100000
set_option maxHeartbeats 4000000
namespace LW
open PySem PySem.Spec PyProof.Rows L2 LamX NdefX VB
abbrev s__law_long : Stmt := top 21
theorem sc__law_long : FnScope ["pool", "first", "rest", "word", "k"] ["pool", "first", "rest"] (defScope s__law_long) := ⟨rfl, rfl, rfl, by decide +kernel, rfl, by decide +kernel, by decide +kernel⟩
abbrev s__law_eventword : Stmt := top 22
theorem sc__law_eventword : FnScope ["pool", "word"] ["pool"] (defScope s__law_eventword) := ⟨rfl, rfl, rfl, by decide +kernel, rfl, by decide +kernel, by decide +kernel⟩
abbrev s__law_nameword : Stmt := top 23
theorem sc__law_nameword : FnScope ["pool"] ["pool"] (defScope s__law_nameword) := ⟨rfl, rfl, rfl, by decide +kernel, rfl, by decide +kernel, by decide +kernel⟩
section
variable {P : Program} {w : World} {K : PySem.W.Frag} {mg : Str → Option Value} {base : Heap}
theorem PoolAt.news {H H' : Hp} {a d : Addr} {i : Int} (p : PoolAt H a d i) (h : Same H H') : PoolAt H' a d i := PoolAt.but (b := a) p h
theorem PoolAt.tr {H : Hp} {a d : Addr} {i : Int} (p : PoolAt H a d i) : ∃ ys, H a = some (.lst ys) := by
  obtain ⟨ns, n, h1, _⟩ := p
  exact ⟨_, h1⟩
theorem PoolAt.dr {H : Hp} {a d : Addr} {i : Int} (p : PoolAt H a d i) : d ≠ a ∧ ∃ ys, H d = some (.lst ys) := by
  obtain ⟨ns, n, h1, h2, _⟩ := p
  exact ⟨n, _, h2⟩
/-- a list of ours is changed -/
theorem PoolAt.put {H : Hp} {a d t : Addr} {i : Int} {o : HO} (p : PoolAt H a d i) (n1 : t ≠ a) (n2 : t ≠ d) : PoolAt (upd H t o) a d i := by
  obtain ⟨ns, n, h1, h2, r⟩ := p
  exact ⟨ns, n, by rw [upd_ne n1.symm]; exact h1, by rw [upd_ne n2.symm]; exact h2, r⟩
theorem butIn {H H' : Hp} {a p : Addr} {o : HO} (x : But a H H') (h : H p = none) : But a H (upd H' p o) := fun b u n q => by
  rw [upd_ne (ne_of_none q h)]; exact x b u n q
/-- what a def that draws leaves: a pool, at most c places further -/
def Drew (a d : Addr) (at_ : Int) (c : Nat) (H H' : Hp) : Prop := But a H H' ∧ ∃ at2, PoolAt H' a d at2 ∧ at_ ≤ at2 ∧ at2 ≤ at_ + c
theorem Drew.refl {a d : Addr} {i : Int} {H : Hp} (p : PoolAt H a d i) : Drew a d i 0 H H := ⟨But.refl a H, i, p, Int.le_refl _, by omega⟩
theorem Drew.same {a d : Addr} {i : Int} {c : Nat} {H H1 H2 : Hp} (x : Drew a d i c H H1) (y : Same H1 H2) : Drew a d i c H H2 := by
  obtain ⟨b, i2, p, h1, h2⟩ := x
  exact ⟨b.trans (But.of y), i2, p.news y, h1, h2⟩
theorem Drew.trans {a d : Addr} {i i1 : Int} {c c' : Nat} {H H1 H2 : Hp} (b : But a H H1) (h1 : i ≤ i1) (h2 : i1 ≤ i + c) (y : Drew a d i1 c' H1 H2) : Drew a d i (c + c') H H2 := by
  obtain ⟨b2, i2, p2, h3, h4⟩ := y
  exact ⟨b.trans b2, i2, p2, by omega, by omega⟩
theorem Drew.mono {a d : Addr} {i : Int} {c c' : Nat} {H H1 : Hp} (x : Drew a d i c H H1) (h : c ≤ c') : Drew a d i c' H H1 := by
  obtain ⟨b, i2, p, h1, h2⟩ := x
  exact ⟨b, i2, p, h1, by omega⟩
/-- a pick, told as drawing -/
theorem pick_drew {a d : Addr} {i m : Int} {H : Hp} {Q : VK} {E : XK} (p : PoolAt H a d i) (hl : i < 1000000) (hm : 0 < m) (q : ∀ r H', 0 ≤ r → r < m → Drew a d i 1 H H' → Q (.int r) H') :
    spPick [.ref a, .int m] H Q E := ⟨a, d, i, m, rfl, p, hl, hm, fun r H' h0 h1 b p' => q r H' h0 h1 ⟨b, _, p', by omega, by omega⟩⟩
/-- a word that is drawn -/
def spLong : Sp := fun vs H Q _ => ∃ (a d : Addr) (i : Int) (f r : Str), vs = [.ref a, .str f, .str r] ∧ PoolAt H a d i ∧ i < 999000 ∧ 0 < f.length ∧ f.length ≤ 1000 ∧ 0 < r.length ∧ r.length ≤ 1000 ∧
  ∀ (x : Str) (H' : Hp), x.length ≤ 12 → Drew a d i 13 H H' → Q (.str x) H'
theorem str_at {x : Str} {r : Int} (h0 : 0 ≤ r) (h1 : r < (x.length : Int)) : ∃ c, atI x.cps.toList r = some c := by
  obtain ⟨k, rfl⟩ := Int.eq_ofNat_of_zero_le h0
  have hk : k < x.cps.toList.length := by
    rw [Array.length_toList]
    have z : x.length = x.cps.size := rfl
    omega
  exact ⟨_, atI_nat (List.getElem?_eq_getElem hk)⟩
theorem one_len (c : Nat) : (⟨#[c]⟩ : Str).length = 1 := rfl
theorem c_long (D : Df K mg "_law_long" s__law_long) (z_len : mg "len" = none) (z_range : mg "range" = none) (c__law_pick : C8.Cal P w K mg base 1 "_law_pick" spPick []) :
    C8.Cal P w K mg base 2 "_law_long" spLong [] := by
  refine D.cal sc__law_long (fun _ _ _ _ _ _ us hl => match us, hl with | [_, _, _], _ => rfl) (fun vs H Q E h => ?_) (fun f cdv A outer s H vs Q E hr h => ?_)
  · obtain ⟨a, d, i, f, r, rfl, _⟩ := h
    rfl
  obtain ⟨a, d, i, fs, rs, rfl, p0, hi, hf0, hf1, hr0, hr1, q⟩ := h
  refine ⟨_, (pss_cons (ps_set (i := 3) sc__law_long.nd rfl (Or.inl rfl) (pe_ix ix_str (pv 1) (C8.pe_c c__law_pick hr (by first | decide | omega) rfl (pa_cons (pv 0) (pa_cons (pe_callB call_len_str (by rfl) z_len PySem.boot_len (pa_cons (pv 1) pa_nil)) pa_nil))) (fun _ _ => rfl)))
    (pss_cons (ps_for PassesOwn.never rfl (pi_range1 rfl z_range (pa_cons (pe_ix (VK.ixL (K := K) rfl) (pe_lst (pa_cons pe_int (pa_cons pe_int (pa_cons pe_int (pa_cons pe_int (pa_cons pe_int (pa_cons pe_int (pa_cons pe_int (pa_cons pe_int pa_nil))))))))) (C8.pe_c c__law_pick hr (by first | decide | omega) rfl (pa_cons (pv 0) (pa_cons pe_int pa_nil))) (fun _ _ => rfl)) pa_nil)) (pg_name (i := 4) sc__law_long.nd rfl (Or.inl rfl))
      (pss_one (ps_set (i := 3) sc__law_long.nd rfl (Or.inl rfl) (pe_op op_add_str (pv 3) (pe_ix ix_str (pv 2) (C8.pe_c c__law_pick hr (by first | decide | omega) rfl (pa_cons (pv 0) (pa_cons (pe_callB call_len_str (by rfl) z_len PySem.boot_len (pa_cons (pv 2) pa_nil)) pa_nil))) (fun _ _ => rfl))))))
    (pss_one (ps_ret (pv 3))))), ?_⟩
  have zl := sizeLine_eq
  refine ⟨_, rfl, _, rfl, _, rfl, _, rfl, by omega, a, d, i, _, rfl, p0, by omega, by omega, fun r H1 h0 h1 b1 p1 => ?_⟩
  obtain ⟨c, hc⟩ := str_at h0 h1
  refine ⟨_, _, c, rfl, rfl, by omega, hc, ?_⟩
  refine ⟨(by show 8 ≤ sizeLine; decide), fun t nt => ?_⟩
  have s1 : Same H1 (upd H1 t (.lst [.int 0, .int 0, .int 1, .int 1, .int 2, .int 3, .int 11, .int 7])) := same_upd nt _
  refine ⟨_, rfl, a, d, i + 1, 8, rfl, p1.news s1, by omega, by decide, fun r2 H2 h2 h3 b2 p2 => ?_⟩
  have nta : t ≠ a := by
    intro z
    obtain ⟨ns, _, ha, _⟩ := p1
    rw [← z, nt] at ha
    cases ha
  have ht : H2 t = some (.lst [.int 0, .int 0, .int 1, .int 1, .int 2, .int 3, .int 11, .int 7]) := b2 _ _ nta upd_same
  obtain ⟨m, hm, m0, m1⟩ : ∃ m : Int, atI [V.int 0, V.int 0, V.int 1, V.int 1, V.int 2, V.int 3, V.int 11, V.int 7] r2 = some (.int m) ∧ 0 ≤ m ∧ m ≤ 11 := by
    have z : r2 = 0 ∨ r2 = 1 ∨ r2 = 2 ∨ r2 = 3 ∨ r2 = 4 ∨ r2 = 5 ∨ r2 = 6 ∨ r2 = 7 := by omega
    rcases z with rfl | rfl | rfl | rfl | rfl | rfl | rfl | rfl
    · exact ⟨0, rfl, by decide, by decide⟩
    · exact ⟨0, rfl, by decide, by decide⟩
    · exact ⟨1, rfl, by decide, by decide⟩
    · exact ⟨1, rfl, by decide, by decide⟩
    · exact ⟨2, rfl, by decide, by decide⟩
    · exact ⟨3, rfl, by decide, by decide⟩
    · exact ⟨11, rfl, by decide, by decide⟩
    · exact ⟨7, rfl, by decide, by decide⟩
  refine ⟨t, _, _, _, rfl, rfl, SqL.of ht, hm, ?_⟩
  refine ⟨m, rfl, by omega, by omega, for_range (lo := 0) (n := m.toNat)
    (fun k σ H' => ∃ (x : Str) (kk : Option V), σ = [some (.ref a), some (.str fs), some (.str rs), some (.str x), kk] ∧ x.length = k + 1 ∧ Drew a d i (2 + k) H H')
    ⟨⟨#[c]⟩, none, rfl, rfl, (b1.trans (But.of s1)).trans b2, i + 1 + 1, p2, by omega, by omega⟩ ?_ ?_⟩
  · rintro k σ H' hk ⟨x, kk, rfl, hx, b3, i3, p3, l3, u3⟩
    refine ⟨_, rfl, _, rfl, _, rfl, _, rfl, _, rfl, by omega, a, d, i3, _, rfl, p3, by omega, by omega, fun r4 H4 h4 h5 b4 p4 => ?_⟩
    obtain ⟨c4, hc4⟩ := str_at h4 h5
    refine ⟨_, _, c4, rfl, rfl, by omega, hc4, _, _, rfl, rfl, (by rw [hx, one_len]; omega), ?_⟩
    refine ⟨x ++ ⟨#[c4]⟩, _, rfl, ?_, b3.trans b4, i3 + 1, p4, by omega, by omega⟩
    rw [PySem.Str.length_append, hx, one_len]
  · rintro σ H' ⟨x, kk, rfl, hx, d3⟩
    exact ⟨_, rfl, q x H' (by omega) (d3.mono (by omega))⟩
/-- a name of an event, a process -/
def spWord : Sp := fun vs H Q _ => ∃ (a d : Addr) (i : Int), vs = [.ref a] ∧ PoolAt H a d i ∧ i < 998000 ∧
  ∀ (x : Str) (H' : Hp), x.length ≤ 13 → Drew a d i 16 H H' → Q (.str x) H'
theorem six_at {x0 x1 x2 x3 x4 x5 : Str} {r : Int} (h0 : 0 ≤ r) (h1 : r < 6) : ∃ x, atI [V.str x0, V.str x1, V.str x2, V.str x3, V.str x4, V.str x5] r = some (.str x) ∧ (x = x0 ∨ x = x1 ∨ x = x2 ∨ x = x3 ∨ x = x4 ∨ x = x5) := by
  have z : r = 0 ∨ r = 1 ∨ r = 2 ∨ r = 3 ∨ r = 4 ∨ r = 5 := by omega
  rcases z with rfl | rfl | rfl | rfl | rfl | rfl
  · exact ⟨_, rfl, by simp⟩
  · exact ⟨_, rfl, by simp⟩
  · exact ⟨_, rfl, by simp⟩
  · exact ⟨_, rfl, by simp⟩
  · exact ⟨_, rfl, by simp⟩
  · exact ⟨_, rfl, by simp⟩
theorem three_at {x0 x1 x2 : Str} {r : Int} (h0 : 0 ≤ r) (h1 : r < 3) : ∃ x, atI [V.str x0, V.str x1, V.str x2] r = some (.str x) ∧ (x = x0 ∨ x = x1 ∨ x = x2) := by
  have z : r = 0 ∨ r = 1 ∨ r = 2 := by omega
  rcases z with rfl | rfl | rfl
  · exact ⟨_, rfl, by simp⟩
  · exact ⟨_, rfl, by simp⟩
  · exact ⟨_, rfl, by simp⟩
theorem PoolAt.ne {H : Hp} {a d t : Addr} {i : Int} (p : PoolAt H a d i) (h : H t = none) : t ≠ a := by
  intro z
  obtain ⟨ns, _, ha, _⟩ := p
  rw [← z, h] at ha
  cases ha
theorem PoolAt.ne2 {H : Hp} {a d t : Addr} {i : Int} (p : PoolAt H a d i) (h : H t = none) : t ≠ d := by
  intro z
  obtain ⟨ns, _, _, hd, _⟩ := p
  rw [← z, h] at hd
  cases hd
theorem c_eventword (D : Df K mg "_law_eventword" s__law_eventword) (c__law_pick : C8.Cal P w K mg base 1 "_law_pick" spPick []) (c__law_long : C8.Cal P w K mg base 2 "_law_long" spLong []) :
    C8.Cal P w K mg base 3 "_law_eventword" spWord [] := by
  refine D.cal sc__law_eventword (fun _ _ _ _ _ _ us hl => match us, hl with | [_], _ => rfl) (fun vs H Q E h => ?_) (fun f cdv A outer s H vs Q E hr h => ?_)
  · obtain ⟨a, d, i, rfl, _⟩ := h
    rfl
  obtain ⟨a, d, i, rfl, p0, hi, q⟩ := h
  refine ⟨_, (pss_cons (ps_if (pt_cmpR op_gt (C8.pe_c c__law_pick hr (by first | decide | omega) rfl (pa_cons (pv 0) (pa_cons pe_int pa_nil))) pe_int (nomark _))
      (pss_one (ps_ret (pe_ix (VK.ixL (K := K) rfl) (pe_lst (pa_cons pe_str (pa_cons pe_str (pa_cons pe_str (pa_cons pe_str (pa_cons pe_str (pa_cons pe_str pa_nil))))))) (C8.pe_c c__law_pick hr (by first | decide | omega) rfl (pa_cons (pv 0) (pa_cons pe_int pa_nil))) (fun _ _ => rfl))))
      pss_nil)
    (pss_cons (ps_set (i := 1) sc__law_eventword.nd rfl (Or.inl rfl) (C8.pe_c c__law_long hr (by first | decide | omega) rfl (pa_cons (pv 0) (pa_cons pe_str (pa_cons pe_str pa_nil)))))
    (pss_cons (ps_if (pt_cmpR (VK.inQ (K := K) rfl) (pv 1) (pe_lst (pa_cons pe_str (pa_cons pe_str (pa_cons pe_str (pa_cons pe_str (pa_cons pe_str (pa_cons pe_str pa_nil))))))) rfl)
      (pss_one (ps_set (i := 1) sc__law_eventword.nd rfl (Or.inl rfl) (pe_op op_add_str (pv 1) pe_str)))
      pss_nil)
    (pss_one (ps_ret (pv 1)))))), ?_⟩
  refine ⟨_, rfl, a, d, i, 3, rfl, p0, by omega, by decide, fun r H1 h0 h1 b1 p1 => ?_⟩
  refine ⟨_, _, rfl, rfl, _, rfl, ?_⟩
  refine ite2 (fun c => ?_) (fun c => ?_)
  · refine ⟨(by show 6 ≤ sizeLine; decide), fun t nt => ?_⟩
    have s1 : Same H1 (upd H1 t (.lst [V.str "a", V.str "b", V.str "c", V.str "d", V.str "e1", V.str "go2"])) := same_upd nt _
    refine ⟨_, rfl, a, d, i + 1, 6, rfl, p1.news s1, by omega, by decide, fun r2 H2 h2 h3 b2 p2 => ?_⟩
    have ht := b2 t _ (p1.ne nt) upd_same
    obtain ⟨x, hx, hw⟩ := six_at (x0 := "a") (x1 := "b") (x2 := "c") (x3 := "d") (x4 := "e1") (x5 := "go2") h2 h3
    have hlen : x.length ≤ 13 := by
      rcases hw with rfl | rfl | rfl | rfl | rfl | rfl <;> decide
    exact ⟨t, _, _, _, rfl, rfl, SqL.of ht, hx, q x H2 hlen ⟨(b1.trans (But.of s1)).trans b2, _, p2, by omega, by omega⟩⟩
  · refine ⟨_, rfl, a, d, i + 1, _, _, rfl, p1, by omega, by decide, by decide, by decide, by decide, fun x H2 hx d2 => ?_⟩
    obtain ⟨b2, i2, p2, l2, u2⟩ := d2
    refine ⟨_, rfl, (by show 6 ≤ sizeLine; decide), fun t nt => ?_⟩
    have s2 : Same H2 (upd H2 t (.lst [V.str "stop", V.str "skip", V.str "tau", V.str "tick", V.str "true", V.str "loops"])) := same_upd nt _
    have dr : Drew a d i 16 H (upd H2 t (.lst [V.str "stop", V.str "skip", V.str "tau", V.str "tick", V.str "true", V.str "loops"])) :=
      ⟨(b1.trans b2).trans (But.of s2), i2, p2.news s2, by omega, by omega⟩
    refine ⟨t, _, rfl, .inl (SqL.of upd_same), rfl, rfl, _, rfl, ?_⟩
    refine ite2 (fun c => ?_) (fun c => ?_)
    · refine ⟨_, rfl, _, _, rfl, rfl, ?_, ?_⟩
      · have z := sizeLine_eq
        show x.length + 1 ≤ sizeLine
        omega
      · refine ⟨_, rfl, q _ _ ?_ dr⟩
        rw [PySem.Str.length_append]
        show x.length + 1 ≤ 13
        omega
    · exact ⟨_, rfl, q x _ (by omega) dr⟩
theorem c_nameword (D : Df K mg "_law_nameword" s__law_nameword) (c__law_pick : C8.Cal P w K mg base 1 "_law_pick" spPick []) (c__law_long : C8.Cal P w K mg base 2 "_law_long" spLong []) :
    C8.Cal P w K mg base 3 "_law_nameword" spWord [] := by
  refine D.cal sc__law_nameword (fun _ _ _ _ _ _ us hl => match us, hl with | [_], _ => rfl) (fun vs H Q E h => ?_) (fun f cdv A outer s H vs Q E hr h => ?_)
  · obtain ⟨a, d, i, rfl, _⟩ := h
    rfl
  obtain ⟨a, d, i, rfl, p0, hi, q⟩ := h
  refine ⟨_, (pss_cons (ps_if (pt_cmpR op_gt (C8.pe_c c__law_pick hr (by first | decide | omega) rfl (pa_cons (pv 0) (pa_cons pe_int pa_nil))) pe_int (nomark _))
      (pss_one (ps_ret (pe_ix (VK.ixL (K := K) rfl) (pe_lst (pa_cons pe_str (pa_cons pe_str (pa_cons pe_str pa_nil)))) (C8.pe_c c__law_pick hr (by first | decide | omega) rfl (pa_cons (pv 0) (pa_cons pe_int pa_nil))) (fun _ _ => rfl))))
      pss_nil)
    (pss_one (ps_ret (C8.pe_c c__law_long hr (by first | decide | omega) rfl (pa_cons (pv 0) (pa_cons pe_str (pa_cons pe_str pa_nil))))))), ?_⟩
  refine ⟨_, rfl, a, d, i, 3, rfl, p0, by omega, by decide, fun r H1 h0 h1 b1 p1 => ?_⟩
  refine ⟨_, _, rfl, rfl, _, rfl, ?_⟩
  refine ite2 (fun c => ?_) (fun c => ?_)
  · refine ⟨(by show 3 ≤ sizeLine; decide), fun t nt => ?_⟩
    have s1 : Same H1 (upd H1 t (.lst [V.str "P", V.str "Q", V.str "R"])) := same_upd nt _
    refine ⟨_, rfl, a, d, i + 1, 3, rfl, p1.news s1, by omega, by decide, fun r2 H2 h2 h3 b2 p2 => ?_⟩
    have ht := b2 t _ (p1.ne nt) upd_same
    obtain ⟨x, hx, hw⟩ := three_at (x0 := "P") (x1 := "Q") (x2 := "R") h2 h3
    have hlen : x.length ≤ 13 := by
      rcases hw with rfl | rfl | rfl <;> decide
    exact ⟨t, _, _, _, rfl, rfl, SqL.of ht, hx, q x H2 hlen ⟨(b1.trans (But.of s1)).trans b2, _, p2, by omega, by omega⟩⟩
  · refine ⟨_, rfl, a, d, i + 1, _, _, rfl, p1, by omega, by decide, by decide, by decide, by decide, fun x H2 hx d2 => ?_⟩
    obtain ⟨b2, i2, p2, l2, u2⟩ := d2
    exact q x H2 (by omega) ⟨b1.trans b2, i2, p2, by omega, by omega⟩
end
end LW

set_option Elab.async false
set_option linter.all false
set_option maxRecDepth 100000
set_option maxHeartbeats 4000000
namespace LW
open PySem PySem.Spec PyProof.Rows L2 LamX NdefX VB
abbrev s__law_eventset : Stmt := top 24
theorem sc__law_eventset : FnScope ["pool", "most", "k"] ["pool", "most"] (defScope s__law_eventset) := ⟨rfl, rfl, rfl, by decide +kernel, rfl, by decide +kernel, by decide +kernel⟩
abbrev s__law_pairset : Stmt := top 25
theorem sc__law_pairset : FnScope ["pool", "olds", "k", "old"] ["pool"] (defScope s__law_pairset) := ⟨rfl, rfl, rfl, by decide +kernel, rfl, by decide +kernel, by decide +kernel⟩
section
variable {P : Program} {w : World} {K : PySem.W.Frag} {mg : Str → Option Value} {base : Heap}
/-- a tuple of texts -/
def spEvSet (K : PySem.W.Frag) : Sp := fun vs H Q _ => ∃ (a d : Addr) (i m : Int), vs = [.ref a, .int m] ∧ PoolAt H a d i ∧ i < 997000 ∧ 0 ≤ m ∧ m ≤ 3 ∧
  ∀ (p : Addr) (ss : List Str) (H' : Hp), SqT K H' p (ss.map V.str) → ss.length ≤ 3 → Drew a d i 64 H H' → Q (.ref p) H'
theorem c_eventset (D : Df K mg "_law_eventset" s__law_eventset) (z_range : mg "range" = none) (z_sorted : mg "sorted" = none) (z_tuple : mg "tuple" = none)
    (c__law_pick : C8.Cal P w K mg base 1 "_law_pick" spPick []) (c__law_eventword : C8.Cal P w K mg base 3 "_law_eventword" spWord []) (c__law_once : C8.Cal P w K mg base 1 "_law_once" (spOnce K) []) :
    C8.Cal P w K mg base 4 "_law_eventset" (spEvSet K) [] := by
  refine D.cal sc__law_eventset (fun _ _ _ _ _ _ us hl => match us, hl with | [_, _], _ => rfl) (fun vs H Q E h => ?_) (fun f cdv A outer s H vs Q E hr h => ?_)
  · obtain ⟨a, d, i, m, rfl, _⟩ := h
    rfl
  obtain ⟨a, d, i, m, rfl, p0, hi, hm0, hm1, q⟩ := h
  refine ⟨_, (pss_one (ps_ret (pe_callTy (VK.tupQ (K := K) rfl) (by rfl) z_tuple (by decide +kernel) (pa_cons (pe_callB (VK.sortedS (K := K) rfl hr) (by rfl) z_sorted (by decide +kernel) (pa_cons (C8.pe_c c__law_once hr (by first | decide | omega) rfl (pa_cons (pe_lc (own := [("k", 2)]) (tt := tYes) rfl sc__law_eventset.nd (pi_range1 rfl z_range (pa_cons (C8.pe_c c__law_pick hr (by first | decide | omega) rfl (pa_cons (pv 0) (pa_cons (pe_op op_add (pv 1) pe_int) pa_nil))) pa_nil)) (blkOk_by (N := ["pool", "most", "k"]) (sc := defScope s__law_eventset) (by decide +kernel)) (fun _ _ _ _ _ => (pg_name (i := 2) sc__law_eventset.nd rfl (Or.inl rfl))) (fun _ _ _ _ _ => pts_nil) (fun _ _ _ _ _ => (C8.pe_c c__law_eventword hr (by first | decide | omega) rfl (pa_cons (pv 0) pa_nil)))) pa_nil)) pa_nil)) pa_nil)))), ?_⟩
  refine ⟨_, rfl, _, rfl, _, _, rfl, rfl, a, d, i, m + 1, rfl, p0, by omega, by omega, fun r H1 h0 h1 b1 p1 => ?_⟩
  refine ⟨r, rfl, by omega, by omega, fun D1 nD => ?_⟩
  have nDa : D1 ≠ a := p1.ne nD
  have nDd : D1 ≠ d := p1.ne2 nD
  have nDH : H D1 = none := b1.none nDa nD
  refine lc_range (lo := 0) (n := r.toNat)
    (fun j H' => Drew a d i (1 + 16 * j) H H' ∧ ∃ ss : List Str, H' D1 = some (.lst (ss.map V.str)) ∧ ss.length = j) ?_ ?_ ?_
  · have s1 : Same H1 (upd H1 D1 (.lst [])) := same_upd nD _
    exact ⟨⟨b1.trans (But.of s1), i + 1, p1.news s1, by omega, by omega⟩, [], upd_same, rfl⟩
  · rintro j H' hj ⟨⟨b2, i2, p2, l2, u2⟩, ss, hD, hl⟩
    refine ⟨rfl, ?_⟩
    unfold tYes
    refine iteT ?_
    refine ⟨_, rfl, a, d, i2, rfl, p2, by omega, fun x H3 hx ⟨b3, i3, p3, l3, u3⟩ => ?_⟩
    have hD3 := b3 D1 _ nDa hD
    have zl := sizeLine_eq
    refine ⟨_, hD3, (by rw [List.length_map]; omega), ⟨butIn (b2.trans b3) nDH, i3, p3.put nDa nDd, by omega, by omega⟩, ss ++ [x], by rw [upd_same, List.map_append] <;> rfl, by rw [List.length_append, hl] <;> rfl⟩
  · rintro H' ⟨⟨b2, i2, p2, l2, u2⟩, ss, hD, hl⟩
    have zl := sizeLine_eq
    refine ⟨D1, ss, rfl, SqL.of hD, by omega, fun p1' np1 => ?_⟩
    refine ⟨p1', _, rfl, SqL.of upd_same, fun p2' np2 => ?_⟩
    refine ⟨p2', _, rfl, .inl ⟨SqL.of upd_same, fun p3' np3 => ?_⟩⟩
    have s1 := same_upd np1 (.lst ((onceS [] ss).map V.str))
    have s2 := same_upd np2 (.lst (((onceS [] ss).mergeSort VS.leS).map V.str))
    have s3 := same_upd np3 (.tup (((onceS [] ss).mergeSort VS.leS).map V.str))
    have s123 := s1.trans (s2.trans s3)
    refine q p3' ((onceS [] ss).mergeSort VS.leS) _ (.inl (.inl upd_same)) ?_ ⟨b2.trans (But.of s123), i2, p2.news s123, by omega, by omega⟩
    rw [List.length_mergeSort]
    have z := onceS_len ss
    omega
/-- the data of a row of pairs -/
def pairD (p : Str × Str) : PyData := .tuple [.str p.1, .str p.2]
theorem flat_pairs : ∀ ps : List (Str × Str), flatAll (ps.map pairD) = true
  | [] => rfl
  | p :: ps => by
    simp only [List.map_cons, flatAll, pairD, flatD, flat_pairs ps, Bool.and_self]
theorem flat_strs : ∀ ss : List Str, flatAll (ss.map PyData.str) = true
  | [] => rfl
  | s :: ss => by simp only [List.map_cons, flatAll, flatD, flat_strs ss, Bool.and_self]
theorem dpAll_snoc {H : Hp} {x : V} {e : PyData} : ∀ {vs : List V} {ds : List PyData}, DpAll K H vs ds → Dp K H x e → DpAll K H (vs ++ [x]) (ds ++ [e])
  | _, _, .nil, h => .cons h .nil
  | _, _, .cons a t, h => .cons a (dpAll_snoc t h)
/-- a tuple of pairs of texts -/
def spPairSet (K : PySem.W.Frag) : Sp := fun vs H Q _ => ∃ (a d : Addr) (i : Int), vs = [.ref a] ∧ PoolAt H a d i ∧ i < 996000 ∧
  ∀ (p : Addr) (vsD : List V) (ps : List (Str × Str)) (H' : Hp), SqT K H' p vsD → DpAll K H' vsD (ps.map pairD) → ps.length ≤ 3 → Drew a d i 160 H H' → Q (.ref p) H'
theorem c_pairset (D : Df K mg "_law_pairset" s__law_pairset) (z_range : mg "range" = none) (z_sorted : mg "sorted" = none) (z_tuple : mg "tuple" = none)
    (c__law_pick : C8.Cal P w K mg base 1 "_law_pick" spPick []) (c__law_eventword : C8.Cal P w K mg base 3 "_law_eventword" spWord []) (c__law_once : C8.Cal P w K mg base 1 "_law_once" (spOnce K) []) :
    C8.Cal P w K mg base 4 "_law_pairset" (spPairSet K) [] := by
  refine D.cal sc__law_pairset (fun _ _ _ _ _ _ us hl => match us, hl with | [_], _ => rfl) (fun vs H Q E h => ?_) (fun f cdv A outer s H vs Q E hr h => ?_)
  · obtain ⟨a, d, i, rfl, _⟩ := h
    rfl
  obtain ⟨a, d, i, rfl, p0, hi, q⟩ := h
  refine ⟨_, (pss_cons (ps_set (i := 1) sc__law_pairset.nd rfl (Or.inl rfl) (C8.pe_c c__law_once hr (by first | decide | omega) rfl (pa_cons (pe_lc (own := [("k", 2)]) (tt := tYes) rfl sc__law_pairset.nd (pi_range1 rfl z_range (pa_cons (pe_op op_add pe_int (C8.pe_c c__law_pick hr (by first | decide | omega) rfl (pa_cons (pv 0) (pa_cons pe_int pa_nil)))) pa_nil)) (blkOk_by (N := ["pool", "olds", "k", "old"]) (sc := defScope s__law_pairset) (by decide +kernel)) (fun _ _ _ _ _ => (pg_name (i := 2) sc__law_pairset.nd rfl (Or.inl rfl))) (fun _ _ _ _ _ => pts_nil) (fun _ _ _ _ _ => (C8.pe_c c__law_eventword hr (by first | decide | omega) rfl (pa_cons (pv 0) pa_nil)))) pa_nil)))
    (pss_one (ps_ret (pe_callTy (VK.tupQ (K := K) rfl) (by rfl) z_tuple (by decide +kernel) (pa_cons (pe_lc (own := [("old", 3)]) (tt := tYes) rfl sc__law_pairset.nd (pi_list (pe_callB (VK.sortedS (K := K) rfl hr) (by rfl) z_sorted (by decide +kernel) (pa_cons (pv 1) pa_nil))) (blkOk_by (N := ["pool", "olds", "k", "old"]) (sc := defScope s__law_pairset) (by decide +kernel)) (fun _ _ _ _ _ => (pg_name (i := 3) sc__law_pairset.nd rfl (Or.inl rfl))) (fun _ _ _ _ _ => pts_nil) (fun _ _ _ _ _ => (pe_tup (pa_cons (pv 3) (pa_cons (C8.pe_c c__law_eventword hr (by first | decide | omega) rfl (pa_cons (pv 0) pa_nil)) pa_nil))))) pa_nil))))), ?_⟩
  refine ⟨_, rfl, a, d, i, 3, rfl, p0, by omega, by decide, fun r H1 h0 h1 b1 p1 => ?_⟩
  refine ⟨_, _, rfl, rfl, _, rfl, by omega, by omega, fun D1 nD => ?_⟩
  have nDa : D1 ≠ a := p1.ne nD
  have nDd : D1 ≠ d := p1.ne2 nD
  have nDH : H D1 = none := b1.none nDa nD
  have zl := sizeLine_eq
  refine lc_range (lo := 0) (n := (1 + r).toNat)
    (fun j H' => Drew a d i (1 + 16 * j) H H' ∧ ∃ ss : List Str, H' D1 = some (.lst (ss.map V.str)) ∧ ss.length = j) ?_ ?_ ?_
  · have s1 : Same H1 (upd H1 D1 (.lst [])) := same_upd nD _
    exact ⟨⟨b1.trans (But.of s1), i + 1, p1.news s1, by omega, by omega⟩, [], upd_same, rfl⟩
  · rintro j H' hj ⟨⟨b2, i2, p2, l2, u2⟩, ss, hD, hl⟩
    refine ⟨rfl, ?_⟩
    unfold tYes
    refine iteT ?_
    refine ⟨_, rfl, a, d, i2, rfl, p2, by omega, fun x H3 hx ⟨b3, i3, p3, l3, u3⟩ => ?_⟩
    have hD3 := b3 D1 _ nDa hD
    exact ⟨_, hD3, (by rw [List.length_map]; omega), ⟨butIn (b2.trans b3) nDH, i3, p3.put nDa nDd, by omega, by omega⟩, ss ++ [x], by rw [upd_same, List.map_append] <;> rfl, by rw [List.length_append, hl] <;> rfl⟩
  · rintro H' ⟨⟨b2, i2, p2, l2, u2⟩, ss, hD, hl⟩
    refine ⟨D1, ss, rfl, SqL.of hD, by omega, fun p1' np1 => ?_⟩
    have s1 := same_upd np1 (.lst ((onceS [] ss).map V.str))
    have p2' := p2.news s1
    have b2' := b2.trans (But.of s1)
    have len1 : (onceS [] ss).length ≤ 3 := by
      have z := onceS_len ss
      omega
    generalize onceS [] ss = os at *
    refine ⟨_, rfl, p1', _, rfl, SqL.of upd_same, fun L nL => ?_⟩
    have s2 := same_upd nL (.lst ((os.mergeSort VS.leS).map V.str))
    have p3' := p2'.news s2
    have b3' := b2'.trans (But.of s2)
    have len2 : (os.mergeSort VS.leS).length ≤ 3 := by rw [List.length_mergeSort]; exact len1
    have hL : upd (upd H' p1' (.lst (os.map V.str))) L (.lst ((os.mergeSort VS.leS).map V.str)) L = some (.lst ((os.mergeSort VS.leS).map V.str)) := upd_same
    have nLa : L ≠ a := p2'.ne nL
    generalize os.mergeSort VS.leS = ts at *
    generalize upd (upd H' p1' (.lst (os.map V.str))) L (.lst (ts.map V.str)) = H5 at *
    refine ⟨L, rfl, ⟨_, SqL.of hL⟩, fun D2 nD2 => ?_⟩
    have nD2a : D2 ≠ a := p3'.ne nD2
    have nD2d : D2 ≠ d := p3'.ne2 nD2
    have nD2H : H D2 = none := b3'.none nD2a nD2
    have nLD : L ≠ D2 := ne_of_none hL nD2
    refine lc_list (K := K) (a := L) (xs := ts.map V.str)
      (fun j H6 => Drew a d i (60 + 16 * j) H H6 ∧ H6 L = some (.lst (ts.map V.str)) ∧ ∃ (vsD : List V) (ps : List (Str × Str)), H6 D2 = some (.lst vsD) ∧ DpAll K H6 vsD (ps.map pairD) ∧ ps.length = j)
      ?_ (fun j H6 _ z => SqL.of z.2.1) ?_ ?_
    · have s3 : Same H5 (upd H5 D2 (.lst [])) := same_upd nD2 _
      exact ⟨⟨b3'.trans (But.of s3), i2, p3'.news s3, by omega, by omega⟩, s3 _ _ hL, [], [], upd_same, .nil, rfl⟩
    · rintro j x H6 hj ⟨⟨b4, i4, p4, l4, u4⟩, hL6, vsD, ps, hD2, hp, hl2⟩
      have hj2 : j < ts.length := by
        have z := (List.getElem?_eq_some_iff.mp hj).1
        rw [List.length_map] at z
        exact z
      have ex : x = V.str ts[j] := by
        rw [List.getElem?_map, List.getElem?_eq_getElem hj2] at hj
        exact (Option.some.inj hj).symm
      subst ex
      refine ⟨rfl, ?_⟩
      unfold tYes
      refine iteT ?_
      refine ⟨_, rfl, _, rfl, a, d, i4, rfl, p4, by omega, fun y H7 hy ⟨b5, i5, p5, l5, u5⟩ => ?_⟩
      refine ⟨(by show 2 ≤ sizeLine; omega), fun t nt => ?_⟩
      have s7 : Same H7 (upd H7 t (.tup [V.str ts[j], V.str y])) := same_upd nt _
      have kp : Kp H6 (upd H7 t (.tup [V.str ts[j], V.str y])) := (Kp.ofBut b5 p4.tr.choose_spec).trans (Kp.of s7)
      have hD7 : upd H7 t (.tup [V.str ts[j], V.str y]) D2 = some (.lst vsD) := s7 _ _ (b5 D2 _ nD2a hD2)
      have hL7 : upd H7 t (.tup [V.str ts[j], V.str y]) L = some (.lst (ts.map V.str)) := s7 _ _ (b5 L _ nLa hL6)
      have lv : vsD.length < sizeLine := by
        rw [VB.DpAll.len hp, List.length_map, hl2]
        omega
      have kp2 : Kp (upd H7 t (.tup [V.str ts[j], V.str y])) (upd (upd H7 t (.tup [V.str ts[j], V.str y])) D2 (.lst (vsD ++ [.ref t]))) := Kp.updL hD7 _
      refine ⟨vsD, hD7, lv, ⟨butIn ((b4.trans b5).trans (But.of s7)) nD2H, i5, (p5.news s7).put nD2a nD2d, by omega, by omega⟩, by rw [upd_ne nLD]; exact hL7, vsD ++ [.ref t], ps ++ [(ts[j], y)], upd_same, ?_, by rw [List.length_append, hl2] <;> rfl⟩
      rw [List.map_append]
      refine VB.DpAll.kp kp2 _ _ (by rw [← List.map_append]; exact flat_pairs _) (dpAll_snoc (VB.DpAll.kp kp _ _ (flat_pairs _) hp) (.tup (.inl (.inl upd_same)) (.cons (.str _) (.cons (.str _) .nil))))
    · rintro H6 ⟨⟨b4, i4, p4, l4, u4⟩, hL6, vsD, ps, hD2, hp, hl2⟩
      rw [List.length_map] at hl2 u4
      refine ⟨D2, vsD, rfl, .inl ⟨SqL.of hD2, fun T nT => ?_⟩⟩
      have s8 := same_upd nT (.tup vsD)
      exact q T vsD ps _ (.inl (.inl upd_same)) (VB.DpAll.kp (Kp.of s8) _ _ (flat_pairs _) hp) (by omega) ⟨b4.trans (But.of s8), i4, p4.news s8, by omega, by omega⟩
end
end LW

set_option Elab.async false
set_option linter.all false
set_option maxRecDepth 100000
set_option maxHeartbeats 4000000
namespace LW
open PySem PySem.Spec PyProof.Rows L2 LamX NdefX VB
abbrev s__law_any : Stmt := top 26
theorem sc__law_any : FnScope ["pool", "depth", "kind", "word"] ["pool", "depth"] (defScope s__law_any) := ⟨rfl, rfl, rfl, by decide +kernel, rfl, by decide +kernel, by decide +kernel⟩
/-- the words of the operators with two parts and no events -/
inductive Bn where
  | ext | inn | seq
  deriving DecidableEq
def Bn.word : Bn → Str
  | .ext => "external"
  | .inn => "internal"
  | .seq => "sequence"
/-- a process -/
inductive Pc where
  | stop | skip
  | name (x : Str)
  | pre (e : Str) (p : Pc)
  | hide (es : List Str) (p : Pc)
  | ren (ps : List (Str × Str)) (p : Pc)
  | par (es : List Str) (p q : Pc)
  | bin (k : Bn) (p q : Pc)
def toD : Pc → PyData
  | .stop => .tuple [.str "stop"]
  | .skip => .tuple [.str "skip"]
  | .name x => .tuple [.str "name", .str x]
  | .pre e p => .tuple [.str "prefix", .str e, toD p]
  | .hide es p => .tuple [.str "hide", .tuple (es.map .str), toD p]
  | .ren ps p => .tuple [.str "rename", .tuple (ps.map pairD), toD p]
  | .par es p q => .tuple [.str "parallel", .tuple (es.map .str), toD p, toD q]
  | .bin k p q => .tuple [.str k.word, toD p, toD q]
theorem flat_toD : ∀ p : Pc, flatD (toD p) = true
  | .stop => rfl
  | .skip => rfl
  | .name x => rfl
  | .pre e p => by simp only [toD, flatD, flatAll, flat_toD p, Bool.and_self]
  | .hide es p => by simp only [toD, flatD, flatAll, flat_toD p, flat_strs es, Bool.and_self]
  | .ren ps p => by simp only [toD, flatD, flatAll, flat_toD p, flat_pairs ps, Bool.and_self]
  | .par es p q => by simp only [toD, flatD, flatAll, flat_toD p, flat_toD q, flat_strs es, Bool.and_self]
  | .bin k p q => by simp only [toD, flatD, flatAll, flat_toD p, flat_toD q, Bool.and_self]
/-- the number of its tuples, its height -/
def nodes : Pc → Nat
  | .pre _ p => nodes p + 1
  | .hide _ p => nodes p + 1
  | .ren _ p => nodes p + 1
  | .par _ p q => nodes p + nodes q + 1
  | .bin _ p q => nodes p + nodes q + 1
  | _ => 1
def ht : Pc → Nat
  | .pre _ p => ht p + 1
  | .hide _ p => ht p + 1
  | .ren _ p => ht p + 1
  | .par _ p q => max (ht p) (ht q) + 1
  | .bin _ p q => max (ht p) (ht q) + 1
  | _ => 1
/-- the draws that a process of a height takes -/
def cost : Nat → Nat
  | 0 => 100
  | n + 1 => 400 + 2 * cost n
section
variable {P : Program} {w : World} {K : PySem.W.Frag} {mg : Str → Option Value} {base : Heap}
theorem dp_kp {H H' : Hp} {v : V} {p : Pc} (x : Kp H H') (h : Dp K H v (toD p)) : Dp K H' v (toD p) := VB.Dp.kp x _ _ (flat_toD p) h
def spAny (K : PySem.W.Frag) (n : Nat) : Sp := fun vs H Q _ => ∃ (a d : Addr) (i dep : Int), vs = [.ref a, .int dep] ∧ PoolAt H a d i ∧ i + cost n < 990000 ∧ 0 < dep ∧ dep < n ∧ n ≤ 8 ∧
  ∀ (v : V) (p : Pc) (H' : Hp), Dp K H' v (toD p) → ht p ≤ max 1 dep.toNat → nodes p < 2 ^ n → Drew a d i (cost n) H H' → Q v H'
theorem c_any (D : Df K mg "_law_any" s__law_any)
    (c__law_pick : C8.Cal P w K mg base 1 "_law_pick" spPick []) (c__law_eventword : C8.Cal P w K mg base 3 "_law_eventword" spWord []) (c__law_nameword : C8.Cal P w K mg base 3 "_law_nameword" spWord [])
    (c__law_eventset : C8.Cal P w K mg base 4 "_law_eventset" (spEvSet K) []) (c__law_pairset : C8.Cal P w K mg base 4 "_law_pairset" (spPairSet K) []) :
    ∀ n : Nat, C8.Cal P w K mg base (5 + n) "_law_any" (spAny K n) [] := by
  have emp : C8.Cal P w K mg base 0 "_law_any" (fun _ _ _ _ => False) [] := calNone D (ps := ["pool", "depth"]) (fun _ _ _ _ _ _ us hl => match us, hl with | [_, _], _ => rfl) fun _ _ _ _ z => z
  have step : ∀ (n : Nat) (sp' : Sp), C8.Cal P w K mg base (4 + n) "_law_any" sp' [] → (∀ k, n = k + 1 → sp' = spAny K k) → C8.Cal P w K mg base (5 + n) "_law_any" (spAny K n) [] := by
    intro n sp' c__law_any hsp
    rw [show 5 + n = (4 + n) + 1 by omega]
    refine D.cal sc__law_any (fun _ _ _ _ _ _ us hl => match us, hl with | [_, _], _ => rfl) (fun vs H Q E h => ?_) (fun f cdv A outer s H vs Q E hr h => ?_)
    · obtain ⟨a, d, i, dep, rfl, _⟩ := h
      rfl
    obtain ⟨a, d, i, dep, rfl, p0, hi, hd0, hdep, hn, q⟩ := h
    refine ⟨_, (pss_cons (ps_set (i := 2) sc__law_any.nd rfl (Or.inl rfl) (C8.pe_c c__law_pick hr (by first | decide | omega) rfl (pa_cons (pv 0) (pa_cons pe_int pa_nil))))
    (pss_cons (ps_if (PW.pt (pw_or (pt_cmpR op_lt (pv 1) pe_int (nomark _)) (pw_or1 (pt_cmpR op_lt (pv 2) pe_int (nomark _)))))
      (pss_one (ps_ret (pe_ix (VK.ixL (K := K) rfl) (pe_lst (pa_cons (pe_tup (pa_cons pe_str pa_nil)) (pa_cons (pe_tup (pa_cons pe_str pa_nil)) (pa_cons (pe_tup (pa_cons pe_str (pa_cons (C8.pe_c c__law_nameword hr (by first | decide | omega) rfl (pa_cons (pv 0) pa_nil)) pa_nil))) pa_nil)))) (C8.pe_c c__law_pick hr (by first | decide | omega) rfl (pa_cons (pv 0) (pa_cons pe_int pa_nil))) (fun _ _ => rfl))))
      pss_nil)
    (pss_cons (ps_if (pt_cmpR op_lt (pv 2) pe_int (nomark _))
      (pss_one (ps_ret (pe_tup (pa_cons pe_str (pa_cons (C8.pe_c c__law_eventword hr (by first | decide | omega) rfl (pa_cons (pv 0) pa_nil)) (pa_cons (C8.pe_c c__law_any hr (by first | decide | omega) rfl (pa_cons (pv 0) (pa_cons (pe_op op_sub (pv 1) pe_int) pa_nil))) pa_nil))))))
      pss_nil)
    (pss_cons (ps_if (pt_cmpR op_eq (pv 2) pe_int (nomark _))
      (pss_one (ps_ret (pe_tup (pa_cons pe_str (pa_cons (C8.pe_c c__law_eventset hr (by first | decide | omega) rfl (pa_cons (pv 0) (pa_cons pe_int pa_nil))) (pa_cons (C8.pe_c c__law_any hr (by first | decide | omega) rfl (pa_cons (pv 0) (pa_cons (pe_op op_sub (pv 1) pe_int) pa_nil))) pa_nil))))))
      pss_nil)
    (pss_cons (ps_if (pt_cmpR op_eq (pv 2) pe_int (nomark _))
      (pss_one (ps_ret (pe_tup (pa_cons pe_str (pa_cons (C8.pe_c c__law_pairset hr (by first | decide | omega) rfl (pa_cons (pv 0) pa_nil)) (pa_cons (C8.pe_c c__law_any hr (by first | decide | omega) rfl (pa_cons (pv 0) (pa_cons (pe_op op_sub (pv 1) pe_int) pa_nil))) pa_nil))))))
      pss_nil)
    (pss_cons (ps_if (pt_cmpR op_lt (pv 2) pe_int (nomark _))
      (pss_one (ps_ret (pe_tup (pa_cons pe_str (pa_cons (C8.pe_c c__law_eventset hr (by first | decide | omega) rfl (pa_cons (pv 0) (pa_cons pe_int pa_nil))) (pa_cons (C8.pe_c c__law_any hr (by first | decide | omega) rfl (pa_cons (pv 0) (pa_cons (pe_op op_sub (pv 1) pe_int) pa_nil))) (pa_cons (C8.pe_c c__law_any hr (by first | decide | omega) rfl (pa_cons (pv 0) (pa_cons (pe_op op_sub (pv 1) pe_int) pa_nil))) pa_nil)))))))
      pss_nil)
    (pss_cons (ps_set (i := 3) sc__law_any.nd rfl (Or.inl rfl) (pe_ix (VK.ixL (K := K) rfl) (pe_lst (pa_cons pe_str (pa_cons pe_str (pa_cons pe_str (pa_cons pe_str pa_nil))))) (pe_op op_sub (pv 2) pe_int) (fun _ _ => rfl)))
    (pss_one (ps_ret (pe_tup (pa_cons (pv 3) (pa_cons (C8.pe_c c__law_any hr (by first | decide | omega) rfl (pa_cons (pv 0) (pa_cons (pe_op op_sub (pv 1) pe_int) pa_nil))) (pa_cons (C8.pe_c c__law_any hr (by first | decide | omega) rfl (pa_cons (pv 0) (pa_cons (pe_op op_sub (pv 1) pe_int) pa_nil))) pa_nil))))))))))))), ?_⟩
    have zl := sizeLine_eq
    have cst : 100 ≤ cost n := by
      cases n with
      | zero => exact Nat.le_refl _
      | succ k => show 100 ≤ 400 + 2 * cost k; omega
    have pw : 2 ≤ 2 ^ n := by
      have z : 2 ^ 1 ≤ 2 ^ n := Nat.pow_le_pow_right (by decide) (by omega)
      exact z
    refine ⟨_, rfl, a, d, i, 13, rfl, p0, by omega, by decide, fun kind H1 k0 k1 b1 p1 => ?_⟩
    refine ⟨_, rfl, _, _, rfl, rfl, _, rfl, ?_⟩
    refine ite2 (fun c1 => iteT ?x1) (fun c1 => ?x2)
    case' x2 =>
      have c1' : ¬ dep < 2 := fun z => c1 (decide_eq_true z)
      refine ⟨_, rfl, _, _, rfl, rfl, _, rfl, ?_⟩
      refine ite2 (fun c2 => ?x3) (fun c2 => ?x4)
    case' x4 =>
      have c2' : ¬ kind < 2 := fun z => c2 (decide_eq_true z)
      obtain ⟨k, rfl⟩ : ∃ k, n = k + 1 := ⟨n - 1, by omega⟩
      obtain rfl := hsp k rfl
      have ek : cost (k + 1) = 400 + 2 * cost k := rfl
      have e2 : 2 ^ (k + 1) = 2 ^ k + 2 ^ k := by rw [Nat.pow_succ]; omega
      refine ⟨_, rfl, _, _, rfl, rfl, _, rfl, ?_⟩
      refine ite2 (fun c3 => ?y1) (fun c3 => ?y2)
      case y1 =>
        refine ⟨_, rfl, a, d, i + 1, rfl, p1, by omega, fun x H2 hx ⟨b2, i2, p2, l2, u2⟩ => ?_⟩
        refine ⟨_, rfl, _, rfl, _, _, rfl, rfl, a, d, i2, dep - 1, rfl, p2, by omega, by omega, by omega, by omega, fun v p H3 hv hh hnn ⟨b3, i3, p3, l3, u3⟩ => ?_⟩
        refine ⟨(by show 3 ≤ sizeLine; omega), fun t nt => ?_⟩
        have s4 := same_upd nt (.tup [.str "prefix", .str x, v])
        refine q _ (.pre x p) _ (.tup (.inl (.inl upd_same)) (.cons (.str _) (.cons (.str _) (.cons (dp_kp (Kp.of s4) hv) .nil)))) ?_ ?_ ⟨((b1.trans b2).trans b3).trans (But.of s4), i3, p3.news s4, by omega, by omega⟩
        · show ht p + 1 ≤ _
          omega
        · show nodes p + 1 < _
          omega
      case y2 =>
        have c3' : ¬ kind < 5 := fun z => c3 (decide_eq_true z)
        have kpB : ∀ {Ha Hb : Hp} {j : Int}, PoolAt Ha a d j → But a Ha Hb → Kp Ha Hb := fun pa bb => Kp.ofBut bb pa.tr.choose_spec
        refine ⟨_, rfl, rfl, _, rfl, ?_⟩
        refine ite2 (fun c4 => ?_) (fun c4 => ?_)
        · refine ⟨_, rfl, a, d, i + 1, 3, rfl, p1, by omega, by decide, by decide, fun pe ss H2 hse hss ⟨b2, i2, p2, l2, u2⟩ => ?_⟩
          refine ⟨_, rfl, _, rfl, _, _, rfl, rfl, a, d, i2, dep - 1, rfl, p2, by omega, by omega, by omega, by omega, fun v p H3 hv hh hnn ⟨b3, i3, p3, l3, u3⟩ => ?_⟩
          refine ⟨(by show 3 ≤ sizeLine; omega), fun t nt => ?_⟩
          have s4 := same_upd nt (.tup [.str "hide", .ref pe, v])
          refine q _ (.hide ss p) _ (.tup (.inl (.inl upd_same)) (.cons (.str _) (.cons (.tup (((kpB p2 b3).trans (Kp.of s4)).sqT hse) (dpAll_strs ss)) (.cons (dp_kp (Kp.of s4) hv) .nil)))) ?_ ?_
            ⟨((b1.trans b2).trans b3).trans (But.of s4), i3, p3.news s4, by omega, by omega⟩
          · show ht p + 1 ≤ _
            omega
          · show nodes p + 1 < _
            omega
        refine ⟨_, rfl, rfl, _, rfl, ?_⟩
        refine ite2 (fun c5 => ?_) (fun c5 => ?_)
        · refine ⟨_, rfl, a, d, i + 1, rfl, p1, by omega, fun pe vsD ps H2 hse hss _ ⟨b2, i2, p2, l2, u2⟩ => ?_⟩
          refine ⟨_, rfl, _, rfl, _, _, rfl, rfl, a, d, i2, dep - 1, rfl, p2, by omega, by omega, by omega, by omega, fun v p H3 hv hh hnn ⟨b3, i3, p3, l3, u3⟩ => ?_⟩
          refine ⟨(by show 3 ≤ sizeLine; omega), fun t nt => ?_⟩
          have s4 := same_upd nt (.tup [.str "rename", .ref pe, v])
          refine q _ (.ren ps p) _ (.tup (.inl (.inl upd_same)) (.cons (.str _) (.cons (.tup (((kpB p2 b3).trans (Kp.of s4)).sqT hse) (VB.DpAll.kp ((kpB p2 b3).trans (Kp.of s4)) _ _ (flat_pairs ps) hss)) (.cons (dp_kp (Kp.of s4) hv) .nil)))) ?_ ?_
            ⟨((b1.trans b2).trans b3).trans (But.of s4), i3, p3.news s4, by omega, by omega⟩
          · show ht p + 1 ≤ _
            omega
          · show nodes p + 1 < _
            omega
        refine ⟨_, rfl, _, _, rfl, rfl, _, rfl, ?_⟩
        refine ite2 (fun c6 => ?_) (fun c6 => ?_)
        · refine ⟨_, rfl, a, d, i + 1, 3, rfl, p1, by omega, by decide, by decide, fun pe ss H2 hse hss ⟨b2, i2, p2, l2, u2⟩ => ?_⟩
          refine ⟨_, rfl, _, rfl, _, _, rfl, rfl, a, d, i2, dep - 1, rfl, p2, by omega, by omega, by omega, by omega, fun v p H3 hv hh hnn ⟨b3, i3, p3, l3, u3⟩ => ?_⟩
          refine ⟨_, rfl, _, rfl, _, _, rfl, rfl, a, d, i3, dep - 1, rfl, p3, by omega, by omega, by omega, by omega, fun v' p' H4 hv' hh' hnn' ⟨b4, i4, p4, l4, u4⟩ => ?_⟩
          refine ⟨(by show 4 ≤ sizeLine; omega), fun t nt => ?_⟩
          have s5 := same_upd nt (.tup [.str "parallel", .ref pe, v, v'])
          have k5 := Kp.of s5
          refine q _ (.par ss p p') _ (.tup (.inl (.inl upd_same)) (.cons (.str _) (.cons (.tup (((kpB p2 b3).trans ((kpB p3 b4).trans k5)).sqT hse) (dpAll_strs ss)) (.cons (dp_kp ((kpB p3 b4).trans k5) hv) (.cons (dp_kp k5 hv') .nil))))) ?_ ?_
            ⟨(((b1.trans b2).trans b3).trans b4).trans (But.of s5), i4, p4.news s5, by omega, by omega⟩
          · show max (ht p) (ht p') + 1 ≤ _
            omega
          · show nodes p + nodes p' + 1 < _
            omega
        · have c6' : ¬ kind < 9 := fun z => c6 (decide_eq_true z)
          refine ⟨(by show 4 ≤ sizeLine; omega), fun l nl => ?_⟩
          have s2 := same_upd nl (.lst [.str "external", .str "internal", .str "sequence", .str "external"])
          obtain ⟨bk, hb⟩ : ∃ bk : Bn, atI [V.str "external", V.str "internal", V.str "sequence", V.str "external"] (kind - 9) = some (.str bk.word) := by
            have z : kind - 9 = 0 ∨ kind - 9 = 1 ∨ kind - 9 = 2 ∨ kind - 9 = 3 := by omega
            rcases z with z | z | z | z <;> rw [z]
            · exact ⟨.ext, rfl⟩
            · exact ⟨.inn, rfl⟩
            · exact ⟨.seq, rfl⟩
            · exact ⟨.ext, rfl⟩
          refine ⟨_, rfl, _, _, rfl, rfl, l, _, _, _, rfl, rfl, SqL.of upd_same, hb, ?_⟩
          have p2 := p1.news s2
          refine ⟨_, rfl, _, rfl, _, rfl, _, _, rfl, rfl, a, d, i + 1, dep - 1, rfl, p2, by omega, by omega, by omega, by omega, fun v p H3 hv hh hnn ⟨b3, i3, p3, l3, u3⟩ => ?_⟩
          refine ⟨_, rfl, _, rfl, _, _, rfl, rfl, a, d, i3, dep - 1, rfl, p3, by omega, by omega, by omega, by omega, fun v' p' H4 hv' hh' hnn' ⟨b4, i4, p4, l4, u4⟩ => ?_⟩
          refine ⟨(by show 3 ≤ sizeLine; omega), fun t nt => ?_⟩
          have s5 := same_upd nt (.tup [.str bk.word, v, v'])
          have k5 := Kp.of s5
          refine q _ (.bin bk p p') _ (.tup (.inl (.inl upd_same)) (.cons (.str _) (.cons (dp_kp ((kpB p3 b4).trans k5) hv) (.cons (dp_kp k5 hv') .nil)))) ?_ ?_
            ⟨(((b1.trans (But.of s2)).trans b3).trans b4).trans (But.of s5), i4, p4.news s5, by omega, by omega⟩
          · show max (ht p) (ht p') + 1 ≤ _
            omega
          · show nodes p + nodes p' + 1 < _
            omega
    all_goals
      refine ⟨(by show 1 ≤ sizeLine; omega), fun t1 n1 => ?_⟩
      have s1 := same_upd n1 (.tup [.str "stop"])
      refine ⟨(by show 1 ≤ sizeLine; omega), fun t2 n2 => ?_⟩
      have s2 := same_upd n2 (.tup [.str "skip"])
      refine ⟨_, rfl, a, d, i + 1, rfl, (p1.news s1).news s2, by omega, fun x H2 hx ⟨b2, i2, p2, l2, u2⟩ => ?_⟩
      refine ⟨(by show 2 ≤ sizeLine; omega), fun t3 n3 => ?_⟩
      have s3 := same_upd n3 (.tup [.str "name", .str x])
      refine ⟨(by show 3 ≤ sizeLine; omega), fun l nl => ?_⟩
      have s4 := same_upd nl (.lst [.ref t1, .ref t2, .ref t3])
      have nla : l ≠ a := (p2.news s3).ne nl
      refine ⟨_, rfl, a, d, i2, 3, rfl, (p2.news s3).news s4, by omega, by decide, fun r H3 r0 r1 b3 p3 => ?_⟩
      have hl3 := b3 l _ nla upd_same
      have ne1 : t1 ≠ a := p1.ne n1
      have ne2 : t2 ≠ a := (p1.news s1).ne n2
      have ne3 : t3 ≠ a := p2.ne n3
      have h1 := b3 t1 _ ne1 (s4 _ _ (s3 _ _ (b2 t1 _ ne1 (s2 _ _ upd_same))))
      have h2 := b3 t2 _ ne2 (s4 _ _ (s3 _ _ (b2 t2 _ ne2 upd_same)))
      have h3 := b3 t3 _ ne3 (s4 _ _ upd_same)
      have fin : ∀ (v : V) (p : Pc), Dp K H3 v (toD p) → ht p = 1 → nodes p = 1 → Q v H3 := fun v p hv e1 e2 =>
        q v p H3 hv (by omega) (by omega) ⟨((((b1.trans (But.of s1)).trans (But.of s2)).trans b2).trans (But.of s3)).trans (But.of s4) |>.trans b3, i2 + 1, p3, by omega, by omega⟩
      have z : r = 0 ∨ r = 1 ∨ r = 2 := by omega
      rcases z with rfl | rfl | rfl
      · exact ⟨l, _, _, .ref t1, rfl, rfl, SqL.of hl3, rfl, fin _ .stop (.tup (.inl (.inl h1)) (.cons (.str _) .nil)) rfl rfl⟩
      · exact ⟨l, _, _, .ref t2, rfl, rfl, SqL.of hl3, rfl, fin _ .skip (.tup (.inl (.inl h2)) (.cons (.str _) .nil)) rfl rfl⟩
      · exact ⟨l, _, _, .ref t3, rfl, rfl, SqL.of hl3, rfl, fin _ (.name x) (.tup (.inl (.inl h3)) (.cons (.str _) (.cons (.str _) .nil))) rfl rfl⟩
  intro n
  induction n with
  | zero => exact step 0 _ (calMono emp (by omega)) (fun k e => by omega)
  | succ n ih => exact step (n + 1) _ (by rw [show 4 + (n + 1) = 5 + n by omega]; exact ih) (fun k e => by rw [show n = k by omega])
end
end LW

set_option Elab.async false
set_option linter.all false
set_option maxRecDepth 100000
set_option maxHeartbeats 4000000
namespace LW
open PySem PySem.Spec PyProof.Rows L2 LamX NdefX VB
abbrev s__law_inside : Stmt := top 27
theorem sc__law_inside : FnScope ["process"] ["process"] (defScope s__law_inside) := ⟨rfl, rfl, rfl, by decide +kernel, rfl, by decide +kernel, by decide +kernel⟩
abbrev s__law_tall : Stmt := top 28
theorem sc__law_tall : FnScope ["process", "part"] ["process"] (defScope s__law_tall) := ⟨rfl, rfl, rfl, by decide +kernel, rfl, by decide +kernel, by decide +kernel⟩
abbrev s__law_named : Stmt := top 29
theorem sc__law_named : FnScope ["process", "found", "part"] ["process"] (defScope s__law_named) := ⟨rfl, rfl, rfl, by decide +kernel, rfl, by decide +kernel, by decide +kernel⟩
def kids : Pc → List Pc
  | .pre _ p => [p]
  | .hide _ p => [p]
  | .ren _ p => [p]
  | .par _ p q => [p, q]
  | .bin _ p q => [p, q]
  | _ => []
section
variable {P : Program} {w : World} {K : PySem.W.Frag} {mg : Str → Option Value} {base : Heap}
theorem tupOf {H : Hp} {x : V} {ds : List PyData} (h : Dp K H x (.tuple ds)) : ∃ t us, x = .ref t ∧ SqT K H t us ∧ DpAll K H us ds := by
  cases h with
  | tup h1 h2 => exact ⟨_, _, rfl, h1, h2⟩
theorem two_of {H : Hp} {us : List V} {d e : PyData} (h : DpAll K H us [d, e]) : ∃ u v, us = [u, v] ∧ Dp K H u d ∧ Dp K H v e := by
  cases h with
  | cons h1 t => cases t with
    | cons h2 t => cases t; exact ⟨_, _, rfl, h1, h2⟩
theorem three_of {H : Hp} {us : List V} {d e f : PyData} (h : DpAll K H us [d, e, f]) : ∃ u v z, us = [u, v, z] ∧ Dp K H u d ∧ Dp K H v e ∧ Dp K H z f := by
  cases h with
  | cons h1 t => obtain ⟨v, z, rfl, h2, h3⟩ := two_of t; exact ⟨_, v, z, rfl, h1, h2, h3⟩
theorem four_of {H : Hp} {us : List V} {d e f g : PyData} (h : DpAll K H us [d, e, f, g]) : ∃ u v z y, us = [u, v, z, y] ∧ Dp K H u d ∧ Dp K H v e ∧ Dp K H z f ∧ Dp K H y g := by
  cases h with
  | cons h1 t => obtain ⟨v, z, y, rfl, h2, h3, h4⟩ := three_of t; exact ⟨_, v, z, y, rfl, h1, h2, h3, h4⟩
theorem one_of {H : Hp} {us : List V} {d : PyData} (h : DpAll K H us [d]) : ∃ u, us = [u] ∧ Dp K H u d := by
  cases h with
  | cons h1 t => cases t; exact ⟨_, rfl, h1⟩
theorem str_of {H : Hp} {u : V} {x : Str} (h : Dp K H u (.str x)) : u = .str x := by cases h; rfl
theorem at0 (v : V) (us : List V) : atI (v :: us) 0 = some v := atI_nat (xs := v :: us) rfl
/-- the first item tells the kind, the last ones are the parts -/
def kindOf : Pc → Str
  | .stop => "stop"
  | .skip => "skip"
  | .name _ => "name"
  | .pre _ _ => "prefix"
  | .hide _ _ => "hide"
  | .ren _ _ => "rename"
  | .par _ _ _ => "parallel"
  | .bin k _ _ => k.word
theorem shape {H : Hp} {x : V} (p : Pc) (h : Dp K H x (toD p)) : ∃ (t : Addr) (us : List V), x = .ref t ∧ SqT K H t (.str (kindOf p) :: us) ∧
    (match p with
      | .stop => us = []
      | .skip => us = []
      | .name y => us = [.str y]
      | .pre e q => ∃ v, us = [.str e, v] ∧ Dp K H v (toD q)
      | .hide es q => ∃ u v, us = [u, v] ∧ Dp K H u (.tuple (es.map .str)) ∧ Dp K H v (toD q)
      | .ren ps q => ∃ u v, us = [u, v] ∧ Dp K H u (.tuple (ps.map pairD)) ∧ Dp K H v (toD q)
      | .par es q r => ∃ u v z, us = [u, v, z] ∧ Dp K H u (.tuple (es.map .str)) ∧ Dp K H v (toD q) ∧ Dp K H z (toD r)
      | .bin _ q r => ∃ v z, us = [v, z] ∧ Dp K H v (toD q) ∧ Dp K H z (toD r)) := by
  cases p with
  | stop => obtain ⟨t, us, rfl, h1, h2⟩ := tupOf h; obtain ⟨u, rfl, a⟩ := one_of h2; rw [str_of a] at h1; exact ⟨t, [], rfl, h1, rfl⟩
  | skip => obtain ⟨t, us, rfl, h1, h2⟩ := tupOf h; obtain ⟨u, rfl, a⟩ := one_of h2; rw [str_of a] at h1; exact ⟨t, [], rfl, h1, rfl⟩
  | name y => obtain ⟨t, us, rfl, h1, h2⟩ := tupOf h; obtain ⟨u, v, rfl, a, b⟩ := two_of h2; rw [str_of a, str_of b] at h1; exact ⟨t, [.str y], rfl, h1, rfl⟩
  | pre e q => obtain ⟨t, us, rfl, h1, h2⟩ := tupOf h; obtain ⟨u, v, z, rfl, a, b, c⟩ := three_of h2; rw [str_of a, str_of b] at h1; exact ⟨t, _, rfl, h1, z, rfl, c⟩
  | hide es q => obtain ⟨t, us, rfl, h1, h2⟩ := tupOf h; obtain ⟨u, v, z, rfl, a, b, c⟩ := three_of h2; rw [str_of a] at h1; exact ⟨t, _, rfl, h1, v, z, rfl, b, c⟩
  | ren ps q => obtain ⟨t, us, rfl, h1, h2⟩ := tupOf h; obtain ⟨u, v, z, rfl, a, b, c⟩ := three_of h2; rw [str_of a] at h1; exact ⟨t, _, rfl, h1, v, z, rfl, b, c⟩
  | par es q r => obtain ⟨t, us, rfl, h1, h2⟩ := tupOf h; obtain ⟨u, v, z, y, rfl, a, b, c, e⟩ := four_of h2; rw [str_of a] at h1; exact ⟨t, _, rfl, h1, v, z, y, rfl, b, c, e⟩
  | bin k q r => obtain ⟨t, us, rfl, h1, h2⟩ := tupOf h; obtain ⟨u, v, z, rfl, a, b, c⟩ := three_of h2; rw [str_of a] at h1; exact ⟨t, _, rfl, h1, v, z, rfl, b, c⟩
def isTwo : Pc → Bool
  | .par _ _ _ => true
  | .bin _ _ _ => true
  | _ => false
def isOne : Pc → Bool
  | .pre _ _ => true
  | .hide _ _ => true
  | .ren _ _ => true
  | _ => false
theorem in_two (p : Pc) : inV (.str (kindOf p)) [.str "external", .str "internal", .str "sequence", .str "parallel"] = isTwo p := by
  cases p with
  | bin k q r => cases k <;> rfl
  | _ => rfl
theorem in_one (p : Pc) : inV (.str (kindOf p)) [.str "prefix", .str "hide", .str "rename"] = isOne p := by
  cases p with
  | bin k q r => cases k <;> rfl
  | _ => rfl
def spInside (K : PySem.W.Frag) : Sp := fun vs H Q _ => ∃ (x : V) (p : Pc), vs = [x] ∧ Dp K H x (toD p) ∧
  ∀ (l : Addr) (us : List V) (H' : Hp), Same H H' → H' l = some (.lst us) → DpAll K H' us ((kids p).map toD) → Q (.ref l) H'
theorem c_inside (D : Df K mg "_law_inside" s__law_inside) : C8.Cal P w K mg base 1 "_law_inside" (spInside K) [] := by
  refine D.cal sc__law_inside (fun _ _ _ _ _ _ us hl => match us, hl with | [_], _ => rfl) (fun vs H Q E h => ?_) (fun f cdv A outer s H vs Q E hr h => ?_)
  · obtain ⟨x, p, rfl, _⟩ := h
    rfl
  obtain ⟨x, p, rfl, hx, q⟩ := h
  obtain ⟨t, us, rfl, hT, hs⟩ := shape p hx
  refine ⟨_, (pss_cons (ps_if (pt_cmpR (VK.inQ (K := K) rfl) (pe_ix (VK.ixT (K := K) rfl) (pv 0) pe_int (fun _ _ => rfl)) (pe_lst (pa_cons pe_str (pa_cons pe_str (pa_cons pe_str (pa_cons pe_str pa_nil))))) rfl)
      (pss_one (ps_ret (pe_lst (pa_cons (pe_ix (VK.ixT (K := K) rfl) (pv 0) (pe_un un_neg pe_int) (fun _ _ => rfl)) (pa_cons (pe_ix (VK.ixT (K := K) rfl) (pv 0) (pe_un un_neg pe_int) (fun _ _ => rfl)) pa_nil)))))
      pss_nil)
    (pss_cons (ps_if (pt_cmpR (VK.inQ (K := K) rfl) (pe_ix (VK.ixT (K := K) rfl) (pv 0) pe_int (fun _ _ => rfl)) (pe_lst (pa_cons pe_str (pa_cons pe_str (pa_cons pe_str pa_nil)))) rfl)
      (pss_one (ps_ret (pe_lst (pa_cons (pe_ix (VK.ixT (K := K) rfl) (pv 0) pe_int (fun _ _ => rfl)) pa_nil))))
      pss_nil)
    (pss_one (ps_ret (pe_lst pa_nil))))), ?_⟩
  have zl := sizeLine_eq
  refine ⟨_, rfl, t, _, _, _, rfl, rfl, hT, at0 _ _, (by show 4 ≤ sizeLine; omega), fun l1 n1 => ?_⟩
  have s1 := same_upd n1 (.lst [.str "external", .str "internal", .str "sequence", .str "parallel"])
  refine ⟨l1, _, rfl, .inl (SqL.of upd_same), rfl, rfl, _, rfl, ?_⟩
  have hT1 := Same.sqT s1 hT
  have in2 := in_one p
  have ein := in_two p
  rw [ein]
  cases p
  case par es q1 q2 =>
    obtain ⟨u, v, z, rfl, _, hv, hz⟩ := hs
    refine iteT ?_
    refine ⟨_, rfl, _, rfl, t, _, _, v, rfl, rfl, hT1, rfl, _, rfl, _, rfl, t, _, _, z, rfl, rfl, hT1, rfl, (by show 2 ≤ sizeLine; omega), fun l nl => ?_⟩
    have k2 := Kp.of (s1.trans (same_upd nl (.lst [v, z])))
    exact q l _ _ (s1.trans (same_upd nl _)) upd_same (.cons (dp_kp k2 hv) (.cons (dp_kp k2 hz) .nil))
  case bin k q1 q2 =>
    obtain ⟨v, z, rfl, hv, hz⟩ := hs
    refine iteT ?_
    refine ⟨_, rfl, _, rfl, t, _, _, v, rfl, rfl, hT1, rfl, _, rfl, _, rfl, t, _, _, z, rfl, rfl, hT1, rfl, (by show 2 ≤ sizeLine; omega), fun l nl => ?_⟩
    have k2 := Kp.of (s1.trans (same_upd nl (.lst [v, z])))
    exact q l _ _ (s1.trans (same_upd nl _)) upd_same (.cons (dp_kp k2 hv) (.cons (dp_kp k2 hz) .nil))
  all_goals
    refine iteF ?_
    refine ⟨_, rfl, t, _, _, _, rfl, rfl, hT1, at0 _ _, (by show 3 ≤ sizeLine; omega), fun l2 n2 => ?_⟩
    have s2 := s1.trans (same_upd n2 (.lst [.str "prefix", .str "hide", .str "rename"]))
    have hT2 := Same.sqT s2 hT
    refine ⟨l2, _, rfl, .inl (SqL.of upd_same), rfl, rfl, _, rfl, ?_⟩
    rw [in2]
  case pre e q1 =>
    obtain ⟨v, rfl, hv⟩ := hs
    refine iteT ?_
    refine ⟨_, rfl, t, _, _, v, rfl, rfl, hT2, rfl, (by show 1 ≤ sizeLine; omega), fun l nl => ?_⟩
    have s3 := s2.trans (same_upd nl (.lst [v]))
    exact q l _ _ s3 upd_same (.cons (dp_kp (Kp.of s3) hv) .nil)
  case hide es q1 =>
    obtain ⟨u, v, rfl, _, hv⟩ := hs
    refine iteT ?_
    refine ⟨_, rfl, t, _, _, v, rfl, rfl, hT2, rfl, (by show 1 ≤ sizeLine; omega), fun l nl => ?_⟩
    have s3 := s2.trans (same_upd nl (.lst [v]))
    exact q l _ _ s3 upd_same (.cons (dp_kp (Kp.of s3) hv) .nil)
  case ren ps q1 =>
    obtain ⟨u, v, rfl, _, hv⟩ := hs
    refine iteT ?_
    refine ⟨_, rfl, t, _, _, v, rfl, rfl, hT2, rfl, (by show 1 ≤ sizeLine; omega), fun l nl => ?_⟩
    have s3 := s2.trans (same_upd nl (.lst [v]))
    exact q l _ _ s3 upd_same (.cons (dp_kp (Kp.of s3) hv) .nil)
  all_goals
    refine iteF ?_
    refine ⟨Nat.zero_le _, fun l nl => ?_⟩
    exact q l _ _ (s2.trans (same_upd nl _)) upd_same .nil
theorem kid_ht {p q : Pc} (h : q ∈ kids p) : ht q < ht p := by
  cases p with
  | pre e r => rw [List.mem_singleton.mp h]; show ht r < ht r + 1; omega
  | hide e r => rw [List.mem_singleton.mp h]; show ht r < ht r + 1; omega
  | ren e r => rw [List.mem_singleton.mp h]; show ht r < ht r + 1; omega
  | par e r r' =>
    rcases List.mem_cons.mp h with z | z
    · rw [z]; show ht r < max (ht r) (ht r') + 1; omega
    · rw [List.mem_singleton.mp z]; show ht r' < max (ht r) (ht r') + 1; omega
  | bin e r r' =>
    rcases List.mem_cons.mp h with z | z
    · rw [z]; show ht r < max (ht r) (ht r') + 1; omega
    · rw [List.mem_singleton.mp z]; show ht r' < max (ht r) (ht r') + 1; omega
  | _ => cases h
theorem kids_two (p : Pc) : (kids p).length ≤ 2 := by
  cases p <;> first | exact Nat.le_refl _ | (show (_ : Nat) ≤ 2; decide) | (show 1 ≤ 2; decide) | (show 0 ≤ 2; decide)
theorem ht_max (p : Pc) (m : Int) (h1 : m ∈ (0 : Int) :: (kids p).map fun q => ((ht q : Nat) : Int)) (h2 : ∀ y ∈ (0 : Int) :: (kids p).map (fun q => ((ht q : Nat) : Int)), y ≤ m) : 1 + m = ((ht p : Nat) : Int) := by
  cases p with
  | pre e r => simp [kids] at h1 h2; show 1 + m = ((ht r + 1 : Nat) : Int); omega
  | hide e r => simp [kids] at h1 h2; show 1 + m = ((ht r + 1 : Nat) : Int); omega
  | ren e r => simp [kids] at h1 h2; show 1 + m = ((ht r + 1 : Nat) : Int); omega
  | par e r r' => simp [kids] at h1 h2; show 1 + m = ((max (ht r) (ht r') + 1 : Nat) : Int); omega
  | bin e r r' => simp [kids] at h1 h2; show 1 + m = ((max (ht r) (ht r') + 1 : Nat) : Int); omega
  | stop => simp [kids] at h1 h2; show 1 + m = ((1 : Nat) : Int); omega
  | skip => simp [kids] at h1 h2; show 1 + m = ((1 : Nat) : Int); omega
  | name x => simp [kids] at h1 h2; show 1 + m = ((1 : Nat) : Int); omega
theorem DpAll_get {H : Hp} {us : List V} {ps : List Pc} (h : DpAll K H us (ps.map toD)) {i : Nat} {x : V} (hx : us[i]? = some x) : ∃ q, ps[i]? = some q ∧ Dp K H x (toD q) := by
  have hl := VB.DpAll.len h
  rw [List.length_map] at hl
  have hi : i < us.length := (List.getElem?_eq_some_iff.mp hx).1
  have hi2 : i < ps.length := by omega
  obtain ⟨v, h1, h2⟩ := VB.DpAll.get h (i := i) (d := toD ps[i]) (by rw [List.getElem?_map, List.getElem?_eq_getElem hi2] <;> rfl)
  rw [hx] at h1
  cases h1
  exact ⟨ps[i], List.getElem?_eq_getElem hi2, h2⟩
def spTall (K : PySem.W.Frag) (n : Nat) : Sp := fun vs H Q _ => ∃ (x : V) (p : Pc), vs = [x] ∧ Dp K H x (toD p) ∧ ht p < n ∧ ∀ H', Same H H' → Q (.int (ht p : Nat)) H'
theorem c_tall (D : Df K mg "_law_tall" s__law_tall) (z_max : mg "max" = none) (c__law_inside : C8.Cal P w K mg base 1 "_law_inside" (spInside K) []) :
    ∀ n : Nat, C8.Cal P w K mg base (2 + n) "_law_tall" (spTall K n) [] := by
  intro n
  induction n with
  | zero =>
    have e0 : C8.Cal P w K mg base 0 "_law_tall" (spTall K 0) [] := calNone D (ps := ["process"]) (fun _ _ _ _ _ _ us hl => match us, hl with | [_], _ => rfl) fun vs H Q E ⟨_, _, _, _, z, _⟩ => Nat.not_lt_zero _ z
    exact calMono e0 (by omega)
  | succ n c__law_tall =>
    rw [show 2 + (n + 1) = (2 + n) + 1 by omega]
    refine D.cal sc__law_tall (fun _ _ _ _ _ _ us hl => match us, hl with | [_], _ => rfl) (fun vs H Q E h => ?_) (fun f cdv A outer s H vs Q E hr h => ?_)
    · obtain ⟨x, p, rfl, _⟩ := h
      rfl
    obtain ⟨x, p, rfl, hx, hh, q⟩ := h
    refine ⟨_, (pss_one (ps_ret (pe_op op_add pe_int (pe_callB (VK.maxL (K := K) rfl rfl) (by rfl) z_max (by decide +kernel) (pa_cons (pe_op op_cat (pe_lst (pa_cons pe_int pa_nil)) (pe_lc (own := [("part", 1)]) (tt := tYes) rfl sc__law_tall.nd (pi_list (C8.pe_c c__law_inside hr (by first | decide | omega) rfl (pa_cons (pv 0) pa_nil))) (blkOk_by (N := ["process", "part"]) (sc := defScope s__law_tall) (by decide +kernel)) (fun _ _ _ _ _ => (pg_name (i := 1) sc__law_tall.nd rfl (Or.inl rfl))) (fun _ _ _ _ _ => pts_nil) (fun _ _ _ _ _ => (C8.pe_c c__law_tall hr (by first | decide | omega) rfl (pa_cons (pv 1) pa_nil))))) pa_nil))))), ?_⟩
    have zl := sizeLine_eq
    refine ⟨(by show 1 ≤ sizeLine; omega), fun l0 n0 => ?_⟩
    have s0 := same_upd n0 (.lst [.int 0])
    refine ⟨_, rfl, x, p, rfl, dp_kp (Kp.of s0) hx, fun l us H1 s1 hl hk => ?_⟩
    refine ⟨l, rfl, ⟨_, SqL.of hl⟩, fun D1 nD => ?_⟩
    have sD := (s0.trans s1).free nD
    have hlen := VB.DpAll.len hk
    rw [List.length_map] at hlen
    have k2 := kids_two p
    refine lc_list (K := K) (a := l) (xs := us)
      (fun i H' => Same H1 (upd H1 D1 (.lst [])) ∧ (∀ b o, b ≠ D1 → H1 b = some o → H' b = some o) ∧ H' D1 = some (.lst (((kids p).take i).map fun q => V.int ((ht q : Nat) : Int))))
      ⟨same_upd nD _, fun b o nb hb => by rw [upd_ne nb]; exact hb, upd_same⟩ (fun i H' _ z => SqL.of (z.2.1 l _ (ne_of_none hl nD) hl)) ?_ ?_
    · rintro i y H' hy ⟨_, kp, hD⟩
      obtain ⟨qq, hq, hv⟩ := DpAll_get hk hy
      have hqm : qq ∈ kids p := List.mem_of_getElem? hq
      refine ⟨rfl, ?_⟩
      unfold tYes
      refine iteT ?_
      have kpp : Kp H1 H' := ⟨fun b xs z => kp b _ (ne_of_none z nD) z, fun b o u z => kp b _ (ne_of_none z nD) z⟩
      refine ⟨_, rfl, y, qq, rfl, dp_kp kpp hv, Nat.lt_of_lt_of_le (kid_ht hqm) (Nat.le_of_lt_succ hh), fun H4 s4 => ?_⟩
      refine ⟨_, s4 _ _ hD, ?_, same_upd nD _, fun b o nb hb => ?_, ?_⟩
      · rw [List.length_map, List.length_take]
        omega
      · rw [upd_ne nb]
        exact s4 b o (kp b o nb hb)
      · rw [upd_same, List.take_add_one, hq, List.map_append] <;> rfl
    · rintro H' ⟨_, kp, hD⟩
      rw [hlen, List.take_length] at hD
      have h0 : H' l0 = some (.lst [.int 0]) := kp l0 _ (ne_of_none (s1 l0 _ upd_same) nD) (s1 l0 _ upd_same)
      refine ⟨l0, D1, _, _, rfl, rfl, h0, hD, ?_, fun t nt => ?_⟩
      · rw [List.length_map]
        show 1 + (kids p).length ≤ sizeLine
        omega
      have eM : ([V.int 0] ++ (kids p).map (fun q => V.int ((ht q : Nat) : Int))) = ((0 : Int) :: (kids p).map fun q => ((ht q : Nat) : Int)).map V.int := by
        rw [List.map_cons, List.map_map] <;> rfl
      refine ⟨t, (0 : Int) :: (kids p).map fun q => ((ht q : Nat) : Int), rfl, SqL.of (by rw [upd_same, eM]), Nat.succ_pos _, fun m m1 m2 => ?_⟩
      refine ⟨_, _, rfl, rfl, ?_⟩
      show Q (.int (1 + m)) _
      rw [ht_max p m m1 m2]
      refine q _ (fun b o hb => ?_)
      have hb1 := (s0.trans s1) b o hb
      have hb2 := kp b o (ne_of_none hb sD) hb1
      rw [upd_ne (ne_of_none hb2 nt)]
      exact hb2
/-- the names in a process, each once, in order -/
def refs : Pc → List Str
  | .name x => [x]
  | .pre _ p => refs p
  | .hide _ p => refs p
  | .ren _ p => refs p
  | .par _ p q => refs p ++ refs q
  | .bin _ p q => refs p ++ refs q
  | _ => []
def named : Pc → List Str
  | .name x => [x]
  | .pre _ p => (onceS [] (named p)).mergeSort VS.leS
  | .hide _ p => (onceS [] (named p)).mergeSort VS.leS
  | .ren _ p => (onceS [] (named p)).mergeSort VS.leS
  | .par _ p q => (onceS [] (named p ++ named q)).mergeSort VS.leS
  | .bin _ p q => (onceS [] (named p ++ named q)).mergeSort VS.leS
  | _ => []
theorem named_mem (x : Str) : ∀ p : Pc, x ∈ named p ↔ x ∈ refs p
  | .name y => Iff.rfl
  | .stop => Iff.rfl
  | .skip => Iff.rfl
  | .pre _ p => by simp only [named, refs, List.mem_mergeSort, onceS_mem, List.not_mem_nil, false_or]; exact named_mem x p
  | .hide _ p => by simp only [named, refs, List.mem_mergeSort, onceS_mem, List.not_mem_nil, false_or]; exact named_mem x p
  | .ren _ p => by simp only [named, refs, List.mem_mergeSort, onceS_mem, List.not_mem_nil, false_or]; exact named_mem x p
  | .par _ p q => by simp only [named, refs, List.mem_mergeSort, onceS_mem, List.not_mem_nil, false_or, List.mem_append, named_mem x p, named_mem x q]
  | .bin _ p q => by simp only [named, refs, List.mem_mergeSort, onceS_mem, List.not_mem_nil, false_or, List.mem_append, named_mem x p, named_mem x q]
theorem sorted_once (xs : List Str) : ((onceS [] xs).mergeSort VS.leS).Nodup ∧ ((onceS [] xs).mergeSort VS.leS).Pairwise (fun a b => VS.leS a b = true) :=
  ⟨(List.mergeSort_perm _ _).nodup_iff.mpr (onceS_nodup xs [] List.nodup_nil), List.pairwise_mergeSort leS_trans leS_total _⟩
theorem named_ok : ∀ p : Pc, (named p).Nodup ∧ (named p).Pairwise (fun a b => VS.leS a b = true)
  | .name x => ⟨by simp [named], by simp [named]⟩
  | .stop => ⟨List.nodup_nil, List.Pairwise.nil⟩
  | .skip => ⟨List.nodup_nil, List.Pairwise.nil⟩
  | .pre _ p => sorted_once _
  | .hide _ p => sorted_once _
  | .ren _ p => sorted_once _
  | .par _ p q => sorted_once _
  | .bin _ p q => sorted_once _
theorem named_len : ∀ p : Pc, (named p).length ≤ nodes p
  | .name x => Nat.le_refl _
  | .stop => Nat.zero_le _
  | .skip => Nat.zero_le _
  | .pre _ p => by have z := named_len p; have y := onceS_len (named p); show ((onceS [] (named p)).mergeSort VS.leS).length ≤ nodes p + 1; rw [List.length_mergeSort]; omega
  | .hide _ p => by have z := named_len p; have y := onceS_len (named p); show ((onceS [] (named p)).mergeSort VS.leS).length ≤ nodes p + 1; rw [List.length_mergeSort]; omega
  | .ren _ p => by have z := named_len p; have y := onceS_len (named p); show ((onceS [] (named p)).mergeSort VS.leS).length ≤ nodes p + 1; rw [List.length_mergeSort]; omega
  | .par _ p q => by
    have z := named_len p; have z2 := named_len q; have y := onceS_len (named p ++ named q)
    show ((onceS [] (named p ++ named q)).mergeSort VS.leS).length ≤ nodes p + nodes q + 1
    rw [List.length_mergeSort]; rw [List.length_append] at y; omega
  | .bin _ p q => by
    have z := named_len p; have z2 := named_len q; have y := onceS_len (named p ++ named q)
    show ((onceS [] (named p ++ named q)).mergeSort VS.leS).length ≤ nodes p + nodes q + 1
    rw [List.length_mergeSort]; rw [List.length_append] at y; omega
/-- any list of these names without repetition sorts to this -/
theorem sort_named {p : Pc} {ss : List Str} (nd : ss.Nodup) (hm : ∀ x, x ∈ ss ↔ x ∈ refs p) : ss.mergeSort VS.leS = named p := by
  have h1 := List.pairwise_mergeSort (le := VS.leS) leS_trans leS_total ss
  have nd1 : (ss.mergeSort VS.leS).Nodup := (List.mergeSort_perm _ _).nodup_iff.mpr nd
  have pm : (ss.mergeSort VS.leS).Perm (named p) := (List.perm_ext_iff_of_nodup nd1 (named_ok p).1).mpr fun x => by rw [List.mem_mergeSort, hm, named_mem]
  exact pm.eq_of_pairwise (fun a b _ _ x y => leS_anti x y) h1 (named_ok p).2
/-- what the loop over the parts gathers -/
def gath (p : Pc) (i : Nat) : List Str := ((kids p).take i).flatMap named
theorem named_gath {p : Pc} (h : ∀ x, p ≠ .name x) : (onceS [] (gath p (kids p).length)).mergeSort VS.leS = named p := by
  unfold gath
  rw [List.take_length]
  cases p with
  | name x => exact absurd rfl (h x)
  | stop => simp [kids, onceS, named]
  | skip => simp [kids, onceS, named]
  | pre e q => simp [kids, named]
  | hide e q => simp [kids, named]
  | ren e q => simp [kids, named]
  | par e q r => simp [kids, named]
  | bin e q r => simp [kids, named]
theorem gath_len (p : Pc) (i : Nat) : (gath p i).length ≤ nodes p := by
  unfold gath
  have e : ∀ l : List Pc, (l.flatMap named).length ≤ (l.map nodes).sum := by
    intro l
    induction l with
    | nil => exact Nat.le_refl _
    | cons q l ih => rw [List.flatMap_cons, List.length_append, List.map_cons, List.sum_cons]; have z := named_len q; omega
  have s : ∀ i, (((kids p).take i).map nodes).sum ≤ ((kids p).map nodes).sum := by
    intro i
    have z : (kids p).map nodes = ((kids p).take i).map nodes ++ ((kids p).drop i).map nodes := by rw [← List.map_append, List.take_append_drop]
    rw [z, List.sum_append]
    omega
  have t : ((kids p).map nodes).sum ≤ nodes p := by
    cases p <;> simp [kids, nodes] <;> omega
  exact Nat.le_trans (e _) (Nat.le_trans (s i) t)
theorem kid_nodes {p q : Pc} (h : q ∈ kids p) : nodes q ≤ nodes p := by
  cases p with
  | par e r r' =>
    rcases List.mem_cons.mp h with z | z
    · rw [z]; show nodes r ≤ nodes r + nodes r' + 1; omega
    · rw [List.mem_singleton.mp z]; show nodes r' ≤ nodes r + nodes r' + 1; omega
  | bin e r r' =>
    rcases List.mem_cons.mp h with z | z
    · rw [z]; show nodes r ≤ nodes r + nodes r' + 1; omega
    · rw [List.mem_singleton.mp z]; show nodes r' ≤ nodes r + nodes r' + 1; omega
  | pre e r => rw [List.mem_singleton.mp h]; show nodes r ≤ nodes r + 1; omega
  | hide e r => rw [List.mem_singleton.mp h]; show nodes r ≤ nodes r + 1; omega
  | ren e r => rw [List.mem_singleton.mp h]; show nodes r ≤ nodes r + 1; omega
  | _ => cases h
def isName : Pc → Bool
  | .name _ => true
  | _ => false
theorem kind_name (p : Pc) : decide (V.str (kindOf p) = V.str "name") = isName p := by
  cases p with
  | bin k q r => cases k <;> rfl
  | _ => rfl
def spNamed (K : PySem.W.Frag) (n : Nat) : Sp := fun vs H Q _ => ∃ (x : V) (p : Pc), vs = [x] ∧ Dp K H x (toD p) ∧ ht p < n ∧ nodes p ≤ 10000 ∧
  ∀ (l : Addr) (H' : Hp), Same H H' → H l = none → H' l = some (.lst ((named p).map V.str)) → Q (.ref l) H'
theorem c_named (D : Df K mg "_law_named" s__law_named) (z_sorted : mg "sorted" = none) (c__law_inside : C8.Cal P w K mg base 1 "_law_inside" (spInside K) [])
    (c__law_once : C8.Cal P w K mg base 1 "_law_once" (spOnce K) []) :
    ∀ n : Nat, C8.Cal P w K mg base (2 + n) "_law_named" (spNamed K n) [] := by
  intro n
  induction n with
  | zero =>
    have e0 : C8.Cal P w K mg base 0 "_law_named" (spNamed K 0) [] := calNone D (ps := ["process"]) (fun _ _ _ _ _ _ us hl => match us, hl with | [_], _ => rfl) fun vs H Q E ⟨_, _, _, _, z, _⟩ => Nat.not_lt_zero _ z
    exact calMono e0 (by omega)
  | succ n c__law_named =>
    rw [show 2 + (n + 1) = (2 + n) + 1 by omega]
    refine D.cal sc__law_named (fun _ _ _ _ _ _ us hl => match us, hl with | [_], _ => rfl) (fun vs H Q E h => ?_) (fun f cdv A outer s H vs Q E hr h => ?_)
    · obtain ⟨x, p, rfl, _⟩ := h
      rfl
    obtain ⟨x, p, rfl, hx, hh, hn, q⟩ := h
    obtain ⟨t, us, rfl, hT, hs⟩ := shape p hx
    refine ⟨_, (pss_cons (ps_if (pt_cmpR op_eq (pe_ix (VK.ixT (K := K) rfl) (pv 0) pe_int (fun _ _ => rfl)) pe_str (nomark _))
      (pss_one (ps_ret (pe_lst (pa_cons (pe_ix (VK.ixT (K := K) rfl) (pv 0) pe_int (fun _ _ => rfl)) pa_nil))))
      pss_nil)
    (pss_cons (ps_set (i := 1) sc__law_named.nd rfl (Or.inl rfl) (pe_lst pa_nil))
    (pss_cons (ps_for PassesOwn.never rfl (pi_list (C8.pe_c c__law_inside hr (by first | decide | omega) rfl (pa_cons (pv 0) pa_nil))) (pg_name (i := 2) sc__law_named.nd rfl (Or.inl rfl))
      (pss_one (ps_set (i := 1) sc__law_named.nd rfl (Or.inl rfl) (pe_op op_cat (pv 1) (C8.pe_c c__law_named hr (by first | decide | omega) rfl (pa_cons (pv 2) pa_nil))))))
    (pss_one (ps_ret (pe_callB (VK.sortedS (K := K) rfl hr) (by rfl) z_sorted (by decide +kernel) (pa_cons (C8.pe_c c__law_once hr (by first | decide | omega) rfl (pa_cons (pv 1) pa_nil)) pa_nil))))))), ?_⟩
    have zl := sizeLine_eq
    refine ⟨_, rfl, t, _, _, _, rfl, rfl, hT, at0 _ _, rfl, _, rfl, ?_⟩
    rw [kind_name]
    by_cases hne : ∃ y, p = .name y
    · obtain ⟨y, rfl⟩ := hne
      obtain rfl := hs
      refine iteT ?_
      refine ⟨_, rfl, t, _, _, _, rfl, rfl, hT, rfl, (by show 1 ≤ sizeLine; omega), fun l nl => ?_⟩
      exact q l _ (same_upd nl _) nl upd_same
    have hne2 : ∀ y, p ≠ .name y := fun y z => hne ⟨y, z⟩
    have ef : isName p = false := by
      cases p <;> first | rfl | exact absurd rfl (hne2 _)
    rw [ef]
    refine iteF ?_
    refine ⟨Nat.zero_le _, fun l0 n0 => ?_⟩
    have s0 := same_upd n0 (.lst [])
    refine ⟨_, rfl, .ref t, p, rfl, dp_kp (Kp.of s0) hx, fun lk ks H1 s1 hl hk => ?_⟩
    have s01 := s0.trans s1
    have hlen := VB.DpAll.len hk
    rw [List.length_map] at hlen
    refine ⟨lk, rfl, ⟨_, SqL.of hl⟩, for_list (K := K) (a := lk) (xs := ks)
      (fun i σ H' => ∃ (L : Addr) (rr : Option V), σ = [some (.ref t), some (.ref L), rr] ∧ Same H H' ∧ Same H1 H' ∧ H' L = some (.lst ((gath p i).map V.str)))
      ⟨l0, none, rfl, s01, Same.refl _, s1 _ _ upd_same⟩ (fun i σ H' _ ⟨_, _, _, _, z, _⟩ => z.seq (SqL.of hl)) ?_ ?_⟩
    · rintro i y σ H' hy ⟨L, rr, rfl, sH, sH1, hL⟩
      obtain ⟨qq, hq, hv⟩ := DpAll_get hk hy
      have hqm : qq ∈ kids p := List.mem_of_getElem? hq
      refine ⟨_, rfl, _, rfl, y, qq, rfl, dp_kp (Kp.of sH1) hv, Nat.lt_of_lt_of_le (kid_ht hqm) (Nat.le_of_lt_succ hh), Nat.le_trans (kid_nodes hqm) hn, fun l4 H4 s4 _ h4 => ?_⟩
      have g1 := gath_len p i
      have g2 := named_len qq
      have g3 := kid_nodes hqm
      refine ⟨L, l4, _, _, rfl, rfl, s4 _ _ hL, h4, ?_, fun l5 n5 => ?_⟩
      · rw [List.length_map, List.length_map]
        omega
      have s5 := same_upd n5 (.lst ((gath p i).map V.str ++ (named qq).map V.str))
      refine ⟨l5, _, rfl, (sH.trans s4).trans s5, (sH1.trans s4).trans s5, ?_⟩
      have eg : gath p (i + 1) = gath p i ++ named qq := by
        unfold gath
        rw [List.take_add_one, hq, List.flatMap_append]
        simp
      rw [upd_same, eg, List.map_append]
    · rintro σ H' ⟨L, rr, rfl, sH, sH1, hL⟩
      rw [hlen] at hL
      have g1 := gath_len p (kids p).length
      refine ⟨_, rfl, L, _, rfl, SqL.of hL, by omega, fun l6 n6 => ?_⟩
      have s6 := same_upd n6 (.lst ((onceS [] (gath p (kids p).length)).map V.str))
      refine ⟨l6, _, rfl, SqL.of upd_same, fun l7 n7 => ?_⟩
      rw [named_gath hne2]
      have s7 := same_upd n7 (.lst ((named p).map V.str))
      exact q l7 _ ((sH.trans s6).trans s7) ((sH.trans s6).free n7) upd_same
end
end LW

set_option Elab.async false
set_option linter.all false
set_option maxRecDepth 100000
set_option maxHeartbeats 4000000
namespace LW
open PySem PySem.Spec PyProof.Rows L2 LamX NdefX VB
abbrev s_has_form : Stmt := top 9
theorem sc_has_form : FnScope ["word", "firsts", "signs", "sign"] ["word", "firsts", "signs"] (defScope s_has_form) := ⟨rfl, rfl, rfl, by decide +kernel, rfl, by decide +kernel, by decide +kernel⟩
abbrev s_is_event : Stmt := top 7
theorem sc_is_event : FnScope ["word"] ["word"] (defScope s_is_event) := ⟨rfl, rfl, rfl, by decide +kernel, rfl, by decide +kernel, by decide +kernel⟩
abbrev s_is_name : Stmt := top 8
theorem sc_is_name : FnScope ["word"] ["word"] (defScope s_is_name) := ⟨rfl, rfl, rfl, by decide +kernel, rfl, by decide +kernel, by decide +kernel⟩
abbrev s_parts : Stmt := top 10
theorem sc_parts : FnScope ["process"] ["process"] (defScope s_parts) := ⟨rfl, rfl, rfl, by decide +kernel, rfl, by decide +kernel, by decide +kernel⟩
/-- the form of a name: its first sign, its signs, its length -/
def hasForm (f g : List Nat) : List Nat → Bool
  | [] => false
  | c :: r => decide ((c :: r).length ≤ 12) && (decide (c ∈ f) && (c :: r).all fun d => decide (d ∈ g))
theorem hasForm_cons (f g : List Nat) (c : Nat) (r : List Nat) : hasForm f g (c :: r) = (decide ((c :: r).length ≤ 12) && (decide (c ∈ f) && (c :: r).all fun d => decide (d ∈ g))) := rfl
section
variable {P : Program} {w : World} {K : PySem.W.Frag} {mg : Str → Option Value} {base : Heap}
def spForm : Sp := fun vs H Q _ => ∃ (x f g : Str), vs = [.str x, .str f, .str g] ∧ x.length ≤ 1000 ∧
  ∀ H', Same H H' → Q (.bl (hasForm f.cps.toList g.cps.toList x.cps.toList)) H'
theorem len_codes (x : Str) : x.length = x.cps.toList.length := by
  rw [Array.length_toList] <;> rfl
theorem c_form (D : Df K mg "has_form" s_has_form) (z_len : mg "len" = none) (z_all : mg "all" = none) (g_LONGEST_NAME : ∃ u, mg "LONGEST_NAME" = some u ∧ RelV (.int 12) u) :
    C8.Cal P w K mg base 1 "has_form" spForm [] := by
  refine D.cal sc_has_form (fun _ _ _ _ _ _ us hl => match us, hl with | [_, _, _], _ => rfl) (fun vs H Q E h => ?_) (fun f cdv A outer s H vs Q E hr h => ?_)
  · obtain ⟨x, f, g, rfl, _⟩ := h
    rfl
  obtain ⟨x, fs, gs, rfl, hx, q⟩ := h
  refine ⟨_, (pss_cons (ps_if (pt_not (pt_chain op_le op_le pe_int (pe_callB call_len_str (by rfl) z_len PySem.boot_len (pa_cons (pv 0) pa_nil)) (C8.pe_gc rfl g_LONGEST_NAME)))
      (pss_one (ps_ret pe_bl))
      pss_nil)
    (pss_one (ps_ret (pe_and (pe_cmpR op_in_sign (pe_ix ix_str (pv 0) pe_int (fun _ _ => rfl)) (pv 1) rfl) (pe_one (pe_callB (VK.allL (K := K) rfl rfl) (by rfl) z_all (by decide +kernel) (pa_cons (pe_lc (own := [("sign", 3)]) (tt := tYes) rfl sc_has_form.nd (pi_str (pv 0)) (blkOk_by (N := ["word", "firsts", "signs", "sign"]) (sc := defScope s_has_form) (by decide +kernel)) (fun _ _ _ _ _ => (pg_name (i := 3) sc_has_form.nd rfl (Or.inl rfl))) (fun _ _ _ _ _ => pts_nil) (fun _ _ _ _ _ => (pe_cmpR op_in_sign (pv 3) (pv 2) rfl))) pa_nil))))))), ?_⟩
  have zl := sizeLine_eq
  have el := len_codes x
  refine ⟨_, rfl, _, rfl, by omega, _, _, rfl, rfl, _, rfl, ?_⟩
  refine ite2 (fun c1 => ?_) (fun c1 => ?_)
  · have c1' : (1 : Int) ≤ (x.length : Int) := of_decide_eq_true c1
    refine ⟨_, _, rfl, rfl, _, rfl, ?_⟩
    by_cases c2 : ((x.length : Nat) : Int) ≤ 12
    · rw [decide_eq_true c2]
      refine iteF ?_
      -- the codes
      obtain ⟨c, r, er⟩ : ∃ c r, x.cps.toList = c :: r := by
        cases e : x.cps.toList with
        | nil => rw [e] at el; exact absurd c1' (by rw [el]; decide)
        | cons c r => exact ⟨c, r, rfl⟩
      have e0 : atI x.cps.toList 0 = some c := by rw [er]; exact atI_nat (xs := c :: r) (j := 0) rfl
      refine ⟨_, rfl, _, _, c, rfl, rfl, by omega, e0, _, rfl, _, _, rfl, rfl, _, rfl, ?_⟩
      have e12 : decide ((c :: r).length ≤ 12) = true := decide_eq_true (by rw [← er, ← el]; omega)
      refine ite2 (fun c3 => ?_) (fun c3 => ?_)
      · refine ⟨_, rfl, _, rfl, fun D1 nD => ?_⟩
        have sz : x.cps.size = (c :: r).length := by rw [← Array.length_toList, er]
        refine lc_it walk_str (fun i H' => Same H H' ∧ H' D1 = some (.lst ((((c :: r).take i).map fun d => decide (d ∈ gs.cps.toList)).map V.bl))) ⟨same_upd nD _, upd_same⟩ (fun _ _ _ _ => trivial) ?_ ?_
        · rintro i y H1 H' hi ⟨s1, hD⟩ ⟨rfl, d, hd, rfl⟩
          have hd2 : (c :: r)[i]? = some d := by rw [← er, Array.getElem?_toList]; exact hd
          refine ⟨rfl, ?_⟩
          unfold tYes
          refine iteT ?_
          refine ⟨_, rfl, _, rfl, d, _, rfl, rfl, ?_⟩
          refine ⟨_, hD, ?_, sameIn s1 nD, ?_⟩
          · have ell : (c :: r).length ≤ 1000 := by rw [← er, ← el]; exact hx
            rw [List.length_map, List.length_map, List.length_take]
            omega
          · rw [upd_same, List.take_add_one, hd2, List.map_append, List.map_append] <;> rfl
        · rintro H' ⟨s1, hD⟩
          rw [sz, List.take_length] at hD
          refine ⟨D1, _, rfl, SqL.of hD, ?_⟩
          have z := q H' s1
          rw [er] at z
          have e : hasForm fs.cps.toList gs.cps.toList (c :: r) = ((c :: r).map fun d => decide (d ∈ gs.cps.toList)).all id := by
            rw [hasForm_cons]
            rw [e12, c3, List.all_map] <;> rfl
          rw [e] at z
          exact z
      · have z := q H (Same.refl H)
        rw [er] at z
        have e : hasForm fs.cps.toList gs.cps.toList (c :: r) = false := by
          rw [hasForm_cons]
          rw [e12, Bool.eq_false_iff.mpr c3] <;> rfl
        rw [e] at z
        exact z
    · rw [decide_eq_false c2]
      refine iteT ?_
      have z := q H (Same.refl H)
      have e : hasForm fs.cps.toList gs.cps.toList x.cps.toList = false := by
        cases e : x.cps.toList with
        | nil => rfl
        | cons c r =>
          rw [hasForm_cons]
          rw [decide_eq_false (show ¬ (c :: r).length ≤ 12 by rw [← e, ← el]; omega)] <;> rfl
      rw [e] at z
      exact z
  · have c1' : ¬ (1 : Int) ≤ (x.length : Int) := fun z => c1 (decide_eq_true z)
    refine ⟨_, rfl, iteT ?_⟩
    have z := q H (Same.refl H)
    have e : hasForm fs.cps.toList gs.cps.toList x.cps.toList = false := by
      cases e : x.cps.toList with
      | nil => rfl
      | cons c r => rw [e] at el; rw [List.length_cons] at el; omega
    rw [e] at z
    exact z
abbrev LOW : Str := "abcdefghijklmnopqrstuvwxyz"
abbrev UPP : Str := "ABCDEFGHIJKLMNOPQRSTUVWXYZ"
abbrev DIG : Str := "0123456789"
abbrev noEv : List Str := ["stop", "skip", "tau", "tick", "true", "loops"]
def isEvent (x : Str) : Bool := hasForm LOW.cps.toList (LOW ++ DIG).cps.toList x.cps.toList && !decide (x ∈ noEv)
def isPName (x : Str) : Bool := hasForm UPP.cps.toList (UPP ++ LOW ++ DIG).cps.toList x.cps.toList
def spTest (t : Str → Bool) : Sp := fun vs H Q _ => ∃ (x : Str), vs = [.str x] ∧ x.length ≤ 1000 ∧ ∀ H', Same H H' → Q (.bl (t x)) H'
theorem c_event {na : Addr} (D : Df K mg "is_event" s_is_event) (g_LOWER : ∃ u, mg "LOWER" = some u ∧ RelV (.str LOW) u) (g_DIGITS : ∃ u, mg "DIGITS" = some u ∧ RelV (.str DIG) u)
    (g_NO_EVENTS : ∃ u, mg "NO_EVENTS" = some u ∧ RelV (.ref na) u) (hNE : ∀ H, SqT K H na (noEv.map V.str)) (c_has_form : C8.Cal P w K mg base 1 "has_form" spForm []) :
    C8.Cal P w K mg base 2 "is_event" (spTest isEvent) [] := by
  refine D.cal sc_is_event (fun _ _ _ _ _ _ us hl => match us, hl with | [_], _ => rfl) (fun vs H Q E h => ?_) (fun f cdv A outer s H vs Q E hr h => ?_)
  · obtain ⟨x, rfl, _⟩ := h
    rfl
  obtain ⟨x, rfl, hx, q⟩ := h
  refine ⟨_, (pss_one (ps_ret (pe_and (C8.pe_c c_has_form hr (by first | decide | omega) rfl (pa_cons (pv 0) (pa_cons (C8.pe_gc rfl g_LOWER) (pa_cons (pe_op op_add_str (C8.pe_gc rfl g_LOWER) (C8.pe_gc rfl g_DIGITS)) pa_nil)))) (pe_one (pe_cmpR (VK.notInQ (K := K) rfl) (pv 0) (C8.pe_gc rfl g_NO_EVENTS) rfl))))), ?_⟩
  refine ⟨_, rfl, _, _, rfl, rfl, (by decide), x, LOW, LOW ++ DIG, rfl, hx, fun H1 s1 => ?_⟩
  refine ⟨_, rfl, ?_⟩
  have z := q H1 s1
  unfold isEvent at z
  refine ite2 (fun c => ?_) (fun c => ?_)
  · refine ⟨_, rfl, na, _, rfl, .inr (hNE H1), rfl, rfl, ?_⟩
    rw [c, Bool.true_and] at z
    show Q (.bl (!inV (.str x) (noEv.map V.str))) H1
    rw [inV_strs]
    exact z
  · rw [Bool.eq_false_iff.mpr c, Bool.false_and] at z
    exact z
theorem c_pname (D : Df K mg "is_name" s_is_name) (g_LOWER : ∃ u, mg "LOWER" = some u ∧ RelV (.str LOW) u) (g_UPPER : ∃ u, mg "UPPER" = some u ∧ RelV (.str UPP) u) (g_DIGITS : ∃ u, mg "DIGITS" = some u ∧ RelV (.str DIG) u)
    (c_has_form : C8.Cal P w K mg base 1 "has_form" spForm []) : C8.Cal P w K mg base 2 "is_name" (spTest isPName) [] := by
  refine D.cal sc_is_name (fun _ _ _ _ _ _ us hl => match us, hl with | [_], _ => rfl) (fun vs H Q E h => ?_) (fun f cdv A outer s H vs Q E hr h => ?_)
  · obtain ⟨x, rfl, _⟩ := h
    rfl
  obtain ⟨x, rfl, hx, q⟩ := h
  refine ⟨_, (pss_one (ps_ret (C8.pe_c c_has_form hr (by first | decide | omega) rfl (pa_cons (pv 0) (pa_cons (C8.pe_gc rfl g_UPPER) (pa_cons (pe_op op_add_str (pe_op op_add_str (C8.pe_gc rfl g_UPPER) (C8.pe_gc rfl g_LOWER)) (C8.pe_gc rfl g_DIGITS)) pa_nil)))))), ?_⟩
  exact ⟨_, rfl, _, _, rfl, rfl, (by decide), _, _, rfl, rfl, (by decide), x, UPP, UPP ++ LOW ++ DIG, rfl, hx, fun H1 s1 => q H1 s1⟩
/-- where the parts of a tuple begin -/
def firstOf : Pc → Nat
  | .stop => 1
  | .skip => 1
  | .name _ => 2
  | .pre _ _ => 2
  | .hide _ _ => 2
  | .ren _ _ => 2
  | .par _ _ _ => 2
  | .bin _ _ _ => 1
def FirstTab (K : PySem.W.Frag) (w : World) (fa : Addr) : Prop := ∀ p : Pc, KDct K w fa (kindOf p) (.int (firstOf p : Nat))
def spParts (K : PySem.W.Frag) : Sp := fun vs H Q _ => ∃ (x : V) (p : Pc), vs = [x] ∧ Dp K H x (toD p) ∧
  ∀ (r : Addr) (us : List V) (H' : Hp), Same H H' → SqT K H' r us → DpAll K H' us ((kids p).map toD) → Q (.ref r) H'
theorem f_parts {f fa : Addr} {fd : FuncData} (F : FnP K "parts" s_parts f fd) (g_FIRST_PART : ∃ u, mg "FIRST_PART" = some u ∧ RelV (.ref fa) u) (tab : FirstTab K w fa) :
    FnOk P w K mg base CX0 1 f fd ["process"] (spParts K) := by
  refine F.ok sc_parts (fun vs H Q E h => ?_) (fun cdv A outer s H vs Q E hr h => ?_)
  · obtain ⟨x, p, rfl, _⟩ := h
    rfl
  obtain ⟨x, p, rfl, hx, q⟩ := h
  obtain ⟨t, us, rfl, hT, hs⟩ := shape p hx
  suffices hh : ∃ t0, PSs (cxOf CX0 P w K mg base ["process"] "parts" (defScope s_parts) f cdv A outer s H E).nox (defBody s_parts) t0 ∧ t0 { nx := fun _ H' => Q .non H', rt := Q } (start ["process"] [.ref t]) H by
    obtain ⟨t0, a, b⟩ := hh
    exact ⟨t0, a.nox, b⟩
  refine ⟨_, (pss_one (ps_ret (pe_slice (VK.slT (K := K) rfl) (pv 0) (po_some (pe_ix ix_kdict (C8.pe_gc rfl g_FIRST_PART) (pe_ix (VK.ixT (K := K) rfl) (pv 0) pe_int (fun _ _ => rfl)) (fun _ _ => rfl))) po_none))), ?_⟩
  refine ⟨_, rfl, _, rfl, t, _, _, _, rfl, rfl, hT, at0 _ _, fa, _, _, rfl, rfl, tab p, _, rfl, t, _, rfl, hT, ?_⟩
  cases p with
  | stop => obtain rfl := hs; exact ⟨by decide, fun r nr => q r [] _ (same_upd nr _) (.inl (.inl upd_same)) .nil⟩
  | skip => obtain rfl := hs; exact ⟨by decide, fun r nr => q r [] _ (same_upd nr _) (.inl (.inl upd_same)) .nil⟩
  | name y => obtain rfl := hs; exact ⟨fun z => absurd (show (2 : Nat) = 0 from z.1) (by decide), fun r nr => q r [] _ (same_upd nr _) (.inl (.inl upd_same)) .nil⟩
  | pre e p1 =>
    obtain ⟨v, rfl, hv⟩ := hs
    exact ⟨fun z => absurd (show (2 : Nat) = 0 from z.1) (by decide), fun r nr => q r [v] _ (same_upd nr _) (.inl (.inl upd_same)) (.cons (dp_kp (Kp.updN nr _) hv) .nil)⟩
  | hide es p1 =>
    obtain ⟨u, v, rfl, _, hv⟩ := hs
    exact ⟨fun z => absurd (show (2 : Nat) = 0 from z.1) (by decide), fun r nr => q r [v] _ (same_upd nr _) (.inl (.inl upd_same)) (.cons (dp_kp (Kp.updN nr _) hv) .nil)⟩
  | ren es p1 =>
    obtain ⟨u, v, rfl, _, hv⟩ := hs
    exact ⟨fun z => absurd (show (2 : Nat) = 0 from z.1) (by decide), fun r nr => q r [v] _ (same_upd nr _) (.inl (.inl upd_same)) (.cons (dp_kp (Kp.updN nr _) hv) .nil)⟩
  | par es p1 p2 =>
    obtain ⟨u, v, z, rfl, _, hv, hz⟩ := hs
    exact ⟨fun z => absurd (show (2 : Nat) = 0 from z.1) (by decide), fun r nr => q r [v, z] _ (same_upd nr _) (.inl (.inl upd_same)) (.cons (dp_kp (Kp.updN nr _) hv) (.cons (dp_kp (Kp.updN nr _) hz) .nil))⟩
  | bin k p1 p2 =>
    obtain ⟨v, z, rfl, hv, hz⟩ := hs
    exact ⟨fun z => absurd (show (1 : Nat) = 0 from z.1) (by decide), fun r nr => q r [v, z] _ (same_upd nr _) (.inl (.inl upd_same)) (.cons (dp_kp (Kp.updN nr _) hv) (.cons (dp_kp (Kp.updN nr _) hz) .nil))⟩
end
end LW

set_option Elab.async false
set_option linter.all false
set_option maxRecDepth 100000
set_option maxHeartbeats 4000000
namespace LW
open PySem PySem.Spec PyProof.Rows L2 LamX NdefX VB
abbrev s_fold : Stmt := top 11
theorem sc_fold : FnScope ["whole", "inner_of", "combine", "values", "pending", "place", "is_entered", "inner", "part", "start", "own"] ["whole", "inner_of", "combine"] (defScope s_fold) := ⟨rfl, rfl, rfl, by decide +kernel, rfl, by decide +kernel, by decide +kernel⟩
/-- all but lists stays -/
def NL (H H' : Hp) : Prop := ∀ b o, (∀ xs, o ≠ .lst xs) → H b = some o → H' b = some o
theorem NL.refl (H : Hp) : NL H H := fun _ _ _ h => h
theorem NL.trans {H H1 H2 : Hp} (x : NL H H1) (y : NL H1 H2) : NL H H2 := fun b o n h => y b o n (x b o n h)
theorem NL.of {H H' : Hp} (x : Same H H') : NL H H' := fun b o _ h => x b o h
theorem NL.updL {H : Hp} {a : Addr} {ys : List V} (h : H a = some (.lst ys)) (o : HO) : NL H (upd H a o) := fun b u n q => by
  rw [upd_ne (ne_of q h (n ys))]; exact q
theorem NL.kp {H H' : Hp} (x : NL H H') : Kp H H' := ⟨fun b xs h => x b _ (fun _ z => by cases z) h, fun b o u h => x b _ (fun _ z => by cases z) h⟩
/-- two lists, item by item -/
inductive All2 {α β : Type} (R : α → β → Prop) : List α → List β → Prop where
  | nil : All2 R [] []
  | cons {a : α} {b : β} {as : List α} {bs : List β} : R a b → All2 R as bs → All2 R (a :: as) (b :: bs)
namespace All2
variable {α β : Type} {R R' : α → β → Prop}
theorem len : ∀ {as : List α} {bs : List β}, All2 R as bs → as.length = bs.length
  | _, _, .nil => rfl
  | _, _, .cons _ t => congrArg Nat.succ (len t)
theorem mono (h : ∀ a b, R a b → R' a b) : ∀ {as : List α} {bs : List β}, All2 R as bs → All2 R' as bs
  | _, _, .nil => .nil
  | _, _, .cons x t => .cons (h _ _ x) (mono h t)
theorem app : ∀ {as cs : List α} {bs ds : List β}, All2 R as bs → All2 R cs ds → All2 R (as ++ cs) (bs ++ ds)
  | _, _, _, _, .nil, t => t
  | _, _, _, _, .cons x t, u => .cons x (app t u)
theorem snoc {as : List α} {bs : List β} {a : α} {b : β} (h : All2 R as bs) (x : R a b) : All2 R (as ++ [a]) (bs ++ [b]) := app h (.cons x .nil)
theorem unapp : ∀ {as cs : List α} {bs : List β}, All2 R (as ++ cs) bs → All2 R as (bs.take as.length) ∧ All2 R cs (bs.drop as.length)
  | [], _, _, h => ⟨by rw [List.length_nil, List.take_zero]; exact .nil, by rw [List.length_nil, List.drop_zero]; exact h⟩
  | a :: as, cs, _, .cons x t => by
    obtain ⟨h1, h2⟩ := unapp (as := as) t
    exact ⟨.cons x h1, h2⟩
theorem unsnoc {as : List α} {bs : List β} {a : α} (h : All2 R (as ++ [a]) bs) : ∃ bs' b, bs = bs' ++ [b] ∧ All2 R as bs' ∧ R a b := by
  obtain ⟨h1, h2⟩ := unapp h
  have e := List.take_append_drop as.length bs
  cases hd : bs.drop as.length with
  | nil => rw [hd] at h2; cases h2
  | cons b r =>
    rw [hd] at h2
    cases h2 with
    | cons x t =>
      cases t
      exact ⟨bs.take as.length, b, by rw [← hd, e], h1, x⟩
end All2
/-- what stands on the stack: weight, and what is still to come -/
def mu : List (Pc × Bool) → Nat
  | [] => 0
  | (p, false) :: r => 2 * nodes p + mu r
  | (_, true) :: r => 1 + mu r
def Good {α : Type} (val : Pc → α) (p0 : Pc) : List (Pc × Bool) → List α → Prop
  | [], as => as = [val p0]
  | (p, false) :: r, as => Good val p0 r (as ++ [val p])
  | (p, true) :: r, as => ∃ us, as = us ++ (kids p).map val ∧ Good val p0 r (us ++ [val p])
theorem nodes_pos : ∀ p : Pc, 1 ≤ nodes p := by
  intro p
  cases p <;> simp [nodes]
theorem mu_kids : ∀ (ks : List Pc) (r : List (Pc × Bool)), mu (ks.map (fun k => (k, false)) ++ r) = 2 * (ks.map nodes).sum + mu r
  | [], r => by simp
  | k :: ks, r => by
    rw [List.map_cons, List.cons_append, List.map_cons, List.sum_cons]
    show 2 * nodes k + mu (ks.map (fun k => (k, false)) ++ r) = _
    rw [mu_kids ks r]
    omega
theorem good_kids {α : Type} (val : Pc → α) (p0 : Pc) : ∀ (ks : List Pc) (r : List (Pc × Bool)) (as : List α), Good val p0 r (as ++ ks.map val) → Good val p0 (ks.map (fun k => (k, false)) ++ r) as
  | [], r, as, h => by simpa using h
  | k :: ks, r, as, h => by
    rw [List.map_cons, List.cons_append]
    show Good val p0 (ks.map (fun k => (k, false)) ++ r) (as ++ [val k])
    refine good_kids val p0 ks r _ ?_
    rw [List.append_assoc]
    exact h
theorem kids_sum (p : Pc) : ((kids p).map nodes).sum + 1 = nodes p := by
  cases p <;> simp [kids, nodes]
theorem len_mu : ∀ l : List (Pc × Bool), l.length ≤ mu l
  | [] => Nat.le_refl _
  | (p, false) :: r => by
    have z := len_mu r
    have y := nodes_pos p
    show r.length + 1 ≤ 2 * nodes p + mu r
    omega
  | (p, true) :: r => by
    have z := len_mu r
    show r.length + 1 ≤ 1 + mu r
    omega
theorem flat_kids : ∀ ks : List Pc, flatAll (ks.map toD) = true
  | [] => rfl
  | k :: ks => by simp only [List.map_cons, flatAll, flat_toD k, flat_kids ks, Bool.and_self]
section
variable {P : Program} {w : World} {K : PySem.W.Frag} {mg : Str → Option Value} {base : Heap}
/-- an entry of the stack -/
def StkR (K : PySem.W.Frag) (H : Hp) (e : Pc × Bool) (v : V) : Prop := ∃ (t : Addr) (u : V), v = .ref t ∧ SqT K H t [u, .bl e.2] ∧ Dp K H u (toD e.1)
theorem StkR.kp {H H' : Hp} (x : Kp H H') {e : Pc × Bool} {v : V} (h : StkR K H e v) : StkR K H' e v := by
  obtain ⟨t, u, h1, h2, h3⟩ := h
  exact ⟨t, u, h1, x.sqT h2, dp_kp x h3⟩
def spComb (K : PySem.W.Frag) {α : Type} (val : Pc → α) (W : Hp → α → V → Prop) : Sp := fun vs H Q _ => ∃ (x : V) (p : Pc) (l : Addr) (us : List V), vs = [x, .ref l] ∧ Dp K H x (toD p) ∧ H l = some (.lst us) ∧
  All2 (W H) ((kids p).map val) us ∧ ∀ (v : V) (H' : Hp), Same H H' → W H' (val p) v → Q v H'
def spFold (P : Program) (w : World) (K : PySem.W.Frag) (mg : Str → Option Value) (base : Heap) (kf : Nat) {α : Type} (val : Pc → α) (W : Hp → α → V → Prop) : Sp := fun vs H Q _ =>
  ∃ (x : V) (p : Pc) (g c : Addr) (φ : Hp → Prop), vs = [x, .ref g, .ref c] ∧ Dp K H x (toD p) ∧ nodes p ≤ 10000 ∧ VA.VCall P w K mg base kf g (fun _ => True) (spParts K) ∧
    VA.VCall P w K mg base kf c φ (spComb K val W) ∧ φ H ∧ (∀ H H', NL H H' → φ H → φ H') ∧ ∀ (v : V) (H' : Hp), Same H H' → W H' (val p) v → Q v H'
theorem c_fold {kf : Nat} {α : Type} (val : Pc → α) (W : Hp → α → V → Prop) (hW : ∀ H H' a v, NL H H' → W H a v → W H' a v) (D : Df K mg "fold" s_fold) (z_len : mg "len" = none) (z_reversed : mg "reversed" = none) :
    C8.Cal P w K mg base (kf + 1) "fold" (spFold P w K mg base kf val W) [] := by
  refine D.cal sc_fold (fun _ _ _ _ _ _ us hl => match us, hl with | [_, _, _], _ => rfl) (fun vs H Q E h => ?_) (fun f cdv A outer s H vs Q E hr h => ?_)
  · obtain ⟨x, p, g, c, φ, rfl, _⟩ := h
    rfl
  obtain ⟨x, p0, g, c, φ, rfl, hx, hn, vg, vc, hφ, sφ, q⟩ := h
  refine ⟨_, (pss_cons (ps_set (i := 3) sc_fold.nd rfl (Or.inl rfl) (pe_lst pa_nil))
    (pss_cons (ps_set (i := 4) sc_fold.nd rfl (Or.inl rfl) (pe_lst (pa_cons (pe_tup (pa_cons (pv 0) (pa_cons pe_bl pa_nil))) pa_nil)))
    (pss_cons (ps_while PassesOwn.never (pt_truth (pv 4) (by intro _; rfl))
      (pss_cons (ps_asg (pe_bm0 PySem.F.plainAttrs_list PySem.F.slot_list_pop PySem.F.type_list_pop mt_pop (pv 4)) (pg_tup rfl (pgs_cons (pg_name (i := 5) sc_fold.nd rfl (Or.inl rfl)) (pgs_cons (pg_name (i := 6) sc_fold.nd rfl (Or.inl rfl)) pgs_nil))))
      (pss_cons (ps_set (i := 7) sc_fold.nd rfl (Or.inl rfl) (VA.pe_callVal (i := 1) hr (by first | exact Nat.le_refl _ | omega) rfl (Or.inl rfl) (pa_cons (pv 5) pa_nil)))
      (pss_one (ps_if (PW.pt (pw_and (pt_truth (pv 7) (by intro _; rfl)) (pw_and1 (pt_not (pt_val (pv 6))))))
        (pss_cons (ps_expr (pe_bm PySem.F.plainAttrs_list PySem.F.slot_list_append PySem.F.type_list_append mt_append (pv 4) (pa_cons (pe_tup (pa_cons (pv 5) (pa_cons pe_bl pa_nil))) pa_nil)))
        (pss_one (ps_for PassesOwn.never rfl (RT.pi_revA rfl z_reversed (pv 7)) (pg_name (i := 8) sc_fold.nd rfl (Or.inl rfl))
          (pss_one (ps_expr (pe_bm PySem.F.plainAttrs_list PySem.F.slot_list_append PySem.F.type_list_append mt_append (pv 4) (pa_cons (pe_tup (pa_cons (pv 8) (pa_cons pe_bl pa_nil))) pa_nil)))))))
        (pss_cons (ps_set (i := 9) sc_fold.nd rfl (Or.inl rfl) (pe_op op_sub (pe_callB (VK.lenQ (K := K) rfl) (by rfl) z_len PySem.boot_len (pa_cons (pv 3) pa_nil)) (pe_callB (VK.lenQ (K := K) rfl) (by rfl) z_len PySem.boot_len (pa_cons (pv 7) pa_nil))))
        (pss_cons (ps_set (i := 10) sc_fold.nd rfl (Or.inl rfl) (pe_slice (VK.slL (K := K) rfl) (pv 3) (po_some (pv 9)) po_none))
        (pss_cons (VA.ps_delFrom (pv 3) (pv 9))
        (pss_one (ps_expr (pe_bm PySem.F.plainAttrs_list PySem.F.slot_list_append PySem.F.type_list_append mt_append (pv 3) (pa_cons (VA.pe_callVal (i := 2) hr (by first | exact Nat.le_refl _ | omega) rfl (Or.inl rfl) (pa_cons (pv 5) (pa_cons (pv 10) pa_nil))) pa_nil))))))))))))
    (pss_one (ps_ret (pe_ix (VK.ixL (K := K) rfl) (pv 3) pe_int (fun _ _ => rfl))))))), ?_⟩
  have zl := sizeLine_eq
  refine ⟨Nat.zero_le _, fun vl nvl => ?_⟩
  have s1 := same_upd nvl (.lst [])
  refine ⟨_, rfl, (by show 2 ≤ sizeLine; omega), fun t0 nt0 => ?_⟩
  have s2 := same_upd nt0 (.tup [x, .bl false])
  refine ⟨(by show 1 ≤ sizeLine; omega), fun pl npl => ?_⟩
  have s3 := same_upd npl (.lst [.ref t0])
  have s123 := (s1.trans s2).trans s3
  have nvp : vl ≠ pl := ne_of_none (s2 _ _ upd_same) npl
  refine ⟨fun m σ H' => ∃ (tops : List (Pc × Bool)) (as : List α) (stk vals : List V) (r5 r6 r7 r8 r9 r10 : Option V), m = mu tops ∧
      σ = [some x, some (.ref g), some (.ref c), some (.ref vl), some (.ref pl), r5, r6, r7, r8, r9, r10] ∧ Same H H' ∧ H' vl = some (.lst vals) ∧ H' pl = some (.lst stk) ∧
      All2 (StkR K H') tops.reverse stk ∧ All2 (W H') as vals ∧ Good val p0 tops as ∧ as.length + mu tops ≤ 2 * nodes p0 ∧ φ H',
    ⟨_, [(p0, false)], [], [.ref t0], [], none, none, none, none, none, none, rfl, rfl, s123, s3 _ _ (s2 _ _ upd_same), upd_same,
      .cons ⟨t0, x, rfl, .inl (.inl (s3 _ _ upd_same)), dp_kp (Kp.of s123) hx⟩ .nil, .nil, rfl, (by show 0 + (2 * nodes p0 + 0) ≤ _; omega), sφ _ _ (NL.of s123) hφ⟩, ?_⟩
  rintro m σ H' ⟨tops, as, stk, vals, r5, r6, r7, r8, r9, r10, rfl, rfl, sH, hv, hp, aS, aV, gd, hb, hφ'⟩
  refine ⟨_, rfl, !stk.isEmpty, .inl ⟨stk, SqL.of hp, rfl⟩, ?_⟩
  cases tops with
  | nil =>
    have es : stk = [] := by
      have z := aS.len
      cases stk with
      | nil => rfl
      | cons a r => cases z
    subst es
    refine iteF ?_
    obtain rfl : as = [val p0] := gd
    cases aV with
    | cons hw t =>
      cases t
      exact ⟨_, rfl, vl, _, _, _, rfl, rfl, SqL.of hv, rfl, q _ H' sH hw⟩
  | cons top r =>
    obtain ⟨p, b⟩ := top
    rw [List.reverse_cons] at aS
    obtain ⟨stk', tv, rfl, aS', ⟨t, u, rfl, hT, hu⟩⟩ := aS.unsnoc
    have e1 : (!(stk' ++ [V.ref t]).isEmpty) = true := by cases stk' <;> rfl
    rw [e1]
    refine iteT ?_
    refine ⟨_, fun σ' H' z => z, ?_⟩
    have elast : (stk' ++ [V.ref t])[(stk' ++ [V.ref t]).length - 1]? = some (V.ref t) := by
      rw [List.length_append, List.length_singleton, Nat.add_sub_cancel, List.getElem?_append_right (Nat.le_refl _), Nat.sub_self] <;> rfl
    have nl1 := NL.updL hp (.lst (stk' ++ [V.ref t]).dropLast)
    have npH : H pl = none := (s1.trans s2).free npl
    have sH1 : Same H (upd H' pl (.lst (stk' ++ [V.ref t]).dropLast)) := sameIn sH npH
    have hp1 : upd H' pl (.lst (stk' ++ [V.ref t]).dropLast) pl = some (.lst stk') := by rw [upd_same, List.dropLast_concat]
    have hv1 : upd H' pl (.lst (stk' ++ [V.ref t]).dropLast) vl = some (.lst vals) := by rw [upd_ne nvp]; exact hv
    refine ⟨_, rfl, .inl ⟨rfl, _, SqL.of hp⟩, pl, _, _, rfl, rfl, hp, elast, ?_⟩
    refine ⟨t, _, rfl, nl1.kp.sqT hT, rfl, u, _, rfl, .bl b, _, rfl, rfl, ?_⟩
    have hu1 := dp_kp nl1.kp hu
    have aS1 := aS'.mono (fun e v z => StkR.kp nl1.kp z)
    have aV1 := aV.mono (fun e v z => hW _ _ _ _ nl1 z)
    have hφ1 := sφ _ _ nl1 hφ'
    have st1 : stk'.length ≤ 20000 := by
      have z := aS'.len
      rw [List.length_reverse] at z
      have y := len_mu r
      have z2 : mu r ≤ mu ((p, b) :: r) := by cases b <;> (show mu r ≤ _ + mu r; omega)
      omega
    generalize upd H' pl (.lst (stk' ++ [V.ref t]).dropLast) = H1 at *
    refine ⟨g, fun _ => True, spParts K, rfl, vg, trivial, _, rfl, trivial, u, p, rfl, hu1, fun tr us H2 sb htr hus => ?_⟩
    have hp2 := sb _ _ hp1
    have hv2 := sb _ _ hv1
    have sH2 := sH1.trans sb
    have nl2 := NL.of sb
    have hu2 := dp_kp nl2.kp hu1
    have aS2 := aS1.mono (fun e v z => StkR.kp nl2.kp z)
    have aV2 := aV1.mono (fun e v z => hW _ _ _ _ nl2 z)
    have hφ2 := sφ _ _ nl2 hφ1
    have lus := VB.DpAll.len hus
    rw [List.length_map] at lus
    have nvH : H vl = none := nvl
    have lvs := aV2.len
    refine ⟨_, rfl, !us.isEmpty, .inr (.inl ⟨us, htr, rfl⟩), ?_⟩
    -- the statements of the other branch
    by_cases hk : (!us.isEmpty) = true ∧ b = false
    · obtain ⟨hk1, rfl⟩ := hk
      rw [hk1]
      refine iteT ?_
      refine ⟨_, rfl, _, rfl, ?_⟩
      show (if (!false) = true then _ else _)
      refine iteT ?_
      refine ⟨_, rfl, .inl ⟨rfl, _, SqL.of hp2⟩, _, rfl, (by show 2 ≤ sizeLine; omega), fun tt ntt => ?_⟩
      have s3 := same_upd ntt (.tup [u, .bl true])
      have hp3 := s3 _ _ hp2
      have ntv : tt ≠ vl := fun z => by rw [z, hv2] at ntt; cases ntt
      have ntp : tt ≠ pl := fun z => by rw [z, hp2] at ntt; cases ntt
      refine ⟨pl, _, _, rfl, rfl, hp3, by omega, ?_⟩
      have nl4 := (NL.of s3).trans (NL.updL hp3 (.lst (stk' ++ [.ref tt])))
      have sH4 : Same H (upd (upd H2 tt (.tup [u, .bl true])) pl (.lst (stk' ++ [.ref tt]))) := sameIn (sH2.trans s3) npH
      have hv4 : upd (upd H2 tt (.tup [u, .bl true])) pl (.lst (stk' ++ [.ref tt])) vl = some (.lst vals) := by rw [upd_ne nvp]; exact s3 _ _ hv2
      have hp4 : upd (upd H2 tt (.tup [u, .bl true])) pl (.lst (stk' ++ [.ref tt])) pl = some (.lst (stk' ++ [.ref tt])) := upd_same
      have ht4 : upd (upd H2 tt (.tup [u, .bl true])) pl (.lst (stk' ++ [.ref tt])) tt = some (.tup [u, .bl true]) := by rw [upd_ne ntp]; exact upd_same
      have hu4 := dp_kp nl4.kp hu2
      have aS4 := aS2.mono (fun e v z => StkR.kp nl4.kp z)
      have aV4 := aV2.mono (fun e v z => hW _ _ _ _ nl4 z)
      have hφ4 := sφ _ _ nl4 hφ2
      have htr4 := nl4.kp.sqT htr
      have hus4 : DpAll K (upd (upd H2 tt (.tup [u, .bl true])) pl (.lst (stk' ++ [.ref tt]))) us ((kids p).map toD) := VB.DpAll.kp nl4.kp _ _ (flat_kids _) hus
      generalize upd (upd H2 tt (.tup [u, .bl true])) pl (.lst (stk' ++ [.ref tt])) = H4 at *
      have k2 := kids_two p
      refine ⟨_, rfl, tr, us, rfl, .inr ⟨htr4, RT.for_ItvT (K := K) (a := tr) (xs := us)
        (fun i σ H' => ∃ (stk5 : List V) (r8' : Option V), σ = [some x, some (.ref g), some (.ref c), some (.ref vl), some (.ref pl), some u, some (.bl false), some (.ref tr), r8', r9, r10] ∧ Same H H' ∧ NL H4 H' ∧
          H' vl = some (.lst vals) ∧ H' pl = some (.lst stk5) ∧ stk5.length = stk'.length + 1 + i ∧ All2 (StkR K H') (r.reverse ++ [(p, true)] ++ (((kids p).drop ((kids p).length - i)).map fun k => (k, false)).reverse) stk5)
        ⟨_, r8, rfl, sH4, NL.refl _, hv4, hp4, by rw [List.length_append] <;> rfl, ?_⟩ (fun i σ H' z => ?_) ?_ ?_⟩⟩
      · rw [Nat.sub_zero, List.drop_length]
        show All2 _ (r.reverse ++ [(p, true)] ++ []) _
        rw [List.append_nil]
        exact aS4.snoc ⟨tt, u, rfl, .inl (.inl ht4), hu4⟩
      · obtain ⟨_, _, _, _, nl, _⟩ := z
        exact nl.kp.sqT htr4
      · rintro i y σ H' hi hy ⟨stk5, r8', rfl, sH5, nl5, hv5, hp5, hl5, aS5⟩
        obtain ⟨kk, hkk, hkd⟩ := DpAll_get hus4 hy
        refine ⟨_, rfl, .inl ⟨rfl, _, SqL.of hp5⟩, _, rfl, (by show 2 ≤ sizeLine; omega), fun t6 nt6 => ?_⟩
        have s6 := same_upd nt6 (.tup [y, .bl false])
        have hp6 := s6 _ _ hp5
        have ntp6 : t6 ≠ pl := fun z => by rw [z, hp5] at nt6; cases nt6
        refine ⟨pl, _, _, rfl, rfl, hp6, by omega, ?_⟩
        have nl6 := (NL.of s6).trans (NL.updL hp6 (.lst (stk5 ++ [.ref t6])))
        refine ⟨stk5 ++ [.ref t6], _, rfl, sameIn (sH5.trans s6) npH, nl5.trans nl6, by rw [upd_ne nvp]; exact s6 _ _ hv5, upd_same, by rw [List.length_append, hl5] <;> rfl, ?_⟩
        have ed : (kids p).drop ((kids p).length - (i + 1)) = kk :: (kids p).drop ((kids p).length - i) := by
          have hj : (kids p).length - (i + 1) < (kids p).length := by omega
          rw [List.drop_eq_getElem_cons hj]
          have e1 : (kids p).length - (i + 1) + 1 = (kids p).length - i := by omega
          have e2 : (kids p)[(kids p).length - (i + 1)]? = some kk := by
            rw [← hkk]
            congr 1
            omega
          rw [List.getElem?_eq_getElem hj] at e2
          rw [e1, Option.some.inj e2]
        rw [ed, List.map_cons, List.reverse_cons, ← List.append_assoc]
        exact (aS5.mono (fun e v z => StkR.kp nl6.kp z)).snoc ⟨t6, y, rfl, .inl (.inl (by rw [upd_ne ntp6]; exact upd_same)), dp_kp (nl5.trans nl6).kp hkd⟩
      · rintro σ H' ⟨stk5, r8', rfl, sH5, nl5, hv5, hp5, hl5, aS5⟩
        rw [lus, Nat.sub_self, List.drop_zero] at aS5
        have ks := kids_sum p
        have mk := mu_kids (kids p) ((p, true) :: r)
        have e3 : mu ((p, true) :: r) = 1 + mu r := rfl
        have e4 : mu ((p, false) :: r) = 2 * nodes p + mu r := rfl
        refine ⟨_, ?_, (kids p).map (fun k => (k, false)) ++ (p, true) :: r, as, stk5, vals, _, _, _, _, _, _, rfl, rfl, sH5, hv5, hp5, ?_, aV4.mono (fun e v z => hW _ _ _ _ nl5 z), ?_, ?_, sφ _ _ nl5 hφ4⟩
        · rw [mk, e3, e4]
          omega
        · rw [List.reverse_append, List.reverse_cons, List.append_assoc] at *
          rw [← List.append_assoc]
          rw [List.append_assoc]
          exact aS5
        · exact good_kids val p0 (kids p) _ as ⟨as, rfl, gd⟩
        · rw [mk, e3]
          omega
    · obtain ⟨us', eas, gd', bd', md'⟩ : ∃ us' : List α, as = us' ++ (kids p).map val ∧ Good val p0 r (us' ++ [val p]) ∧ us'.length + 1 + mu r ≤ 2 * nodes p0 ∧ mu r < mu ((p, b) :: r) := by
        cases b with
        | true =>
          obtain ⟨us', e, g'⟩ := gd
          have e4 : mu ((p, true) :: r) = 1 + mu r := rfl
          refine ⟨us', e, g', ?_, by omega⟩
          rw [e, List.length_append] at hb
          omega
        | false =>
          have ek : kids p = [] := by
            cases hu0 : us with
            | nil => exact List.eq_nil_of_length_eq_zero (by rw [← lus, hu0] <;> rfl)
            | cons a l => exact absurd ⟨by rw [hu0] <;> rfl, rfl⟩ hk
          have e4 : mu ((p, false) :: r) = 2 * nodes p + mu r := rfl
          have np := nodes_pos p
          refine ⟨as, by rw [ek]; simp, gd, by omega, by omega⟩
      have aV3 := aV2
      rw [eas] at aV3
      obtain ⟨aVa, aVb⟩ := aV3.unapp
      have la : us'.length + (kids p).length = vals.length := by
        rw [← lvs, eas, List.length_append, List.length_map]
      have lim : vals.length ≤ 20000 := by omega
      cases hub : (!us.isEmpty)
      case' false => refine iteF (iteF ?_)
      case' true =>
        refine iteT ?_
        refine ⟨_, rfl, _, rfl, ?_⟩
        have eb : b = true := by
          cases b with
          | true => rfl
          | false => exact absurd ⟨hub, rfl⟩ hk
        subst eb
        show (if (!true) = true then _ else _)
        refine iteF ?_
      all_goals
        refine ⟨_, rfl, vl, vals, rfl, .inl (SqL.of hv2), _, rfl, tr, us, rfl, .inr htr, _, _, rfl, rfl, ?_⟩
        have ei : ((vals.length : Nat) : Int) - ((us.length : Nat) : Int) = ((us'.length : Nat) : Int) := by omega
        refine ⟨_, rfl, _, rfl, _, rfl, vl, vals, rfl, SqL.of hv2, fun ol nol => ?_⟩
        have ecut : cutV vals (some (((vals.length : Nat) : Int) - ((us.length : Nat) : Int))) none = vals.drop us'.length := by
          rw [ei]
          unfold cutV
          rw [HT.sIx_nat, HT.sIx_none, Nat.min_eq_left (by omega)]
          exact List.take_of_length_le (by rw [List.length_drop] <;> exact Nat.le_refl _)
        rw [ecut]
        have s3 := same_upd nol (.lst (vals.drop us'.length))
        have hv3 := s3 _ _ hv2
        have nov : ol ≠ vl := fun z => by rw [z, hv2] at nol; cases nol
        refine ⟨_, rfl, _, rfl, vl, vals, us'.length, rfl, congrArg V.int ei, hv3, by omega, ?_⟩
        have nl4 := (NL.of s3).trans (NL.updL hv3 (.lst (vals.take us'.length)))
        have sH4 : Same H (upd (upd H2 ol (.lst (vals.drop us'.length))) vl (.lst (vals.take us'.length))) := sameIn (sH2.trans s3) nvH
        have hv4 : upd (upd H2 ol (.lst (vals.drop us'.length))) vl (.lst (vals.take us'.length)) vl = some (.lst (vals.take us'.length)) := upd_same
        have ho4 : upd (upd H2 ol (.lst (vals.drop us'.length))) vl (.lst (vals.take us'.length)) ol = some (.lst (vals.drop us'.length)) := by rw [upd_ne nov]; exact upd_same
        have hp4 : upd (upd H2 ol (.lst (vals.drop us'.length))) vl (.lst (vals.take us'.length)) pl = some (.lst stk') := by rw [upd_ne nvp.symm]; exact s3 _ _ hp2
        have hu4 := dp_kp nl4.kp hu2
        have hφ4 := sφ _ _ nl4 hφ2
        have aS4 := aS2.mono (fun e v z => StkR.kp nl4.kp z)
        have aVa4 := aVa.mono (fun e v z => hW _ _ _ _ nl4 z)
        have aVb4 := aVb.mono (fun e v z => hW _ _ _ _ nl4 z)
        generalize upd (upd H2 ol (.lst (vals.drop us'.length))) vl (.lst (vals.take us'.length)) = H4 at *
        refine ⟨_, rfl, .inl ⟨rfl, _, SqL.of hv4⟩, c, φ, spComb K val W, rfl, vc, hφ4, _, rfl, _, rfl, hφ4, u, p, ol, vals.drop us'.length, rfl, hu4, ho4, aVb4, fun v H5 s5 hw => ?_⟩
        have hv5 := s5 _ _ hv4
        have hp5 := s5 _ _ hp4
        refine ⟨vl, _, _, rfl, rfl, hv5, by rw [List.length_take]; omega, ?_⟩
        have nl6 := (NL.of s5).trans (NL.updL hv5 (.lst (vals.take us'.length ++ [v])))
        refine ⟨mu r, md', r, us' ++ [val p], stk', vals.take us'.length ++ [v], _, _, _, _, _, _, rfl, rfl, sameIn (sH4.trans s5) nvH, upd_same, by rw [upd_ne nvp.symm]; exact hp5,
          aS4.mono (fun e v z => StkR.kp nl6.kp z), (aVa4.mono (fun e v z => hW _ _ _ _ nl6 z)).snoc (hW _ _ _ _ (NL.updL hv5 _) hw), gd', by rw [List.length_append, List.length_singleton]; exact bd', sφ _ _ nl6 hφ4⟩
end
end LW

set_option Elab.async false
set_option linter.all false
set_option maxRecDepth 100000
set_option maxHeartbeats 4000000
namespace LW
open PySem PySem.Spec PyProof.Rows L2 LamX NdefX VB
abbrev s_height : Stmt := top 12
theorem sc_height : FnScope ["process"] ["process"] (defScope s_height) := ⟨rfl, rfl, rfl, by decide +kernel, rfl, by decide +kernel, by decide +kernel⟩
def isFree : NameKind → Bool
  | .free => true
  | _ => false
theorem noFree {ns : List (Str × NameKind)} (h : ns.all (fun y => !isFree y.2) = true) : ∀ y ∈ ns, y.2 ≠ .free := by
  intro y hy e
  have z := List.all_eq_true.mp h y hy
  rw [e] at z
  cases z
/-- the name of the lambda's code -/
def qn : Str := (envOfC "height" (defScope s_height) 0 0 .none).qual ++ "<lambda>"
section
variable {P : Program} {w : World} {K : PySem.W.Frag} {mg : Str → Option Value} {base : Heap}
theorem int_all2 : ∀ {as : List Int} {vs : List V}, All2 (fun (a : Int) (v : V) => v = .int a) as vs → vs = as.map V.int
  | _, _, .nil => rfl
  | _, _, .cons e t => by rw [e, List.map_cons, int_all2 t]
theorem ht_fold (p : Pc) : (1 : Int) + (match (kids p).map (fun q => ((ht q : Nat) : Int)) with | [] => (0 : Int) | n :: r => r.foldl max n) = ((ht p : Nat) : Int) := by
  cases p with
  | pre e r => show (1 : Int) + ((ht r : Nat) : Int) = ((ht r + 1 : Nat) : Int); omega
  | hide e r => show (1 : Int) + ((ht r : Nat) : Int) = ((ht r + 1 : Nat) : Int); omega
  | ren e r => show (1 : Int) + ((ht r : Nat) : Int) = ((ht r + 1 : Nat) : Int); omega
  | par e r r' => show (1 : Int) + max ((ht r : Nat) : Int) ((ht r' : Nat) : Int) = ((max (ht r) (ht r') + 1 : Nat) : Int); omega
  | bin e r r' => show (1 : Int) + max ((ht r : Nat) : Int) ((ht r' : Nat) : Int) = ((max (ht r) (ht r') + 1 : Nat) : Int); omega
  | stop => rfl
  | skip => rfl
  | name x => rfl
def spHeight (K : PySem.W.Frag) (T : List (Addr × Str)) : Sp := fun vs H Q _ => ∃ (x : V) (p : Pc), vs = [x] ∧ Dp K H x (toD p) ∧ nodes p ≤ 10000 ∧ Tabs T H ∧
  ∀ H', ExtN H H' → Tabs T H' → Q (.int (ht p : Nat)) H'
abbrev valH : Pc → Int := fun p => ((ht p : Nat) : Int)
abbrev WI : Hp → Int → V → Prop := fun _ a v => v = .int a
theorem c_height {c Pt f fp : Addr} {fd fdp : FuncData} {T : List (Addr × Str)} (F : FnP K "height" s_height f fd) (hm : mg "height" = some (.ref f)) (hcd : fd.code = .ref c) (TB : TabB base mg c Pt)
    (hmT : (Pt, qn) ∈ T) (hu : ∀ p ∈ T, p.1 = Pt → p.2 = qn) (z_max : mg "max" = none)
    (Fp : FnOk P w K mg base CX0 1 fp fdp ["process"] (spParts K)) (bp : Binds K fdp ["process"] []) (lp : ∃ oc od sl, K.lookup fp = some ⟨oc, od, .func fdp, sl⟩) (g_parts : ∃ u, mg "parts" = some u ∧ RelV (.ref fp) u)
    (c_fold : C8.Cal P w K mg base 2 "fold" (spFold P w K mg base 1 valH WI) []) : C8.Cal P w K mg base 3 "height" (spHeight K T) [] := by
  have bh : Binds K fd ["process"] [] := F.bindsN fun _ _ _ _ _ _ us hl => match us, hl with | [_], _ => rfl
  refine ⟨f, fd, ["process"], [], ?_, hm, F.kp, bh, .nil⟩
  obtain ⟨oc, od, dV, kV, doc, pm, an, cdv, ct, osl, rfl, lk, hcd2, _, _⟩ := F.ex
  obtain rfl : cdv = .ref c := hcd
  refine fn_of lk hcd2 sc_height (fun vs H Q E h => ?_) fun A outer s H vs Q E hr h => ?_
  · obtain ⟨x, p, rfl, _⟩ := h
    rfl
  obtain ⟨x, p, rfl, hx, hn, hT, q⟩ := h
  suffices hh : ∃ t0, PSs (cxOf CX0 P w K mg base ["process"] "height" (defScope s_height) f (.ref c) A outer s H E).nox (defBody s_height) t0 ∧ t0 { nx := fun _ H' => Q .non H', rt := Q } (start ["process"] [x]) H by
    obtain ⟨t0, a, b⟩ := hh
    exact ⟨t0, a.nox, b⟩
  refine ⟨_, pss_one (ps_ret (C8.pe_c c_fold hr (by decide) rfl (pa_cons (pv 0) (pa_cons (C8.pe_gc rfl g_parts) (pa_cons (VA.pe_lam (T := T) TB rfl hmT hu rfl (fun y hy e => absurd e (noFree (by rfl) y hy))) pa_nil))))), ?_⟩
  refine ⟨_, rfl, hT, fun fl c' H1 eN nn T1 f0 f1 c1 => ?_⟩
  refine ⟨x, p, fp, fl, _, rfl, dp_kp (Kp.ofExtN eN) hx, hn, VA.VCall.def_ Fp bp lp, VA.VCall.lam (k := 0) (N := ["place", "inner"]) (ps := ["place", "inner"]) (nscope_by rfl) rfl (fun pm ctv us hl => match us, hl with | [_, _], _ => rfl) (fun vs H Q E h => ?_) (fun A2 outer2 s2 H2 vs2 Q2 E2 hr2 hla h => ?_), ⟨f1, c1⟩, fun Ha Hb nl hla => ?_, fun v H' sm hv => ?_⟩
  · obtain ⟨_, _, _, _, rfl, _⟩ := h
    rfl
  · obtain ⟨x2, p2, l, us, rfl, hx2, hl, ha, q2⟩ := h
    have eu := int_all2 ha
    subst eu
    refine ⟨_, pe_op op_add pe_int (pe_callBK (VA.cr_maxD rfl hr2) (by rfl) z_max (by decide +kernel) (pa_cons (pv 1) pa_nil) (pk_cons pe_int pk_nil)), ?_⟩
    refine ⟨_, rfl, l, _, 0, rfl, rfl, SqL.of hl, ?_⟩
    refine ⟨_, _, rfl, rfl, ?_⟩
    exact q2 _ H2 (Same.refl _) (congrArg V.int (ht_fold p2))
  · exact ⟨nl _ _ (fun xs z => by unfold VA.LamO at z; cases z) hla.1, nl _ _ (fun xs z => by unfold CodeO at z; cases z) hla.2⟩
  · obtain rfl := hv
    exact q H' (eN.trans (ExtN.of sm)) (T1.ext sm)
end
end LW

set_option Elab.async false
set_option linter.all false
set_option maxRecDepth 100000
set_option maxHeartbeats 4000000
namespace LW
open PySem PySem.Spec PyProof.Rows L2 LamX NdefX VB
abbrev s_references : Stmt := top 13
theorem sc_references : FnScope ["process", "found", "pending", "place"] ["process"] (defScope s_references) := ⟨rfl, rfl, rfl, by decide +kernel, rfl, by decide +kernel, by decide +kernel⟩
section
variable {P : Program} {w : World} {K : PySem.W.Frag} {mg : Str → Option Value} {base : Heap}
def wsum : List Pc → Nat
  | [] => 0
  | p :: r => nodes p + wsum r
theorem wsum_app : ∀ a b : List Pc, wsum (a ++ b) = wsum a + wsum b
  | [], b => by show wsum b = 0 + wsum b; omega
  | p :: a, b => by show nodes p + wsum (a ++ b) = nodes p + wsum a + wsum b; rw [wsum_app a b]; omega
theorem wsum_len : ∀ l : List Pc, l.length ≤ wsum l
  | [] => Nat.le_refl _
  | p :: r => by
    have z := wsum_len r
    have y := nodes_pos p
    show r.length + 1 ≤ nodes p + wsum r
    omega
theorem wsum_kids (p : Pc) : wsum (kids p) + 1 = nodes p := by
  cases p <;> simp [kids, nodes, wsum]
theorem refs_kids {p : Pc} (h : ∀ y, p ≠ .name y) : refs p = (kids p).flatMap refs := by
  cases p with
  | name x => exact absurd rfl (h x)
  | stop => rfl
  | skip => rfl
  | pre e q => simp [kids, refs]
  | hide e q => simp [kids, refs]
  | ren e q => simp [kids, refs]
  | par e q r => simp [kids, refs]
  | bin e q r => simp [kids, refs]
theorem dpAll_all2 {H : Hp} : ∀ {us : List V} {ps : List Pc}, DpAll K H us (ps.map toD) → All2 (fun p v => Dp K H v (toD p)) ps us
  | us, [], h => by cases h; exact .nil
  | us, p :: ps, h => by
    rw [List.map_cons] at h
    cases h with
    | cons h1 h2 => exact .cons h1 (dpAll_all2 h2)
/-- the members of a set of texts -/
def Mem (S : Key → Bool) (fs : List Str) : Prop := ∀ k, S k = true ↔ ∃ x ∈ fs, k = Sum.inr x
theorem mem_none : Mem (fun _ => false) [] := fun k => ⟨fun z => (Bool.noConfusion z), fun ⟨_, z, _⟩ => nomatch z⟩
theorem Mem.str {S : Key → Bool} {fs : List Str} (h : Mem S fs) (x : Str) : S (Sum.inr x) = true ↔ x ∈ fs := by
  rw [h]
  exact ⟨fun ⟨y, hy, e⟩ => by cases e; exact hy, fun z => ⟨x, z, rfl⟩⟩
theorem Mem.add {S : Key → Bool} {fs : List Str} (h : Mem S fs) (x : Str) : Mem (fun j => S j || decide (j = Sum.inr x)) (if x ∈ fs then fs else fs ++ [x]) := by
  intro k
  rw [Bool.or_eq_true, decide_eq_true_eq, h]
  by_cases q : x ∈ fs
  · rw [if_pos q]
    exact ⟨fun z => z.elim id fun e => ⟨x, q, e⟩, .inl⟩
  · rw [if_neg q]
    constructor
    · rintro (⟨y, hy, e⟩ | e)
      · exact ⟨y, List.mem_append_left _ hy, e⟩
      · exact ⟨x, List.mem_append_right _ (List.mem_singleton.mpr rfl), e⟩
    · rintro ⟨y, hy, e⟩
      rcases List.mem_append.mp hy with z | z
      · exact .inl ⟨y, z, e⟩
      · rw [List.mem_singleton.mp z] at e; exact .inr e
theorem add_nodup {fs : List Str} (h : fs.Nodup) (x : Str) : (if x ∈ fs then fs else fs ++ [x]).Nodup := onceS_nodup [x] fs h
theorem add_mem {fs : List Str} (x y : Str) : y ∈ (if x ∈ fs then fs else fs ++ [x]) ↔ y ∈ fs ∨ y = x := by
  have z := onceS_mem [x] fs y
  rw [List.mem_singleton] at z
  exact z
def spRefs (K : PySem.W.Frag) : Sp := fun vs H Q _ => ∃ (x : V) (p : Pc), vs = [x] ∧ Dp K H x (toD p) ∧ nodes p ≤ 4000 ∧
  ∀ (l : Addr) (H' : Hp), Same H H' → H l = none → H' l = some (.lst ((named p).map V.str)) → Q (.ref l) H'
theorem c_references (D : Df K mg "references" s_references) (z_set : mg "set" = none) (z_list : mg "list" = none) (z_sorted : mg "sorted" = none)
    (c_parts : C8.Cal P w K mg base 1 "parts" (spParts K) []) : C8.Cal P w K mg base 2 "references" (spRefs K) [] := by
  refine D.cal sc_references (fun _ _ _ _ _ _ us hl => match us, hl with | [_], _ => rfl) (fun vs H Q E h => ?_) (fun f cdv A outer s H vs Q E hr h => ?_)
  · obtain ⟨x, p, rfl, _⟩ := h
    rfl
  obtain ⟨x, p0, rfl, hx, hn, q⟩ := h
  refine ⟨_, (pss_cons (ps_set (i := 1) sc_references.nd rfl (Or.inl rfl) (pe_callTy0 (VK.set0M (w := w) rfl) (by rfl) z_set (by decide +kernel)))
    (pss_cons (ps_set (i := 2) sc_references.nd rfl (Or.inl rfl) (pe_lst (pa_cons (pv 0) pa_nil)))
    (pss_cons (ps_while PassesOwn.never (pt_truth (pv 2) (by intro _; rfl))
      (pss_cons (ps_set (i := 3) sc_references.nd rfl (Or.inl rfl) (pe_bm0 PySem.F.plainAttrs_list PySem.F.slot_list_pop PySem.F.type_list_pop mt_pop (pv 2)))
      (pss_cons (ps_if (pt_cmpR op_eq (pe_ix (VK.ixT (K := K) rfl) (pv 3) pe_int (fun _ _ => rfl)) pe_str (nomark _))
        (pss_one (ps_expr (VK.saddM (w := w) rfl (pv 1) (pe_ix (VK.ixT (K := K) rfl) (pv 3) pe_int (fun _ _ => rfl)))))
        pss_nil)
      (pss_one (ps_expr (pe_bm PySem.F.plainAttrs_list PySem.F.slot_list_extend PySem.F.type_list_extend mt_extend (pv 2) (pa_cons (pe_callTy (VK.listQ (K := K) rfl) (by rfl) z_list (by decide +kernel) (pa_cons (C8.pe_c c_parts hr (by first | decide | omega) rfl (pa_cons (pv 3) pa_nil)) pa_nil)) pa_nil)))))))
    (pss_one (ps_ret (pe_callB (VK.sortedM (w := w) rfl rfl hr) (by rfl) z_sorted (by decide +kernel) (pa_cons (pv 1) pa_nil))))))), ?_⟩
  have zl := sizeLine_eq
  refine ⟨rfl, fun fl nfl => ?_⟩
  have s1 := same_upd nfl (VS.SetMO w fl (fun _ => false) 0)
  refine ⟨_, rfl, (by show 1 ≤ sizeLine; omega), fun pl npl => ?_⟩
  have s2 := same_upd npl (.lst [x])
  have nfp : fl ≠ pl := ne_of_none upd_same npl
  have npH : H pl = none := s1.free npl
  refine ⟨fun m σ H' => ∃ (tops : List Pc) (fs : List Str) (S : Key → Bool) (stk : List V) (r3 : Option V), m = wsum tops ∧
      σ = [some x, some (.ref fl), some (.ref pl), r3] ∧ Same H H' ∧ H' fl = some (VS.SetMO w fl S fs.length) ∧ H' pl = some (.lst stk) ∧
      All2 (fun p v => Dp K H' v (toD p)) tops stk ∧ Mem S fs ∧ fs.Nodup ∧ (∀ y, y ∈ fs ∨ y ∈ tops.flatMap refs ↔ y ∈ refs p0) ∧ fs.length + wsum tops ≤ nodes p0,
    ⟨_, [p0], [], fun _ => false, [x], none, rfl, rfl, s1.trans s2, s2 _ _ upd_same, upd_same, .cons (dp_kp (Kp.of (s1.trans s2)) hx) .nil,
      mem_none, List.nodup_nil, fun y => by simp, (by show 0 + (nodes p0 + 0) ≤ _; omega)⟩, ?_⟩
  rintro m σ H' ⟨tops, fs, S, stk, r3, rfl, rfl, sH, hf, hp, aS, mS, nd, hm, hb⟩
  refine ⟨_, rfl, !stk.isEmpty, .inl ⟨stk, SqL.of hp, rfl⟩, ?_⟩
  rcases List.eq_nil_or_concat tops with rfl | ⟨r, p, rfl⟩
  · cases aS
    refine iteF ?_
    refine ⟨_, rfl, fl, S, fs.length, rfl, hf, fun k z => ?_, fun ss l ns ms ls nl => ?_⟩
    · obtain ⟨x, _, e⟩ := (mS k).1 z
      exact ⟨x, e⟩
    · have e : ss.mergeSort VS.leS = named p0 := sort_named ns fun y => by
        rw [ms, mS.str, ← hm]
        simp
      rw [e]
      exact q l _ (sameIn sH (sH.free nl)) (sH.free nl) upd_same
  · rw [List.concat_eq_append] at *
    obtain ⟨stk', tv, rfl, aS', hu⟩ := aS.unsnoc
    have e1 : (!(stk' ++ [tv]).isEmpty) = true := by cases stk' <;> rfl
    rw [e1]
    refine iteT ?_
    refine ⟨_, fun σ' H' z => z, ?_⟩
    have elast : (stk' ++ [tv])[(stk' ++ [tv]).length - 1]? = some tv := by
      rw [List.length_append, List.length_singleton, Nat.add_sub_cancel, List.getElem?_append_right (Nat.le_refl _), Nat.sub_self] <;> rfl
    have hp1 : upd H' pl (.lst (stk' ++ [tv]).dropLast) pl = some (.lst stk') := by rw [upd_same, List.dropLast_concat]
    have hf1 : upd H' pl (.lst (stk' ++ [tv]).dropLast) fl = some (VS.SetMO w fl S fs.length) := by rw [upd_ne nfp]; exact hf
    have k1 : Kp H' (upd H' pl (.lst (stk' ++ [tv]).dropLast)) := Kp.updL hp _
    have sH1 : Same H (upd H' pl (.lst (stk' ++ [tv]).dropLast)) := sameIn sH npH
    have ws : wsum (r ++ [p]) = wsum r + nodes p := by rw [wsum_app]; show wsum r + (nodes p + 0) = _; omega
    rw [ws] at hb ⊢
    refine ⟨_, rfl, .inl ⟨rfl, _, SqL.of hp⟩, pl, _, _, rfl, rfl, hp, elast, ?_⟩
    have hu1 := dp_kp k1 hu
    have aS1 := aS'.mono (fun e v z => dp_kp k1 z)
    generalize upd H' pl (.lst (stk' ++ [tv]).dropLast) = H1 at *
    obtain ⟨t, us, rfl, hT, hs⟩ := shape p hu1
    refine ⟨_, rfl, t, _, _, _, rfl, rfl, hT, at0 _ _, rfl, _, rfl, ?_⟩
    rw [kind_name]
    have lr := wsum_len r
    have wk := wsum_kids p
    have lstk := aS1.len
    have lk := wsum_len (kids p)
    by_cases hne : ∃ y, p = .name y
    case' pos =>
      obtain ⟨y, rfl⟩ := hne
      obtain rfl := hs
      refine iteT ?_
      refine ⟨_, rfl, ⟨fl, S, fs.length, rfl, hf1⟩, ?_⟩
      refine ⟨_, rfl, t, _, _, _, rfl, rfl, hT, rfl, fl, Sum.inr y, S, fs.length, rfl, rfl, hf1, (by show fs.length + 1 < 4096; omega), ?_⟩
      have hf2 : upd H1 fl (VS.SetMO w fl (fun j => S j || decide (j = Sum.inr y)) (if S (Sum.inr y) = true then fs.length else fs.length + 1)) fl =
          some (VS.SetMO w fl (fun j => S j || decide (j = Sum.inr y)) (if y ∈ fs then fs else fs ++ [y]).length) := by
        rw [upd_same]
        by_cases g : y ∈ fs
        · rw [if_pos ((mS.str y).2 g), if_pos g]
        · rw [if_neg (fun z => g ((mS.str y).1 z)), if_neg g, List.length_append] <;> rfl
      have k2 : Kp H1 (upd H1 fl (VS.SetMO w fl (fun j => S j || decide (j = Sum.inr y)) (if S (Sum.inr y) = true then fs.length else fs.length + 1))) := Kp.updE hf1 _
      have hp2 : upd H1 fl (VS.SetMO w fl (fun j => S j || decide (j = Sum.inr y)) (if S (Sum.inr y) = true then fs.length else fs.length + 1)) pl = some (.lst stk') := by rw [upd_ne nfp.symm]; exact hp1
      have sH2 : Same H (upd H1 fl (VS.SetMO w fl (fun j => S j || decide (j = Sum.inr y)) (if S (Sum.inr y) = true then fs.length else fs.length + 1))) := sameIn sH1 nfl
      have mS2 := mS.add y
      have nd2 := add_nodup nd y
      have hm2 : ∀ x, x ∈ (if y ∈ fs then fs else fs ++ [y]) ∨ x ∈ (r ++ kids (.name y)).flatMap refs ↔ x ∈ refs p0 := by
        intro x
        rw [add_mem, ← hm]
        simp only [kids, refs, List.append_nil, List.flatMap_append, List.flatMap_cons, List.flatMap_nil, List.mem_append, List.mem_singleton, List.not_mem_nil, or_false]
        rw [or_assoc, or_comm (a := x = y)]
      have hb2 : (if y ∈ fs then fs else fs ++ [y]).length + wsum (r ++ kids (.name y)) ≤ nodes p0 := by
        rw [wsum_app]
        have e : wsum (kids (.name y)) = 0 := rfl
        have e2 : nodes (.name y) = 1 := rfl
        have e3 : (if y ∈ fs then fs else fs ++ [y]).length ≤ fs.length + 1 := by
          by_cases g : y ∈ fs
          · rw [if_pos g]; omega
          · rw [if_neg g, List.length_append] <;> exact Nat.le_refl _
        omega
      generalize upd H1 fl (VS.SetMO w fl (fun j => S j || decide (j = Sum.inr y)) (if S (Sum.inr y) = true then fs.length else fs.length + 1)) = H2 at *
      generalize (fun j => S j || decide (j = Sum.inr y)) = S2 at *
      generalize (if y ∈ fs then fs else fs ++ [y]) = fs2 at *
      generalize Pc.name y = p at *
    case' neg =>
      have hne2 : ∀ y, p ≠ .name y := fun y z => hne ⟨y, z⟩
      have ef : isName p = false := by
        cases p <;> first | rfl | exact absurd rfl (hne2 _)
      rw [ef]
      refine iteF ?_
      have hf2 := hf1
      have k2 : Kp H1 H1 := Kp.refl _
      have hp2 := hp1
      have sH2 := sH1
      have mS2 := mS
      have nd2 := nd
      have hm2 : ∀ x, x ∈ fs ∨ x ∈ (r ++ kids p).flatMap refs ↔ x ∈ refs p0 := by
        intro x
        rw [← hm, List.flatMap_append, List.flatMap_append, ← refs_kids hne2]
        simp
      have hb2 : fs.length + wsum (r ++ kids p) ≤ nodes p0 := by
        rw [wsum_app]
        omega
    all_goals
      have hu2 := dp_kp k2 hu1
      have aS2 := aS1.mono (fun e v z => dp_kp k2 z)
      refine ⟨_, rfl, .inl ⟨rfl, _, SqL.of hp2⟩, _, rfl, _, p, rfl, hu2, fun pr us2 H3 s3 hpr hus => ?_⟩
      have lus := VB.DpAll.len hus
      rw [List.length_map] at lus
      refine ⟨pr, us2, rfl, .inr hpr, fun l nl => ?_⟩
      have s4 := same_upd nl (.lst us2)
      have hp4 := s4 _ _ (s3 _ _ hp2)
      have hf4 := s4 _ _ (s3 _ _ hf2)
      have k4 : Kp _ _ := Kp.of (s3.trans s4)
      refine ⟨pl, l, stk', us2, rfl, rfl, hp4, upd_same, by omega, ?_⟩
      have k5 := k4.trans (Kp.updL hp4 (.lst (stk' ++ us2)))
      have wa := wsum_app r (kids p)
      refine ⟨wsum (r ++ kids p), (by omega), r ++ kids p, _, _, stk' ++ us2, _, rfl, rfl, sameIn ((sH2.trans s3).trans s4) npH, (by rw [upd_ne nfp]; exact hf4), upd_same,
        (aS2.mono (fun e v z => dp_kp k5 z)).app (dpAll_all2 (VB.DpAll.kp ((Kp.of s4).trans (Kp.updL hp4 _)) _ _ (flat_kids _) hus)), mS2, nd2, hm2, hb2⟩
end
end LW

set_option Elab.async false
set_option linter.all false
set_option maxRecDepth 100000
set_option maxHeartbeats 4000000
namespace LW
open PySem PySem.Spec PyProof.Rows L2 LamX NdefX VB
abbrev s_law : Stmt := top 30
theorem sc_law : FnScope ["script", "pool", "turn", "lower", "upper", "words", "word", "fits", "event", "name", "letter", "process", "many", "deep", "k"] ["script"] (defScope s_law) := ⟨rfl, rfl, rfl, by decide +kernel, rfl, by decide +kernel, by decide +kernel⟩
section
variable {P : Program} {w : World} {K : PySem.W.Frag} {mg : Str → Option Value} {base : Heap}
/-! the chain -/
def deepP : Nat → Pc
  | 0 => .name "Zz"
  | k + 1 => if k % 2 = 0 then .pre "a" (deepP k) else .bin .ext (deepP k) (.name "Q")
theorem deep_ht : ∀ n, ht (deepP n) = n + 1
  | 0 => rfl
  | k + 1 => by
    have z := deep_ht k
    unfold deepP
    by_cases c : k % 2 = 0
    · rw [if_pos c]
      show ht (deepP k) + 1 = _
      omega
    · rw [if_neg c]
      show max (ht (deepP k)) 1 + 1 = _
      omega
theorem deep_nodes : ∀ n, nodes (deepP n) ≤ 2 * n + 1
  | 0 => Nat.le_refl _
  | k + 1 => by
    have z := deep_nodes k
    unfold deepP
    by_cases c : k % 2 = 0
    · rw [if_pos c]
      show nodes (deepP k) + 1 ≤ _
      omega
    · rw [if_neg c]
      show nodes (deepP k) + 1 + 1 ≤ _
      omega
theorem named_is {p : Pc} {l : List Str} (nd : l.Nodup) (st : l.Pairwise (fun a b => VS.leS a b = true)) (hm : ∀ x, x ∈ l ↔ x ∈ refs p) : named p = l := by
  have pm : (named p).Perm l := (List.perm_ext_iff_of_nodup (named_ok p).1 nd).mpr fun x => by rw [named_mem, hm]
  exact pm.eq_of_pairwise (fun a b _ _ x y => leS_anti x y) (named_ok p).2 st
theorem deep_refs : ∀ n x, x ∈ refs (deepP (n + 2)) ↔ x = ("Q" : Str) ∨ x = ("Zz" : Str)
  | 0, x => by
    show x ∈ [("Zz" : Str)] ++ [("Q" : Str)] ↔ _
    simp [or_comm]
  | k + 1, x => by
    have z := deep_refs k x
    show x ∈ refs (if (k + 2) % 2 = 0 then .pre "a" (deepP (k + 2)) else .bin .ext (deepP (k + 2)) (.name "Q")) ↔ _
    by_cases c : (k + 2) % 2 = 0
    · rw [if_pos c]
      exact z
    · rw [if_neg c]
      show x ∈ refs (deepP (k + 2)) ++ [("Q" : Str)] ↔ _
      rw [List.mem_append, z, List.mem_singleton]
      exact ⟨fun h => h.elim id .inl, .inl⟩
theorem deep_named (n : Nat) : named (deepP (n + 2)) = [("Q" : Str), "Zz"] :=
  named_is (by decide +kernel) (by decide +kernel) fun x => by rw [deep_refs]; simp
theorem deep_named1 : ∀ n, n < 2 → named (deepP n) = [("Zz" : Str)]
  | 0, _ => rfl
  | 1, _ => named_is (by decide +kernel) (by decide +kernel) fun x => Iff.rfl
  | n + 2, h => absurd h (by omega)
/-! heaps -/
theorem PoolAt.extN {H H' : Hp} {a d : Addr} {i : Int} (p : PoolAt H a d i) (h : ExtN H H') : PoolAt H' a d i := by
  obtain ⟨ns, n, h1, h2, r⟩ := p
  exact ⟨ns, n, h _ _ h1 (fun _ z => by cases z), h _ _ h2 (fun _ z => by cases z), r⟩
theorem tabs_but {T : List (Addr × Str)} {H H' : Hp} {a : Addr} {ys : List V} (t : Tabs T H) (b : But a H H') (h : H a = some (.lst ys)) : Tabs T H' := by
  intro p hp
  obtain ⟨ps, h1, h2, h3⟩ := t p hp
  refine ⟨ps, b _ _ (ne_of h1 h (by intro z; cases z)) h1, h2, fun pos cv hc => ?_⟩
  obtain ⟨c, e1, e2⟩ := h3 pos cv hc
  exact ⟨c, e1, b _ _ (ne_of e2 h (by intro z; unfold CodeO at z; cases z)) e2⟩
theorem Drew.tabs {T : List (Addr × Str)} {H H' : Hp} {a d : Addr} {i j : Int} {c : Nat} (t : Tabs T H) (p : PoolAt H a d j) (x : Drew a d i c H H') : Tabs T H' := tabs_but t x.1 p.tr.choose_spec
theorem depth_strs (ss : List Str) : (PyData.list (ss.map PyData.str)).depth < 3 := by
  have e : ∀ l : List Str, PyData.depthAll (l.map PyData.str) = 0 := by
    intro l
    induction l with
    | nil => rfl
    | cons x l ih => rw [List.map_cons]; unfold PyData.depthAll; rw [ih]; rfl
  unfold PyData.depth
  rw [e]
  decide
theorem slim_list {ss : List Str} (h : ss.length ≤ 100000) : slimD 100000 (PyData.list (ss.map PyData.str)) = true := by
  have e : ∀ l : List Str, slimAll 100000 (l.map PyData.str) = true := by
    intro l
    induction l with
    | nil => rfl
    | cons x l ih => rw [List.map_cons]; unfold slimAll; rw [ih]; rfl
  unfold slimD
  rw [e, Bool.and_true]
  exact decide_eq_true (by rw [List.length_map]; exact h)
theorem iteFe {b : Bool} {A B : Prop} (e : b = false) (h : B) : if b = true then A else B := by rw [e]; exact iteF h
theorem iteTe {b : Bool} {A B : Prop} (e : b = true) (h : A) : if b = true then A else B := by rw [e]; exact iteT h
theorem sgn3 (d : Nat) : d ∈ (UPP ++ LOW ++ DIG).cps.toList ↔ d ∈ (LOW ++ UPP ++ DIG).cps.toList := by
  have e1 : (UPP ++ LOW ++ DIG).cps.toList = UPP.cps.toList ++ LOW.cps.toList ++ DIG.cps.toList := by rfl
  have e2 : (LOW ++ UPP ++ DIG).cps.toList = LOW.cps.toList ++ UPP.cps.toList ++ DIG.cps.toList := by rfl
  rw [e1, e2]
  simp only [List.mem_append, or_comm (a := d ∈ UPP.cps.toList)]
theorem pname_eq {x : Str} {c : Nat} {r : List Nat} (er : x.cps.toList = c :: r) (e12 : decide ((c :: r).length ≤ 12) = true) :
    ((decide (c ∈ UPP.cps.toList) && (c :: r).all fun d => decide (d ∈ (LOW ++ UPP ++ DIG).cps.toList)) = isPName x) := by
  have e : (fun d => decide (d ∈ (LOW ++ UPP ++ DIG).cps.toList)) = fun d => decide (d ∈ (UPP ++ LOW ++ DIG).cps.toList) := funext fun d => decide_eq_decide.mpr (sgn3 d).symm
  rw [e]
  unfold isPName
  rw [er, hasForm_cons, e12, Bool.true_and]
theorem event_eq {x : Str} {c : Nat} {r : List Nat} (er : x.cps.toList = c :: r) (e12 : decide ((c :: r).length ≤ 12) = true) (c3 : decide (c ∈ LOW.cps.toList) = true) :
    ((!inV (.str x) (noEv.map V.str)) && (c :: r).all fun d => decide (d ∈ (LOW ++ DIG).cps.toList)) = isEvent x := by
  unfold isEvent
  rw [er, hasForm_cons, c3, e12, Bool.true_and, Bool.true_and, inV_strs, Bool.and_comm]
theorem event_not {x : Str} {c : Nat} {r : List Nat} (er : x.cps.toList = c :: r) (c3 : ¬ decide (c ∈ LOW.cps.toList) = true) :
    (false && (c :: r).all fun d => decide (d ∈ (LOW ++ DIG).cps.toList)) = isEvent x := by
  unfold isEvent
  rw [er, hasForm_cons, Bool.eq_false_iff.mpr c3, Bool.false_and, Bool.and_false, Bool.false_and] <;> rfl
theorem both_long {x : Str} {c : Nat} {r : List Nat} (er : x.cps.toList = c :: r) (e12 : decide ((c :: r).length ≤ 12) = false) :
    ((false && x.cps.toList.all fun d => decide (d ∈ (LOW ++ DIG).cps.toList)) = isEvent x) ∧ ((false && x.cps.toList.all fun d => decide (d ∈ (LOW ++ UPP ++ DIG).cps.toList)) = isPName x) := by
  unfold isEvent isPName
  rw [er, hasForm_cons, hasForm_cons, e12, Bool.false_and, Bool.false_and, Bool.false_and, Bool.false_and, Bool.false_and]
  exact ⟨rfl, rfl⟩
theorem both_none {x : Str} (er : x.cps.toList = []) :
    ((false && x.cps.toList.all fun d => decide (d ∈ (LOW ++ DIG).cps.toList)) = isEvent x) ∧ ((false && x.cps.toList.all fun d => decide (d ∈ (LOW ++ UPP ++ DIG).cps.toList)) = isPName x) := by
  unfold isEvent isPName
  rw [er]
  exact ⟨rfl, rfl⟩
theorem five_at {ss : List Str} (hl : ss.length = 5) {B : Nat} (hb : ∀ s ∈ ss, s.length ≤ B) {r : Int} (h0 : 0 ≤ r) (h1 : r < 5) : ∃ x : Str, atI (ss.map V.str) r = some (.str x) ∧ x.length ≤ B := by
  obtain ⟨k, rfl⟩ := Int.eq_ofNat_of_zero_le h0
  have hk : k < ss.length := by omega
  exact ⟨ss[k], atI_nat (by rw [List.getElem?_map, List.getElem?_eq_getElem hk] <;> rfl), hb _ (List.getElem_mem hk)⟩
def spLaw (K : PySem.W.Frag) (T : List (Addr × Str)) : Sp := fun vs H Q _ => ∃ (a : Addr) (ns : List Int), vs = [.ref a] ∧ SqL K H a (ns.map V.int) ∧ Tabs T H ∧ ∀ H', Q (.bl true) H'
theorem f_law {T : List (Addr × Str)} {f : Addr} {fd : FuncData} (F : FnP K "law" s_law f fd) (z_range : mg "range" = none) (z_len : mg "len" = none) (z_int : mg "int" = none)
    (c__law_pool : C8.Cal P w K mg base 2 "_law_pool" (spPool K) []) (c__law_pick : C8.Cal P w K mg base 1 "_law_pick" spPick [])
    (c__law_eventword : C8.Cal P w K mg base 3 "_law_eventword" spWord []) (c__law_nameword : C8.Cal P w K mg base 3 "_law_nameword" spWord [])
    (c_is_event : C8.Cal P w K mg base 2 "is_event" (spTest isEvent) []) (c_is_name : C8.Cal P w K mg base 2 "is_name" (spTest isPName) [])
    (c__law_like : C8.Cal P w K mg base 3 "_law_like" (spLike K 3) []) (c__law_any : C8.Cal P w K mg base 13 "_law_any" (spAny K 8) [])
    (c_height : C8.Cal P w K mg base 3 "height" (spHeight K T) []) (c_references : C8.Cal P w K mg base 2 "references" (spRefs K) [])
    (c__law_tall : C8.Cal P w K mg base 10 "_law_tall" (spTall K 8) []) (c__law_named : C8.Cal P w K mg base 10 "_law_named" (spNamed K 8) []) :
    FnOk P w K mg base CX0 14 f fd ["script"] (spLaw K T) := by
  refine F.ok sc_law (fun vs H Q E h => ?_) (fun cdv A outer s H vs Q E hr h => ?_)
  · obtain ⟨a, ns, rfl, _⟩ := h
    rfl
  obtain ⟨sa, ns, rfl, hS, hT, q⟩ := h
  suffices hh : ∃ t0, PSs (cxOf CX0 P w K mg base ["script", "pool", "turn", "lower", "upper", "words", "word", "fits", "event", "name", "letter", "process", "many", "deep", "k"] "law" (defScope s_law) f cdv A outer s H E).nox (defBody s_law) t0 ∧
      t0 { nx := fun _ H' => Q .non H', rt := Q } (start ["script", "pool", "turn", "lower", "upper", "words", "word", "fits", "event", "name", "letter", "process", "many", "deep", "k"] [.ref sa]) H by
    obtain ⟨t0, a, b⟩ := hh
    exact ⟨t0, a.nox, b⟩
  refine ⟨_, (pss_cons (ps_set (i := 1) sc_law.nd rfl (Or.inl rfl) (C8.pe_c c__law_pool hr (by first | decide | omega) rfl (pa_cons (pv 0) pa_nil)))
    (pss_cons (ps_for PassesOwn.never rfl (pi_range1 rfl z_range (pa_cons pe_int pa_nil)) (pg_name (i := 2) sc_law.nd rfl (Or.inl rfl))
      (pss_cons (ps_set (i := 3) sc_law.nd rfl (Or.inl rfl) pe_str)
      (pss_cons (ps_set (i := 4) sc_law.nd rfl (Or.inl rfl) pe_str)
      (pss_cons (ps_set (i := 5) sc_law.nd rfl (Or.inl rfl) (pe_lst (pa_cons (C8.pe_c c__law_eventword hr (by first | decide | omega) rfl (pa_cons (pv 1) pa_nil)) (pa_cons (C8.pe_c c__law_nameword hr (by first | decide | omega) rfl (pa_cons (pv 1) pa_nil)) (pa_cons (pe_ix (VK.ixL (K := K) rfl) (pe_lst (pa_cons pe_str (pa_cons pe_str (pa_cons pe_str (pa_cons pe_str (pa_cons pe_str (pa_cons pe_str pa_nil))))))) (C8.pe_c c__law_pick hr (by first | decide | omega) rfl (pa_cons (pv 1) (pa_cons pe_int pa_nil))) (fun _ _ => rfl)) pa_nil)))))
      (pss_cons (ps_expr (pe_bm PySem.F.plainAttrs_list PySem.F.slot_list_append PySem.F.type_list_append mt_append (pv 5) (pa_cons (pe_op op_add_str (C8.pe_c c__law_eventword hr (by first | decide | omega) rfl (pa_cons (pv 1) pa_nil)) (pe_ix (VK.ixL (K := K) rfl) (pe_lst (pa_cons pe_str (pa_cons pe_str (pa_cons pe_str (pa_cons pe_str (pa_cons pe_str (pa_cons pe_str pa_nil))))))) (C8.pe_c c__law_pick hr (by first | decide | omega) rfl (pa_cons (pv 1) (pa_cons pe_int pa_nil))) (fun _ _ => rfl))) pa_nil)))
      (pss_cons (ps_expr (pe_bm PySem.F.plainAttrs_list PySem.F.slot_list_append PySem.F.type_list_append mt_append (pv 5) (pa_cons (pe_op op_add_str (pe_ix (VK.ixL (K := K) rfl) (pe_lst (pa_cons pe_str (pa_cons pe_str (pa_cons pe_str (pa_cons pe_str (pa_cons pe_str pa_nil)))))) (C8.pe_c c__law_pick hr (by first | decide | omega) rfl (pa_cons (pv 1) (pa_cons pe_int pa_nil))) (fun _ _ => rfl)) (pe_slice sl_str (C8.pe_c c__law_nameword hr (by first | decide | omega) rfl (pa_cons (pv 1) pa_nil)) po_none (po_some (pe_op op_sub pe_int (C8.pe_c c__law_pick hr (by first | decide | omega) rfl (pa_cons (pv 1) (pa_cons pe_int pa_nil))))))) pa_nil)))
      (pss_cons (ps_set (i := 6) sc_law.nd rfl (Or.inl rfl) (pe_ix (VK.ixL (K := K) rfl) (pv 5) (C8.pe_c c__law_pick hr (by first | decide | omega) rfl (pa_cons (pv 1) (pa_cons pe_int pa_nil))) (fun _ _ => rfl)))
      (pss_cons (ps_set (i := 7) sc_law.nd rfl (Or.inl rfl) (pe_chain op_le op_le pe_int (pe_callB call_len_str (by rfl) z_len PySem.boot_len (pa_cons (pv 6) pa_nil)) pe_int))
      (pss_cons (ps_set (i := 8) sc_law.nd rfl (Or.inl rfl) (pe_and (pv 7) (pe_and (pe_cmpR op_in_sign (pe_ix ix_str (pv 6) pe_int (fun _ _ => rfl)) (pv 3) rfl) (pe_one (pe_cmpR (VK.notInQ (K := K) rfl) (pv 6) (pe_lst (pa_cons pe_str (pa_cons pe_str (pa_cons pe_str (pa_cons pe_str (pa_cons pe_str (pa_cons pe_str pa_nil))))))) rfl)))))
      (pss_cons (ps_set (i := 9) sc_law.nd rfl (Or.inl rfl) (pe_and (pv 7) (pe_one (pe_cmpR op_in_sign (pe_ix ix_str (pv 6) pe_int (fun _ _ => rfl)) (pv 4) rfl))))
      (pss_cons (ps_for PassesOwn.never rfl (pi_str (pv 6)) (pg_name (i := 10) sc_law.nd rfl (Or.inl rfl))
        (pss_cons (ps_set (i := 8) sc_law.nd rfl (Or.inl rfl) (pe_and (pv 8) (pe_one (pe_cmpR op_in_sign (pv 10) (pe_op op_add_str (pv 3) pe_str) rfl))))
        (pss_one (ps_set (i := 9) sc_law.nd rfl (Or.inl rfl) (pe_and (pv 9) (pe_one (pe_cmpR op_in_sign (pv 10) (pe_op op_add_str (pe_op op_add_str (pv 3) (pv 4)) pe_str) rfl)))))))
      (pss_one (ps_if (PW.pt (pw_or (pt_not (pt_val (C8.pe_c c__law_like hr (by first | decide | omega) rfl (pa_cons (C8.pe_c c_is_event hr (by first | decide | omega) rfl (pa_cons (pv 6) pa_nil)) (pa_cons (pv 8) pa_nil))))) (pw_or1 (pt_not (pt_val (C8.pe_c c__law_like hr (by first | decide | omega) rfl (pa_cons (C8.pe_c c_is_name hr (by first | decide | omega) rfl (pa_cons (pv 6) pa_nil)) (pa_cons (pv 9) pa_nil))))))))
        (pss_one (ps_ret pe_bl))
        pss_nil)))))))))))))
    (pss_cons (ps_for PassesOwn.never rfl (pi_range1 rfl z_range (pa_cons pe_int pa_nil)) (pg_name (i := 2) sc_law.nd rfl (Or.inl rfl))
      (pss_cons (ps_set (i := 11) sc_law.nd rfl (Or.inl rfl) (C8.pe_c c__law_any hr (by first | decide | omega) rfl (pa_cons (pv 1) (pa_cons (pe_op op_add pe_int (C8.pe_c c__law_pick hr (by first | decide | omega) rfl (pa_cons (pv 1) (pa_cons pe_int pa_nil)))) pa_nil))))
      (pss_cons (ps_if (pt_not (pt_val (C8.pe_c c__law_like hr (by first | decide | omega) rfl (pa_cons (C8.pe_c c_height hr (by first | decide | omega) rfl (pa_cons (pv 11) pa_nil)) (pa_cons (C8.pe_c c__law_tall hr (by first | decide | omega) rfl (pa_cons (pv 11) pa_nil)) pa_nil)))))
        (pss_one (ps_ret pe_bl))
        pss_nil)
      (pss_one (ps_if (pt_not (pt_val (C8.pe_c c__law_like hr (by first | decide | omega) rfl (pa_cons (C8.pe_c c_references hr (by first | decide | omega) rfl (pa_cons (pv 11) pa_nil)) (pa_cons (C8.pe_c c__law_named hr (by first | decide | omega) rfl (pa_cons (pv 11) pa_nil)) pa_nil)))))
        (pss_one (ps_ret pe_bl))
        pss_nil)))))
    (pss_cons (ps_set (i := 12) sc_law.nd rfl (Or.inl rfl) (C8.pe_c c__law_pick hr (by first | decide | omega) rfl (pa_cons (pv 1) (pa_cons pe_int pa_nil))))
    (pss_cons (ps_set (i := 13) sc_law.nd rfl (Or.inl rfl) (pe_tup (pa_cons pe_str (pa_cons pe_str pa_nil))))
    (pss_cons (ps_for PassesOwn.never rfl (pi_range1 rfl z_range (pa_cons (pv 12) pa_nil)) (pg_name (i := 14) sc_law.nd rfl (Or.inl rfl))
      (pss_one (ps_set (i := 13) sc_law.nd rfl (Or.inl rfl) (pe_ix (VK.ixL (K := K) rfl) (pe_lst (pa_cons (pe_tup (pa_cons pe_str (pa_cons pe_str (pa_cons (pv 13) pa_nil)))) (pa_cons (pe_tup (pa_cons pe_str (pa_cons (pv 13) (pa_cons (pe_tup (pa_cons pe_str (pa_cons pe_str pa_nil))) pa_nil)))) pa_nil))) (pe_op op_mod (pv 14) pe_int) (fun _ _ => rfl)))))
    (pss_one (ps_ret (pe_and (C8.pe_c c__law_like hr (by first | decide | omega) rfl (pa_cons (C8.pe_c c_height hr (by first | decide | omega) rfl (pa_cons (pv 13) pa_nil)) (pa_cons (pe_op op_add (pv 12) pe_int) pa_nil))) (pe_one (C8.pe_c c__law_like hr (by first | decide | omega) rfl (pa_cons (C8.pe_c c_references hr (by first | decide | omega) rfl (pa_cons (pv 13) pa_nil)) (pa_cons (pe_slice (VK.slL (K := K) rfl) (pe_lst (pa_cons pe_str (pa_cons pe_str pa_nil))) (po_some (pe_callTy call_int1 (by rfl) z_int (by decide +kernel) (pa_cons (pe_cmpR op_lt (pv 12) pe_int (nomark _)) pa_nil))) po_none) pa_nil))))))))))))), ?_⟩
  have zl := sizeLine_eq
  refine ⟨_, rfl, sa, ns, rfl, hS, fun a d H0 s0 na p0 => ?_⟩
  have hT0 := hT.ext s0
  clear hS s0 hT
  refine ⟨12, rfl, by decide, by decide, for_range (lo := 0) (n := 12)
    (fun j σ H' => ∃ (i : Int) (r2 r3 r4 r5 r6 r7 r8 r9 r10 : Option V), σ = [some (.ref sa), some (.ref a), r2, r3, r4, r5, r6, r7, r8, r9, r10, none, none, none, none] ∧ PoolAt H' a d i ∧ i ≤ 100 * j ∧ Tabs T H')
    ⟨0, none, none, none, none, none, none, none, none, none, rfl, p0, by omega, hT0⟩ ?_ ?_⟩
  · rintro j σ H1 hj ⟨i, r2, r3, r4, r5, r6, r7, r8, r9, r10, rfl, p1, hi, hT1⟩
    have hj2 : j < 12 := hj
    refine ⟨_, rfl, a, d, i, rfl, p1, by omega, fun x1 H2 hx1 ⟨b2, i2, p2, l2, u2⟩ => ?_⟩
    refine ⟨_, rfl, a, d, i2, rfl, p2, by omega, fun x2 H3 hx2 ⟨b3, i3, p3, l3, u3⟩ => ?_⟩
    refine ⟨(by show 6 ≤ sizeLine; omega), fun t1 nt1 => ?_⟩
    have s4 := same_upd nt1 (.lst [.str "stop", .str "skip", .str "tau", .str "tick", .str "true", .str "loops"])
    have p4 := p3.news s4
    have nt1a := p3.ne nt1
    refine ⟨_, rfl, a, d, i3, 6, rfl, p4, by omega, by decide, fun k1 H5 k10 k11 b5 p5 => ?_⟩
    obtain ⟨x3, hx3, hw3⟩ := six_at (x0 := "stop") (x1 := "skip") (x2 := "tau") (x3 := "tick") (x4 := "true") (x5 := "loops") k10 k11
    have lx3 : x3.length ≤ 30 := by rcases hw3 with rfl | rfl | rfl | rfl | rfl | rfl <;> decide
    refine ⟨t1, _, _, _, rfl, rfl, SqL.of (b5 t1 _ nt1a upd_same), hx3, ?_⟩
    refine ⟨(by show 3 ≤ sizeLine; omega), fun l nl => ?_⟩
    have s6 := same_upd nl (.lst [.str x1, .str x2, .str x3])
    have p6 := p5.news s6
    have nla := p5.ne nl
    have nld := p5.ne2 nl
    have hl6 : upd H5 l (.lst [.str x1, .str x2, .str x3]) l = some (.lst [.str x1, .str x2, .str x3]) := upd_same
    have b16 : But a H1 (upd H5 l (.lst [.str x1, .str x2, .str x3])) := (((b2.trans b3).trans (But.of s4)).trans b5).trans (But.of s6)
    have nl1 : H1 l = none := (((b2.trans b3).trans (But.of s4)).trans b5).none nla nl
    generalize upd H5 l (.lst [.str x1, .str x2, .str x3]) = H6 at *
    refine ⟨_, rfl, .inl ⟨rfl, _, SqL.of hl6⟩, _, rfl, a, d, i3 + 1, rfl, p6, by omega, fun x4 H7 hx4 ⟨b7, i7, p7, l7, u7⟩ => ?_⟩
    have hl7 := b7 l _ nla hl6
    refine ⟨(by show 6 ≤ sizeLine; omega), fun t2 nt2 => ?_⟩
    have s8 := same_upd nt2 (.lst [.str "_", .str " ", .str "-", .str "A", .str "1", .str "xxxxxxxxxxx"])
    have p8 := p7.news s8
    have nt2a := p7.ne nt2
    refine ⟨_, rfl, a, d, i7, 6, rfl, p8, by omega, by decide, fun k2 H9 k20 k21 b9 p9 => ?_⟩
    obtain ⟨x5, hx5, hw5⟩ := six_at (x0 := "_") (x1 := " ") (x2 := "-") (x3 := "A") (x4 := "1") (x5 := "xxxxxxxxxxx") k20 k21
    have lx5 : x5.length ≤ 11 := by rcases hw5 with rfl | rfl | rfl | rfl | rfl | rfl <;> decide
    refine ⟨t2, _, _, _, rfl, rfl, SqL.of (b9 t2 _ nt2a upd_same), hx5, ?_⟩
    have hl9 := b9 l _ nla (s8 _ _ hl7)
    refine ⟨_, _, rfl, rfl, by omega, l, _, _, rfl, rfl, hl9, (by show 3 < sizeLine; omega), ?_⟩
    have hl10 : upd H9 l (.lst ([.str x1, .str x2, .str x3] ++ [.str (x4 ++ x5)])) l = some (.lst [.str x1, .str x2, .str x3, .str (x4 ++ x5)]) := upd_same
    have p10 := p9.put (t := l) (o := .lst ([.str x1, .str x2, .str x3] ++ [.str (x4 ++ x5)])) nla nld
    have b110 : But a H1 (upd H9 l (.lst ([.str x1, .str x2, .str x3] ++ [.str (x4 ++ x5)]))) := butIn (((b16.trans b7).trans (But.of s8)).trans b9) nl1
    generalize upd H9 l (.lst ([.str x1, .str x2, .str x3] ++ [.str (x4 ++ x5)])) = H10 at *
    refine ⟨_, rfl, .inl ⟨rfl, _, SqL.of hl10⟩, (by show 5 ≤ sizeLine; omega), fun t3 nt3 => ?_⟩
    have s11 := same_upd nt3 (.lst [.str "1", .str "", .str "_", .str "a", .str "Z"])
    have p11 := p10.news s11
    have nt3a := p10.ne nt3
    refine ⟨_, rfl, a, d, i7 + 1, 5, rfl, p11, by omega, by decide, fun k3 H12 k30 k31 b12 p12 => ?_⟩
    obtain ⟨x6, hx6, lx6⟩ := five_at (ss := ["1", "", "_", "a", "Z"]) (B := 1) rfl (by decide) k30 k31
    refine ⟨t3, _, _, _, rfl, rfl, SqL.of (b12 t3 _ nt3a upd_same), hx6, ?_⟩
    have hl12 := b12 l _ nla (s11 _ _ hl10)
    refine ⟨_, rfl, a, d, i7 + 1 + 1, rfl, p12, by omega, fun x7 H13 hx7 ⟨b13, i13, p13, l13, u13⟩ => ?_⟩
    refine ⟨_, rfl, a, d, i13, 2, rfl, p13, by omega, by decide, fun k4 H14 k40 k41 b14 p14 => ?_⟩
    have hl14 := b14 l _ nla (b13 l _ nla hl12)
    refine ⟨_, _, rfl, rfl, _, rfl, x7, rfl, by omega, ?_⟩
    have lx8 := cutS_length x7 none (some (11 - k4))
    generalize cutS x7 none (some (11 - k4)) = x8 at *
    refine ⟨_, _, rfl, rfl, by omega, l, _, _, rfl, rfl, hl14, (by show 4 < sizeLine; omega), ?_⟩
    have hl15 : upd H14 l (.lst ([.str x1, .str x2, .str x3, .str (x4 ++ x5)] ++ [.str (x6 ++ x8)])) l = some (.lst ([x1, x2, x3, x4 ++ x5, x6 ++ x8].map V.str)) := upd_same
    have p15 := p14.put (t := l) (o := .lst ([.str x1, .str x2, .str x3, .str (x4 ++ x5)] ++ [.str (x6 ++ x8)])) nla nld
    have b115 : But a H1 (upd H14 l (.lst ([.str x1, .str x2, .str x3, .str (x4 ++ x5)] ++ [.str (x6 ++ x8)]))) := butIn ((((b110.trans (But.of s11)).trans b12).trans b13).trans b14) nl1
    generalize upd H14 l (.lst ([.str x1, .str x2, .str x3, .str (x4 ++ x5)] ++ [.str (x6 ++ x8)])) = H15 at *
    refine ⟨_, rfl, _, rfl, a, d, i13 + 1, 5, rfl, p15, by omega, by decide, fun k5 H16 k50 k51 b16' p16 => ?_⟩
    have lx45 : (x4 ++ x5).length ≤ 24 := by rw [PySem.Str.length_append]; omega
    have lx68 : (x6 ++ x8).length ≤ 24 := by rw [PySem.Str.length_append]; omega
    obtain ⟨x, hx, lx⟩ := five_at (ss := [x1, x2, x3, x4 ++ x5, x6 ++ x8]) (B := 30) rfl (by
      intro s hs
      simp only [List.mem_cons, List.not_mem_nil, or_false] at hs
      rcases hs with rfl | rfl | rfl | rfl | rfl <;> omega) k50 k51
    refine ⟨l, _, _, _, rfl, rfl, SqL.of (b16' l _ nla hl15), hx, ?_⟩
    have hT16 := tabs_but hT1 (b115.trans b16') p1.tr.choose_spec
    have hi16 : i13 + 1 + 1 ≤ 100 * (j + 1) := by omega
    generalize i13 + 1 + 1 = i16 at *
    clear b2 b3 s4 b5 s6 b16 b7 s8 b9 b110 s11 b12 b13 b14 b115 b16' p1 p2 p3 p4 p5 p6 p7 p8 p9 p10 p11 p12 p13 p14 p15
    -- the word and its two marks
    have el := len_codes x
    have c0 : ∀ c r, x.cps.toList = c :: r → atI x.cps.toList 0 = some c := fun c r e => by rw [e]; exact atI_nat (xs := c :: r) (j := 0) rfl
    refine ⟨_, rfl, x, rfl, by omega, _, _, rfl, rfl, _, rfl, ?_⟩
    by_cases c1 : (1 : Int) ≤ ((x.length : Nat) : Int)
    case' neg =>
      rw [decide_eq_false c1]
      refine iteF ?_
      refine ⟨_, rfl, _, rfl, iteF ?_⟩
      refine ⟨_, rfl, _, rfl, iteF ?_⟩
      have s17 := Same.refl H16
      have he : ((false && x.cps.toList.all fun d => decide (d ∈ (LOW ++ DIG).cps.toList)) = isEvent x) ∧ ((false && x.cps.toList.all fun d => decide (d ∈ (LOW ++ UPP ++ DIG).cps.toList)) = isPName x) := by
        have e : x.cps.toList = [] := by
          cases e : x.cps.toList with
          | nil => rfl
          | cons c r => rw [e, List.length_cons] at el; omega
        exact both_none e
    case' pos =>
      rw [decide_eq_true c1]
      refine iteT ?_
      refine ⟨_, _, rfl, rfl, ?_⟩
      obtain ⟨c, r, er⟩ : ∃ c r, x.cps.toList = c :: r := by
        cases e : x.cps.toList with
        | nil => rw [e] at el; exact absurd c1 (by rw [el]; decide)
        | cons c r => exact ⟨c, r, rfl⟩
      by_cases c2 : ((x.length : Nat) : Int) ≤ 12
      case' neg =>
        refine ⟨_, rfl, _, rfl, iteFe (decide_eq_false c2) ?_⟩
        refine ⟨_, rfl, _, rfl, iteFe (decide_eq_false c2) ?_⟩
        have s17 := Same.refl H16
        have he : ((false && x.cps.toList.all fun d => decide (d ∈ (LOW ++ DIG).cps.toList)) = isEvent x) ∧ ((false && x.cps.toList.all fun d => decide (d ∈ (LOW ++ UPP ++ DIG).cps.toList)) = isPName x) := by
          exact both_long er (decide_eq_false (by rw [← er, ← el]; omega))
      case' pos =>
        have e12 : decide ((c :: r).length ≤ 12) = true := decide_eq_true (by rw [← er, ← el]; omega)
        refine ⟨_, rfl, _, rfl, iteTe (decide_eq_true c2) ?_⟩
        refine ⟨_, rfl, _, _, c, rfl, rfl, by omega, c0 c r er, _, rfl, _, _, rfl, rfl, _, rfl, ?_⟩
        have hep : ((decide (c ∈ UPP.cps.toList) && x.cps.toList.all fun d => decide (d ∈ (LOW ++ UPP ++ DIG).cps.toList)) = isPName x) := by
          rw [er]
          exact pname_eq er e12
        refine ite2 (fun c3 => ?ev) (fun c3 => ?nev)
        case' nev =>
          refine ⟨_, rfl, _, rfl, iteTe (decide_eq_true c2) ?_⟩
          refine ⟨_, rfl, _, _, c, rfl, rfl, by omega, c0 c r er, _, rfl, _, _, rfl, rfl, ?_⟩
          have s17 := Same.refl H16
          have he : ((false && x.cps.toList.all fun d => decide (d ∈ (LOW ++ DIG).cps.toList)) = isEvent x) ∧ ((decide (c ∈ UPP.cps.toList) && x.cps.toList.all fun d => decide (d ∈ (LOW ++ UPP ++ DIG).cps.toList)) = isPName x) := by
            refine ⟨?_, hep⟩
            rw [er]
            exact event_not er c3
        case' ev =>
          refine ⟨_, rfl, (by show 6 ≤ sizeLine; omega), fun t nt => ?_⟩
          refine ⟨t, _, rfl, .inl (SqL.of upd_same), rfl, rfl, ?_⟩
          refine ⟨_, rfl, _, rfl, iteTe (decide_eq_true c2) ?_⟩
          refine ⟨_, rfl, _, _, c, rfl, rfl, by omega, c0 c r er, _, rfl, _, _, rfl, rfl, ?_⟩
          have s17 := same_upd nt (.lst [.str "stop", .str "skip", .str "tau", .str "tick", .str "true", .str "loops"])
          have he : (((!inV (.str x) (noEv.map V.str)) && x.cps.toList.all fun d => decide (d ∈ (LOW ++ DIG).cps.toList)) = isEvent x) ∧ ((decide (c ∈ UPP.cps.toList) && x.cps.toList.all fun d => decide (d ∈ (LOW ++ UPP ++ DIG).cps.toList)) = isPName x) := by
            refine ⟨?_, hep⟩
            rw [er]
            exact event_eq er e12 c3

    all_goals
      refine ⟨_, rfl, x, rfl, for_it walk_str (fun i σ H' => ∃ (be bn : Bool) (r7 r10 : Option V), σ = [some (.ref sa), some (.ref a), some (.int (0 + (j : Int))), some (.str LOW), some (.str UPP), some (.ref l), some (.str x), r7, some (.bl be), some (.bl bn), r10, none, none, none, none] ∧
        Same H16 H' ∧ (be && (x.cps.toList.drop i).all fun d => decide (d ∈ (LOW ++ DIG).cps.toList)) = isEvent x ∧ (bn && (x.cps.toList.drop i).all fun d => decide (d ∈ (LOW ++ UPP ++ DIG).cps.toList)) = isPName x)
        ⟨_, _, _, _, rfl, s17, by rw [List.drop_zero]; exact he.1, by rw [List.drop_zero]; exact he.2⟩ (fun _ _ _ _ _ => trivial) ?_ ?_⟩
      · rintro i y σ H' H'' hi ⟨be, bn, r7, r10', rfl, sI, h1, h2⟩ ⟨rfl, dch, hd, rfl⟩
        have hd2 : x.cps.toList[i]? = some dch := by rw [Array.getElem?_toList]; exact hd
        have ed : x.cps.toList.drop i = dch :: x.cps.toList.drop (i + 1) := by
          obtain ⟨hj, e⟩ := List.getElem?_eq_some_iff.mp hd2
          rw [List.drop_eq_getElem_cons hj, e]
        rw [ed, List.all_cons] at h1 h2
        refine ⟨_, rfl, _, rfl, ?_⟩
        have lz : ∀ n : Nat, n ≤ 100 → n ≤ sizeLine := fun n h => by omega
        refine ite2 (fun g1 => ?_) (fun g1 => ?_)
        · rw [g1, Bool.true_and] at h1
          refine ⟨_, rfl, _, rfl, _, _, rfl, rfl, lz _ (by decide), dch, _, rfl, rfl, ?_⟩
          refine ⟨_, rfl, _, rfl, ?_⟩
          refine ite2 (fun g2 => ?_) (fun g2 => ?_)
          · rw [g2, Bool.true_and] at h2
            refine ⟨_, rfl, _, rfl, _, rfl, _, _, rfl, rfl, lz _ (by decide), _, _, rfl, rfl, lz _ (by decide), dch, _, rfl, rfl, ?_⟩
            exact ⟨_, _, _, _, rfl, sI, h1, h2⟩
          · rw [Bool.eq_false_iff.mpr g2, Bool.false_and] at h2
            exact ⟨_, _, _, _, rfl, sI, h1, h2⟩
        · rw [Bool.eq_false_iff.mpr g1, Bool.false_and] at h1
          refine ⟨_, rfl, _, rfl, ?_⟩
          refine ite2 (fun g2 => ?_) (fun g2 => ?_)
          · rw [g2, Bool.true_and] at h2
            refine ⟨_, rfl, _, rfl, _, rfl, _, _, rfl, rfl, lz _ (by decide), _, _, rfl, rfl, lz _ (by decide), dch, _, rfl, rfl, ?_⟩
            exact ⟨_, _, _, _, rfl, sI, h1, h2⟩
          · rw [Bool.eq_false_iff.mpr g2, Bool.false_and] at h2
            exact ⟨_, _, _, _, rfl, sI, h1, h2⟩
      · rintro σ H17 ⟨be, bn, r7, r10', rfl, sI, h1, h2⟩
        have e0 : x.cps.toList.drop x.cps.size = [] := List.drop_of_length_le (by rw [Array.length_toList] <;> exact Nat.le_refl _)
        rw [e0, List.all_nil, Bool.and_true] at h1 h2
        have lx2 : x.length ≤ 1000 := by omega
        refine ⟨_, rfl, x, rfl, lx2, fun H18 s18 => ⟨_, rfl, _, _, .bool (isEvent x), rfl, .bl _, by rw [h1]; exact .bl _, (by show (0 : Nat) < 3; decide), rfl, fun H19 s19 => ⟨true, rfl, ?_⟩⟩⟩
        show (if (!true) = true then _ else _)
        refine iteF ?_
        refine ⟨_, rfl, x, rfl, lx2, fun H20 s20 => ⟨_, rfl, _, _, .bool (isPName x), rfl, .bl _, by rw [h2]; exact .bl _, (by show (0 : Nat) < 3; decide), rfl, fun H21 s21 => ⟨true, rfl, ?_⟩⟩⟩
        show (if (!true) = true then _ else _)
        refine iteF ?_
        have sE := (((sI.trans s18).trans s19).trans s20).trans s21
        exact ⟨i16, _, _, _, _, _, _, _, _, _, rfl, p16.news sE, hi16, hT16.ext sE⟩
  · rintro σ H1 ⟨i, r2, r3, r4, r5, r6, r7, r8, r9, r10, rfl, p1, hi, hT1⟩
    have hi' : i ≤ 1200 := by
      have e : (100 : Int) * ((12 : Nat) : Int) = 1200 := by decide
      omega
    have ec : cost 8 = 127600 := by decide
    refine ⟨4, rfl, by decide, by decide, for_range (lo := 0) (n := 4)
      (fun j σ H' => ∃ (i : Int) (r2 r11 : Option V), σ = [some (.ref sa), some (.ref a), r2, r3, r4, r5, r6, r7, r8, r9, r10, r11, none, none, none] ∧ PoolAt H' a d i ∧ i ≤ 1200 + 130000 * j ∧ Tabs T H')
      ⟨i, _, none, rfl, p1, by omega, hT1⟩ ?_ ?_⟩
    · rintro j σ H2 hj ⟨i2, r2', r11, rfl, p2, hi2, hT2⟩
      have hj2 : j < 4 := hj
      refine ⟨_, rfl, _, rfl, a, d, i2, 7, rfl, p2, by omega, by decide, fun k H3 k0 k1 b3 p3 => ?_⟩
      refine ⟨_, _, rfl, rfl, a, d, i2 + 1, 1 + k, rfl, p3, by omega, by omega, by omega, Nat.le_refl _, fun v p H4 hv hh hn dr => ?_⟩
      have hT4 : Tabs T H4 := dr.tabs (tabs_but hT2 b3 p2.tr.choose_spec) p3
      obtain ⟨b4, i4, p4, l4, u4⟩ := dr
      have n1 : nodes p ≤ 256 := Nat.le_of_lt hn
      have h8 : ht p < 8 := by omega
      refine ⟨_, rfl, v, p, rfl, hv, by omega, hT4, fun H5 e5 T5 => ?_⟩
      have hv5 := dp_kp (Kp.ofExtN e5) hv
      have p5 := p4.extN e5
      refine ⟨_, rfl, v, p, rfl, hv5, h8, fun H6 s6 => ?_⟩
      refine ⟨_, _, .int (ht p : Nat), rfl, .int _, .int _, (by show (0 : Nat) < 3; decide), rfl, fun H7 s7 => ⟨true, rfl, ?_⟩⟩
      show (if (!true) = true then _ else _)
      refine iteF ?_
      have hv7 := dp_kp (Kp.of (s6.trans s7)) hv5
      refine ⟨_, rfl, v, p, rfl, hv7, by omega, fun l8 H8 s8 nl8 hl8 => ?_⟩
      refine ⟨_, rfl, v, p, rfl, dp_kp (Kp.of s8) hv7, h8, by omega, fun l9 H9 s9 nl9 hl9 => ?_⟩
      have nn := named_len p
      refine ⟨_, _, .list ((named p).map PyData.str), rfl, .lst (SqL.of (s9 _ _ hl8)) (dpAll_strs _), .lst (SqL.of hl9) (dpAll_strs _), depth_strs _, slim_list (by omega), fun H10 s10 => ⟨true, rfl, ?_⟩⟩
      show (if (!true) = true then _ else _)
      refine iteF ?_
      have sE := (((s6.trans s7).trans s8).trans s9).trans s10
      exact ⟨i4, _, _, rfl, p5.news sE, by omega, T5.ext sE⟩
    · rintro σ H2 ⟨i2, r2', r11, rfl, p2, hi2, hT2⟩
      have hi2' : i2 ≤ 522000 := by
        have e : (1200 : Int) + 130000 * ((4 : Nat) : Int) = 521200 := by decide
        omega
      refine ⟨_, rfl, a, d, i2, 900, rfl, p2, by omega, by decide, fun many H3 k0 k1 b3 p3 => ?_⟩
      have hT3 := tabs_but hT2 b3 p2.tr.choose_spec
      clear p1 p2 p3 b3 hi hi2
      refine ⟨(by show 2 ≤ sizeLine; omega), fun t0 nt0 => ?_⟩
      have s0 := same_upd nt0 (.tup [.str "name", .str "Zz"])
      refine ⟨_, rfl, many, rfl, by omega, by omega, for_range (lo := 0) (n := many.toNat)
        (fun j σ H' => ∃ (v : V) (r14 : Option V), σ = [some (.ref sa), some (.ref a), r2', r3, r4, r5, r6, r7, r8, r9, r10, r11, some (.int many), some v, r14] ∧ Same H3 H' ∧ Dp K H' v (toD (deepP j)))
        ⟨_, none, rfl, s0, .tup (.inl (.inl upd_same)) (.cons (.str _) (.cons (.str _) .nil))⟩ ?_ ?_⟩
      · rintro j σ H4 hj ⟨v, r14, rfl, s4, hv⟩
        refine ⟨_, rfl, (by show 3 ≤ sizeLine; omega), fun t1 nt1 => ?_⟩
        have s5 := same_upd nt1 (.tup [.str "prefix", .str "a", v])
        refine ⟨_, rfl, (by show 2 ≤ sizeLine; omega), fun t2 nt2 => ?_⟩
        have s6 := same_upd nt2 (.tup [.str "name", .str "Q"])
        refine ⟨(by show 3 ≤ sizeLine; omega), fun t3 nt3 => ?_⟩
        have s7 := same_upd nt3 (.tup [.str "external", v, .ref t2])
        refine ⟨(by show 2 ≤ sizeLine; omega), fun l nl => ?_⟩
        have s8 := same_upd nl (.lst [.ref t1, .ref t3])
        have sA := ((s5.trans s6).trans s7).trans s8
        have hvE := dp_kp (Kp.of sA) hv
        refine ⟨_, rfl, _, _, rfl, rfl, (by show (0 : Int) < 2; decide), ?_⟩
        have h1 := s8 _ _ (s7 _ _ (s6 _ _ (upd_same (H := H4) (a := t1) (o := .tup [.str "prefix", .str "a", v]))))
        have h2 := s8 _ _ (s7 _ _ (upd_same (H := upd H4 t1 (.tup [.str "prefix", .str "a", v])) (a := t2) (o := .tup [.str "name", .str "Q"])))
        have h3 := s8 _ _ (upd_same (H := upd (upd H4 t1 (.tup [.str "prefix", .str "a", v])) t2 (.tup [.str "name", .str "Q"])) (a := t3) (o := .tup [.str "external", v, .ref t2]))
        by_cases c : j % 2 = 0
        · have e : ((0 : Int) + (j : Int)) % 2 = 0 := by omega
          have ed : deepP (j + 1) = .pre "a" (deepP j) := by
            show (if j % 2 = 0 then _ else _) = _
            rw [if_pos c]
          refine ⟨l, _, _, .ref t1, rfl, rfl, SqL.of upd_same, (by rw [e] <;> rfl), _, _, rfl, s4.trans sA, ?_⟩
          rw [ed]
          exact .tup (.inl (.inl h1)) (.cons (.str _) (.cons (.str _) (.cons hvE .nil)))
        · have e : ((0 : Int) + (j : Int)) % 2 = 1 := by omega
          have ed : deepP (j + 1) = .bin .ext (deepP j) (.name "Q") := by
            show (if j % 2 = 0 then _ else _) = _
            rw [if_neg c]
          refine ⟨l, _, _, .ref t3, rfl, rfl, SqL.of upd_same, (by rw [e] <;> rfl), _, _, rfl, s4.trans sA, ?_⟩
          rw [ed]
          exact .tup (.inl (.inl h3)) (.cons (.str _) (.cons hvE (.cons (.tup (.inl (.inl h2)) (.cons (.str _) (.cons (.str _) .nil))) .nil)))
      · rintro σ H4 ⟨v, r14, rfl, s4, hv⟩
        have hdn := deep_nodes many.toNat
        have hdh := deep_ht many.toNat
        refine ⟨_, rfl, v, _, rfl, hv, by omega, hT3.ext s4, fun H5 e5 T5 => ?_⟩
        have ei : ((ht (deepP many.toNat) : Nat) : Int) = many + 1 := by rw [hdh]; omega
        refine ⟨_, rfl, _, _, rfl, rfl, ?_⟩
        refine ⟨_, _, .int (many + 1), rfl, by rw [ei]; exact .int _, .int _, (by show (0 : Nat) < 3; decide), rfl, fun H6 s6 => ⟨true, rfl, iteT ?_⟩⟩
        have hv6 := dp_kp (Kp.of s6) (dp_kp (Kp.ofExtN e5) hv)
        refine ⟨_, rfl, v, _, rfl, hv6, by omega, fun l7 H7 s7 nl7 hl7 => ?_⟩
        refine ⟨(by show 2 ≤ sizeLine; omega), fun l8 nl8 => ?_⟩
        refine ⟨_, rfl, _, _, rfl, rfl, .inr ⟨_, rfl, _, rfl, ?_⟩⟩
        have s8 := same_upd nl8 (.lst [.str "Q", .str "Zz"])
        refine ⟨l8, _, rfl, SqL.of upd_same, fun l9 nl9 => ?_⟩
        have en : cutV [V.str "Q", V.str "Zz"] (some (if decide (many < 2) = true then 1 else 0)) none = (named (deepP many.toNat)).map V.str := by
          by_cases c : many < 2
          · rw [decide_eq_true c, if_pos rfl, deep_named1 _ (by omega)] <;> rfl
          · obtain ⟨n, e⟩ : ∃ n, many.toNat = n + 2 := ⟨many.toNat - 2, by omega⟩
            rw [decide_eq_false c, if_neg (by decide), e, deep_named] <;> rfl
        have s9 := same_upd nl9 (.lst (cutV [V.str "Q", V.str "Zz"] (some (if decide (many < 2) = true then 1 else 0)) none))
        have h9 : upd (upd H7 l8 (.lst [.str "Q", .str "Zz"])) l9 (.lst (cutV [V.str "Q", V.str "Zz"] (some (if decide (many < 2) = true then 1 else 0)) none)) l9 = some (.lst ((named (deepP many.toNat)).map V.str)) := by rw [upd_same, en]
        have nn := named_len (deepP many.toNat)
        exact ⟨_, _, .list ((named (deepP many.toNat)).map PyData.str), rfl, .lst (SqL.of (s9 _ _ (s8 _ _ hl7))) (dpAll_strs _), .lst (SqL.of h9) (dpAll_strs _), depth_strs _, slim_list (by omega), fun H10 s10 => q H10⟩
end
end LW

set_option Elab.async false
set_option linter.all false
set_option maxRecDepth 100000
set_option maxHeartbeats 0
namespace LW
open PySem PySem.Spec PyProof.Rows L2 LamX NdefX VB
def dd (x : Str) (st : Stmt) : He.DefD := ⟨(x, none), x, x, defArgs st, defBody st, defScope st, [], []⟩
def fn : List He.DefD := [dd "is_event" s_is_event, dd "is_name" s_is_name, dd "has_form" s_has_form, dd "parts" s_parts, dd "fold" s_fold, dd "height" s_height, dd "references" s_references, dd "_law_cell" s__law_cell, dd "_law_draws" s__law_draws, dd "_law_like" s__law_like, dd "_law_once" s__law_once, dd "_law_pool" s__law_pool, dd "_law_pick" s__law_pick, dd "_law_long" s__law_long, dd "_law_eventword" s__law_eventword, dd "_law_nameword" s__law_nameword, dd "_law_eventset" s__law_eventset, dd "_law_pairset" s__law_pairset, dd "_law_any" s__law_any, dd "_law_inside" s__law_inside, dd "_law_tall" s__law_tall, dd "_law_named" s__law_named, dd "law" s_law]
def fa : List He.Fa := [.glo "is_event", .glo "is_name", .glo "has_form", .glo "parts", .glo "fold", .glo "height", .glo "references", .glo "_law_cell", .glo "_law_draws", .glo "_law_like", .glo "_law_once", .glo "_law_pool", .glo "_law_pick", .glo "_law_long", .glo "_law_eventword", .glo "_law_nameword", .glo "_law_eventset", .glo "_law_pairset", .glo "_law_any", .glo "_law_inside", .glo "_law_tall", .glo "_law_named", .glo "law", .free "len", .free "range", .free "abs", .free "int", .free "isinstance", .free "bool", .free "str", .free "list", .free "tuple", .free "set", .free "sorted", .free "max", .free "all", .free "reversed", .str "LOWER" "abcdefghijklmnopqrstuvwxyz", .str "UPPER" "ABCDEFGHIJKLMNOPQRSTUVWXYZ", .str "DIGITS" "0123456789", .int "LONGEST_NAME" 12, .glo "NO_EVENTS", .glo "FIRST_PART"]
abbrev loose : List Str := (["LOWER", "UPPER", "DIGITS", "LONGEST_NAME", "NO_EVENTS", "FIRST_PART", "is_event", "is_name", "has_form", "parts", "fold", "height", "references", "_law_cell", "_law_draws", "_law_like", "_law_once", "_law_pool", "_law_pick", "_law_long", "_law_eventword", "_law_nameword", "_law_eventset", "_law_pairset", "_law_any", "_law_inside", "_law_tall", "_law_named"] : List Str)
abbrev lawAt : Nat := 30
/-- the defs, by their place -/
theorem i_is_event : fn[0]? = some (dd "is_event" s_is_event) := rfl
theorem i_is_name : fn[1]? = some (dd "is_name" s_is_name) := rfl
theorem i_has_form : fn[2]? = some (dd "has_form" s_has_form) := rfl
theorem i_parts : fn[3]? = some (dd "parts" s_parts) := rfl
theorem i_fold : fn[4]? = some (dd "fold" s_fold) := rfl
theorem i_height : fn[5]? = some (dd "height" s_height) := rfl
theorem i_references : fn[6]? = some (dd "references" s_references) := rfl
theorem i__law_cell : fn[7]? = some (dd "_law_cell" s__law_cell) := rfl
theorem i__law_draws : fn[8]? = some (dd "_law_draws" s__law_draws) := rfl
theorem i__law_like : fn[9]? = some (dd "_law_like" s__law_like) := rfl
theorem i__law_once : fn[10]? = some (dd "_law_once" s__law_once) := rfl
theorem i__law_pool : fn[11]? = some (dd "_law_pool" s__law_pool) := rfl
theorem i__law_pick : fn[12]? = some (dd "_law_pick" s__law_pick) := rfl
theorem i__law_long : fn[13]? = some (dd "_law_long" s__law_long) := rfl
theorem i__law_eventword : fn[14]? = some (dd "_law_eventword" s__law_eventword) := rfl
theorem i__law_nameword : fn[15]? = some (dd "_law_nameword" s__law_nameword) := rfl
theorem i__law_eventset : fn[16]? = some (dd "_law_eventset" s__law_eventset) := rfl
theorem i__law_pairset : fn[17]? = some (dd "_law_pairset" s__law_pairset) := rfl
theorem i__law_any : fn[18]? = some (dd "_law_any" s__law_any) := rfl
theorem i__law_inside : fn[19]? = some (dd "_law_inside" s__law_inside) := rfl
theorem i__law_tall : fn[20]? = some (dd "_law_tall" s__law_tall) := rfl
theorem i__law_named : fn[21]? = some (dd "_law_named" s__law_named) := rfl
theorem i_law : fn[22]? = some (dd "law" s_law) := rfl
theorem j_is_event : fa[0]? = some (.glo "is_event") := rfl
theorem j_is_name : fa[1]? = some (.glo "is_name") := rfl
theorem j_has_form : fa[2]? = some (.glo "has_form") := rfl
theorem j_parts : fa[3]? = some (.glo "parts") := rfl
theorem j_fold : fa[4]? = some (.glo "fold") := rfl
theorem j_height : fa[5]? = some (.glo "height") := rfl
theorem j_references : fa[6]? = some (.glo "references") := rfl
theorem j__law_cell : fa[7]? = some (.glo "_law_cell") := rfl
theorem j__law_draws : fa[8]? = some (.glo "_law_draws") := rfl
theorem j__law_like : fa[9]? = some (.glo "_law_like") := rfl
theorem j__law_once : fa[10]? = some (.glo "_law_once") := rfl
theorem j__law_pool : fa[11]? = some (.glo "_law_pool") := rfl
theorem j__law_pick : fa[12]? = some (.glo "_law_pick") := rfl
theorem j__law_long : fa[13]? = some (.glo "_law_long") := rfl
theorem j__law_eventword : fa[14]? = some (.glo "_law_eventword") := rfl
theorem j__law_nameword : fa[15]? = some (.glo "_law_nameword") := rfl
theorem j__law_eventset : fa[16]? = some (.glo "_law_eventset") := rfl
theorem j__law_pairset : fa[17]? = some (.glo "_law_pairset") := rfl
theorem j__law_any : fa[18]? = some (.glo "_law_any") := rfl
theorem j__law_inside : fa[19]? = some (.glo "_law_inside") := rfl
theorem j__law_tall : fa[20]? = some (.glo "_law_tall") := rfl
theorem j__law_named : fa[21]? = some (.glo "_law_named") := rfl
theorem j_law : fa[22]? = some (.glo "law") := rfl
theorem j_len : fa[23]? = some (.free "len") := rfl
theorem j_range : fa[24]? = some (.free "range") := rfl
theorem j_abs : fa[25]? = some (.free "abs") := rfl
theorem j_int : fa[26]? = some (.free "int") := rfl
theorem j_isinstance : fa[27]? = some (.free "isinstance") := rfl
theorem j_bool : fa[28]? = some (.free "bool") := rfl
theorem j_str : fa[29]? = some (.free "str") := rfl
theorem j_list : fa[30]? = some (.free "list") := rfl
theorem j_tuple : fa[31]? = some (.free "tuple") := rfl
theorem j_set : fa[32]? = some (.free "set") := rfl
theorem j_sorted : fa[33]? = some (.free "sorted") := rfl
theorem j_max : fa[34]? = some (.free "max") := rfl
theorem j_all : fa[35]? = some (.free "all") := rfl
theorem j_reversed : fa[36]? = some (.free "reversed") := rfl
theorem j_LOWER : fa[37]? = some (.str "LOWER" "abcdefghijklmnopqrstuvwxyz") := rfl
theorem j_UPPER : fa[38]? = some (.str "UPPER" "ABCDEFGHIJKLMNOPQRSTUVWXYZ") := rfl
theorem j_DIGITS : fa[39]? = some (.str "DIGITS" "0123456789") := rfl
theorem j_LONGEST_NAME : fa[40]? = some (.int "LONGEST_NAME" 12) := rfl
theorem j_NO_EVENTS : fa[41]? = some (.glo "NO_EVENTS") := rfl
theorem j_FIRST_PART : fa[42]? = some (.glo "FIRST_PART") := rfl
def firsts : List (Str × He.Dv) := [("stop", .int 1), ("skip", .int 1), ("prefix", .int 2), ("external", .int 1), ("internal", .int 1), ("sequence", .int 1), ("parallel", .int 2), ("hide", .int 2), ("rename", .int 2), ("name", .int 2)]
def ts : List He.Tab := [((fun K => He.ga K "FIRST_PART"), ["stop", "skip", "prefix", "external", "internal", "sequence", "parallel", "hide", "rename", "name"])]
def tf : List He.Defn := [("height", none)]
def ex (K : PySem.W.Frag) : Bool := He.tupB K "NO_EVENTS" (noEv.map He.Dv.str) && He.valsB K (He.ga K "FIRST_PART") firsts
abbrev RR : PySem.W.OpenRow := PySem.W.OpenLaw.row PySem.Challenge.rw_parley_k01_names_heights_references
abbrev hk : PySem.W.Hook := He.hookX 4 fa fn ts tf ex
def ob (s : PySem.W.SharedT) : He.AlX := He.obsX 4 fa fn ts tf ex (HandSHeadRun.getT s)
theorem ob_eq (s : PySem.W.SharedT) : ob s = hk.obs s.abs := He.obsX_eq (HandSHeadRun.getT_eq s)
theorem runF (w : World) : HandSHeadRun.RunEq RR (PySem.W.view RR.prog [lawAt]) hk ob 4000 loose (w.withFollow "special-get-raises" false) := by
  intro os
  kernel_rfl
theorem runT (w : World) : HandSHeadRun.RunEq RR (PySem.W.view RR.prog [lawAt]) hk ob 4000 loose (w.withFollow "special-get-raises" true) := by
  intro os
  kernel_rfl
theorem run (w : World) : HandSHeadRun.RunEq RR (PySem.W.view RR.prog [lawAt]) hk ob 4000 loose w := PySem.W.byRow2 "special-get-raises" runF runT w
section
variable {P : Program} {w : World} {K : PySem.W.Frag} {h : Heap} {mg : Str → Option Value} {f : Addr}
theorem df_of (X : K.In h) (G : h.Ns mainGlobals mg) (c : He.SaysD fa fn K) {x : Str} {st : Stmt} {i j : Nat} (hi : fn[i]? = some (dd x st)) (hj : fa[j]? = some (.glo x)) : Df K mg x st := by
  obtain ⟨fd, F⟩ := c.def_ i hi
  exact ⟨He.ga K x, fd, F, He.glo_ok X G (c.fact j hj)⟩
theorem first_tab (c : He.SaysX fa fn ts tf ex w h K) : FirstTab K w (He.ga K "FIRST_PART") := by
  obtain ⟨es, n, kd⟩ := c.t.tab 0
  have hv := (Bool.and_eq_true_iff.mp c.more).2
  intro p
  have key : ((kindOf p, He.Dv.int ((firstOf p : Nat) : Int)) : Str × He.Dv) ∈ firsts := by
    unfold firsts
    cases p with
    | stop => exact List.mem_of_getElem? (i := 0) rfl
    | skip => exact List.mem_of_getElem? (i := 1) rfl
    | name x => exact List.mem_of_getElem? (i := 9) rfl
    | pre e q => exact List.mem_of_getElem? (i := 2) rfl
    | hide e q => exact List.mem_of_getElem? (i := 7) rfl
    | ren e q => exact List.mem_of_getElem? (i := 8) rfl
    | par e q r => exact List.mem_of_getElem? (i := 6) rfl
    | bin k q r =>
      cases k with
      | ext => exact List.mem_of_getElem? (i := 3) rfl
      | inn => exact List.mem_of_getElem? (i := 4) rfl
      | seq => exact List.mem_of_getElem? (i := 5) rfl
  obtain ⟨u, e, r⟩ := He.valsB_ok hv key
  exact ⟨es, n, u, kd.at_, kd.lit, e, r⟩
theorem no_events (c : He.SaysX fa fn ts tf ex w h K) : ∀ H, SqT K H (He.ga K "NO_EVENTS") (noEv.map V.str) := fun H =>
  He.tupB_ok (Bool.and_eq_true_iff.mp c.more).1 H
theorem facts (X : K.In h) (G : h.Ns mainGlobals mg) (hfa : mg ("law" : Str) = some (.ref f)) (c : He.SaysX fa fn ts tf ex w h K) :
    LamX.LawAtS PySem.Challenge.rw_parley_k01_names_heights_references w K CX0 14 63 "script" mg f h := by
  have cd := c.t.d
  obtain ⟨fd, F⟩ := cd.def_ _ i_law
  have e := hfa.symm.trans (He.glo_ok X G (cd.fact _ j_law))
  cases e
  obtain ⟨fh, Fh⟩ := cd.def_ _ i_height
  obtain ⟨fp, Fp⟩ := cd.def_ _ i_parts
  obtain ⟨oc, od, dV, kV, doc, pm, an, cdv, ct, osl, efh, lk, hcd2, _, _⟩ := Fh.ex
  obtain ⟨c0, ec0⟩ := He.codeIn_ref hcd2
  have hcode : fh.code = .ref c0 := by rw [efh]; exact ec0
  have lk2 : K.lookup (He.fAd K ("height", none)) = some ⟨oc, od, .func fh, osl⟩ := lk
  have eco : He.codeOf K ("height", none) = c0 := He.codeOf_eq lk2 hcode
  have mT : (("height", none) : He.Defn) ∈ tf := List.mem_cons_self
  refine ⟨fd, [He.cT K ("height", none)], spLaw K [((He.cT K ("height", none)).2, qn)], fun p hp => ?_, fun p hp => ?_, fun p hp => ?_, ?_, fun H a ns hl _ hT hS => ?_, fun base kin hns hTB => ?_⟩
  · rw [List.mem_singleton.mp hp]; exact c.empty _ mT
  · rw [List.mem_singleton.mp hp]; exact c.out _ mT
  · rw [List.mem_singleton.mp hp]; exact PySem.W.codeHd_of_K X (c.hd _ mT)
  · have b := FunD.bindsA (ps := ["script"]) F fun _ _ _ _ _ _ us hl => match us, hl with | [_], _ => rfl
    exact fun s v => b s [v] rfl
  · refine ⟨a, ns, rfl, hS, fun p hp => ?_, fun _ => rfl⟩
    rw [List.mem_singleton.mp hp]
    exact TabS.nil (hT _ List.mem_cons_self)
  · have z : ∀ {x : Str} {j : Nat}, fa[j]? = some (.free x) → mg x = none := fun hj => He.free_ok X G (cd.fact _ hj)
    have gs : ∀ {x y : Str} {j : Nat}, fa[j]? = some (.str x y) → ∃ u, mg x = some u ∧ RelV (.str y) u := fun hj => by
      obtain ⟨t, e⟩ := He.str_ok X G (cd.fact _ hj)
      exact ⟨_, e, t, rfl⟩
    have gi : ∀ {x : Str} {y : Int} {j : Nat}, fa[j]? = some (.int x y) → ∃ u, mg x = some u ∧ RelV (.int y) u := fun hj => by
      obtain ⟨t, e⟩ := He.int_ok X G (cd.fact _ hj)
      exact ⟨_, e, t, rfl⟩
    have gg : ∀ {x : Str} {j : Nat}, fa[j]? = some (.glo x) → ∃ u, mg x = some u ∧ RelV (.ref (He.ga K x)) u := fun hj => ⟨_, He.glo_ok X G (cd.fact _ hj), rfl⟩
    have d : ∀ {x : Str} {st : Stmt} {i j : Nat}, fn[i]? = some (dd x st) → fa[j]? = some (.glo x) → Df K mg x st := fun hi hj => df_of X G cd hi hj
    have k_cell := c_cell (P := (PySem.Challenge.rw_parley_k01_names_heights_references).prog) (w := w) (base := base) (d i__law_cell j__law_cell) (z j_len) (z j_abs) (z j_int)
    have k_draws := c_draws (P := (PySem.Challenge.rw_parley_k01_names_heights_references).prog) (w := w) (base := base) (d i__law_draws j__law_draws) (z j_range) (z j_int)
    have k_pool := c_pool (d i__law_pool j__law_pool) (z j_range) k_cell k_draws
    have k_pick := c_pick (P := (PySem.Challenge.rw_parley_k01_names_heights_references).prog) (w := w) (base := base) (d i__law_pick j__law_pick) (z j_len)
    have k_once := c_once (P := (PySem.Challenge.rw_parley_k01_names_heights_references).prog) (w := w) (base := base) (d i__law_once j__law_once)
    have k_like := c_like (P := (PySem.Challenge.rw_parley_k01_names_heights_references).prog) (w := w) (base := base) (d i__law_like j__law_like) (z j_isinstance) (z j_bool) (z j_str) (z j_int) (z j_list) (z j_tuple) (z j_len) (z j_range) (z j_all) 3
    have k_long := c_long (d i__law_long j__law_long) (z j_len) (z j_range) k_pick
    have k_eventword := c_eventword (d i__law_eventword j__law_eventword) k_pick k_long
    have k_nameword := c_nameword (d i__law_nameword j__law_nameword) k_pick k_long
    have k_eventset := c_eventset (d i__law_eventset j__law_eventset) (z j_range) (z j_sorted) (z j_tuple) k_pick k_eventword k_once
    have k_pairset := c_pairset (d i__law_pairset j__law_pairset) (z j_range) (z j_sorted) (z j_tuple) k_pick k_eventword k_once
    have k_any := c_any (d i__law_any j__law_any) k_pick k_eventword k_nameword k_eventset k_pairset 8
    have k_inside := c_inside (P := (PySem.Challenge.rw_parley_k01_names_heights_references).prog) (w := w) (base := base) (d i__law_inside j__law_inside)
    have k_tall := c_tall (d i__law_tall j__law_tall) (z j_max) k_inside 8
    have k_named := c_named (d i__law_named j__law_named) (z j_sorted) k_inside k_once 8
    have k_form := c_form (P := (PySem.Challenge.rw_parley_k01_names_heights_references).prog) (w := w) (base := base) (d i_has_form j_has_form) (z j_len) (z j_all) (gi j_LONGEST_NAME)
    have k_event := c_event (d i_is_event j_is_event) (gs j_LOWER) (gs j_DIGITS) (gg j_NO_EVENTS) (no_events c) k_form
    have k_pname := c_pname (d i_is_name j_is_name) (gs j_LOWER) (gs j_UPPER) (gs j_DIGITS) k_form
    have o_parts := f_parts (P := (PySem.Challenge.rw_parley_k01_names_heights_references).prog) (w := w) (mg := mg) (base := base) Fp (gg j_FIRST_PART) (first_tab c)
    have b_parts : L2.Binds K fp ["process"] [] := Fp.bindsN fun _ _ _ _ _ _ us hl => match us, hl with | [_], _ => rfl
    have k_parts : C8.Cal (PySem.Challenge.rw_parley_k01_names_heights_references).prog w K mg base 1 "parts" (spParts K) [] := ⟨_, fp, ["process"], [], o_parts, He.glo_ok X G (cd.fact _ j_parts), Fp.kp, b_parts, .nil⟩
    have l_parts : ∃ oc od sl, K.lookup (He.ga K "parts") = some ⟨oc, od, .func fp, sl⟩ := by
      obtain ⟨oc, od, dV, kV, doc, pm, an, cdv, ct, osl, ef, lk, _⟩ := Fp.ex
      exact ⟨oc, od, osl, lk⟩
    have k_fold := c_fold (P := (PySem.Challenge.rw_parley_k01_names_heights_references).prog) (w := w) (base := base) (kf := 1) valH WI (fun _ _ _ _ _ z => z) (d i_fold j_fold) (z j_len) (z j_reversed)
    have tb : TabB base mg c0 (He.cT K ("height", none)).2 := by
      have t := hTB _ List.mem_cons_self
      have e : (He.cT K ("height", none)).1 = c0 := eco
      rw [e] at t
      exact t
    have k_height := c_height (T := [((He.cT K ("height", none)).2, qn)]) Fh (He.glo_ok X G (cd.fact _ j_height)) hcode tb List.mem_cons_self (fun p hp _ => by rw [List.mem_singleton.mp hp]) (z j_max) o_parts b_parts l_parts (gg j_parts) k_fold
    have k_refs := c_references (d i_references j_references) (z j_set) (z j_list) (z j_sorted) k_parts
    exact f_law F (z j_range) (z j_len) (z j_int) k_pool k_pick k_eventword k_nameword k_event k_pname k_like k_any k_height k_refs k_tall k_named
end
end LW
open PySem PySem.W PySem.Calls PyProof.Rows
theorem PySem.Challenge.cw_parley_k01_names_heights_references_holds : PySem.Challenge.rw_parley_k01_names_heights_references.Holds := by
  w_on; o_law
  refine HandSHeadRun.head_any (r := OpenLaw.row PySem.Challenge.rw_parley_k01_names_heights_references) (q := view (OpenLaw.row PySem.Challenge.rw_parley_k01_names_heights_references).prog [LW.lawAt]) (H := LW.hk) (ob := LW.ob) (M := 4000) (loose := LW.loose) (d := HandSHeadRun.topDef (OpenLaw.row PySem.Challenge.rw_parley_k01_names_heights_references).prog LW.lawAt) (kwd := []) LW.ob_eq
    (by kernel_rfl) (fun s => by kernel_rfl) LW.run (by kernel_rfl) (by kernel_rfl) (by kernel_rfl) (by rfl) (by first | assumption | decide +kernel) (by decide +kernel) ⟨rfl, rfl, rfl, rfl, rfl, by decide +kernel⟩ ?hw ?hc
  case hw => w_witness2
  case hc =>
    refine LamX.walk_ofTsE (l := PySem.Challenge.rw_parley_k01_names_heights_references) (n := 63) (k := 14) (x := "script") (CX := fun _ => L2.CX0) rfl (by decide) (by kernel_rfl) ⟨rfl, by decide, by decide⟩ ?F (fun _ _ _ _ _ z => z)
    intro w mg fa h Y G hmg0
    obtain ⟨K, KX, c⟩ := Y
    have hmg : mg ("law" : PySem.Str) = some (.ref fa) := by
      have e : (HandSHeadRun.topDef (OpenLaw.row PySem.Challenge.rw_parley_k01_names_heights_references).prog LW.lawAt).name = ("law" : PySem.Str) := by kernel_rfl
      rw [← e]
      exact hmg0
    exact ⟨K, KX, LW.facts KX G hmg c⟩

