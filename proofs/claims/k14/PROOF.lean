import PyProof.Rows.All
import Wide.All
import OpenK.AllK
import Wide.FinOn
import HandS.ForMost
import HandS.ForExc
import HandS.Lambda
import HandS.Nested
import HandS.EndTab
import HandS.Conv
import HandS.Zip
import HandS.SetFor
import HandS.TupAny
import HandS.Gcd
import HandS.Wide
import HandS.WideBits
import HandS.IsInst
import HandS.ExcIs
import HandS.Flow
import KE.KMathGC
import KE.GoesMore
import PyProof.EnumMake
import PyProof.Draws
import HandS.ExcInit
import HandS.ExcSuper
import HandS.ExcField
import HandS.FStr
import KE.KExcSuper
import KE.KSuper
import PySem.Str
import HandS.TupMul
import KE.KTupSum
import KE.KExcIs
import HandS.DictComp
import HandS.Strs
import KE.GoesZip
import HandS.Style
import HandS.More
import HandS.SortInts
import HandS.Deep
import PyProof.TupleOfSeq
import PySem.Challenge.RW_swapshelves_k14_whole_swaps
set_option Elab.async false
set_option linter.all false
set_option maxRecDepth 100000
set_option genInjectivity false
set_option genSizeOf false
set_option genSizeOfSpec false
section
open PySem PySem.W PyProof.Rows
set_option maxHeartbeats 0
open_top head for PySem.Challenge.rw_swapshelves_k14_whole_swaps
end
set_option maxHeartbeats 4000000
namespace Sv
open PySem PySem.Spec PyProof.Rows L2 LamX NdefX
/-- a lambda: its text, what it captured, its defaults, its code object -/
structure LF where
  params : Arguments
  body : Expr
  scope : Scope
  qual : Str
  cl : List (Str × Addr)
  dV : Value
  c : Addr
def LF.fd (L : LF) (pm ctv : Value) : FuncData :=
  { PySem.W.kla_fn "<lambda>" L.qual L.params L.body L.scope L.cl pm (.ref L.c) ctv with defaults := L.dV }
def LF.obj (L : LF) (pm ctv : Value) : Obj := { cls := .type "function", data := .func (L.fd pm ctv) }
def LamO (f : Addr) (L : LF) : HO := .ext fun h => ∃ (od : Option Addr) (sl : Array (Option Value)) (pm ctv : Value), h.get? f = some (⟨.type "function", od, .func (L.fd pm ctv), sl⟩ : Obj)
theorem lamO_tbl {f : Addr} {L : LF} (ps : Array Value) : LamO f L ≠ .tbl ps := fun z => by
  unfold LamO at z
  cases z
theorem lamO_at {P : Program} {w : World} {H : Hp} {h : Heap} {f : Addr} {L : LF} (hok : HOk P w H h) (e : H f = some (LamO f L)) :
    ∃ (od : Option Addr) (sl : Array (Option Value)) (pm ctv : Value), h.get? f = some (⟨.type "function", od, .func (L.fd pm ctv), sl⟩ : Obj) := (hok f _ e).1
section
variable {M : Model} {A : Around} {E : Value → Shared → Prop} {s : Shared} {qual : Str} {params : Arguments} {body : Expr} {scope : Scope} {env : Env} {c P : Addr} {ps : Array Value}
  {pos : Pos} {fl : Nat} {mg : Str → Option Value} {clos : List (Str × Addr)} {dV : Value} {Q : Value → Shared → Prop}
/-- the end of its making, the code object new -/
theorem tail_new (hcl : closureFor scope env = pure clos) (hge : env.globals = mainGlobals) (hg : s.heap.Ns mainGlobals mg) (hcode : env.code = .ref c) (C : PySem.W.CodeHd s.heap c P)
    (hP : s.heap.get? P = some { cls := .none, data := .fields ps }) (ht : TriplesOk ps.toList) (hnf : codeAmong pos ps.toList = none) (hgP : mainGlobals ≠ P) (hb : s.heap.BuiltinsAt mg P)
    (h : ∀ c' ctv h' tk, Heap.ExtBut P s.heap h' → s.heap.objs.size ≤ c' → c' < h'.objs.size → h'.CodeRec (.ref c') qual →
      h'.get? P = some { cls := .none, data := .fields (ps ++ #[rawInt pos.line, rawInt pos.col, .ref c']) } →
      Q (.ref h'.objs.size) { s with heap := h'.push (LF.obj ⟨params, body, scope, qual, clos, dV, c'⟩ ((mg "__name__").getD .none) ctv), toks := tk }) :
    wpAny M A (makeTail "<lambda>" qual params (.expr body) scope env dV .none none pos fl) Q E s := by
  obtain ⟨bm, ob, e1, e2, _, e3, e4, e5, e6, e7⟩ := hb
  unfold makeTail
  rw [hcl, hge]
  refine wpAny_bind (wpAny_pure ?_)
  by_cases hz : clos.isEmpty = true
  · rw [if_pos hz]
    refine wpAny_bind (wpAny_pure (wpAny_bind (wpAny_functionCodeX hcode (C.code hP ht) (C.tab hP) hnf fun c' h' tk x1 x2 x3 _ x4 x5 _ => ?_)))
    have g1 := hg.extBut x1 hgP
    refine wpAny_bind (wpAny_builtinsFor g1 e1 e2 (x1 _ _ e3 e4) e5 e6 e7 (wpAny_bind (wpAny_nsGet g1 ?_)))
    exact wpAny_bind (wpAny_pure (wpAny_newObj_type (h c' .none h' tk x1 x2 x3 x4 x5.2) (by size_fits)))
  · rw [if_neg hz]
    refine wpAny_bind (wpAny_newTextTuple ?_)
    have kp : ∀ (oT : Obj) b o, s.heap.get? b = some o → (s.heap.push oT).get? b = some o := fun oT b o e => Heap.get?_push_of_some _ e
    refine wpAny_bind (wpAny_functionCodeX hcode ((C.keeps (kp _)).code (kp _ _ _ hP) ht) ((C.keeps (kp _)).tab (kp _ _ _ hP)) hnf fun c' h' tk x1 x2 x3 _ x4 x5 _ => ?_)
    have g1 := (hg.push _).extBut x1 hgP
    have x1' : Heap.ExtBut P s.heap h' := fun b o n e => x1 b o n (kp _ b o e)
    have x2' : s.heap.objs.size ≤ c' := Nat.le_trans (by rw [Heap.size_push]; omega) x2
    refine wpAny_bind (wpAny_builtinsFor g1 e1 e2 (x1' _ _ e3 e4) e5 e6 e7 (wpAny_bind (wpAny_nsGet g1 ?_)))
    exact wpAny_bind (wpAny_pure (wpAny_newObj_type (h c' _ h' tk x1' x2' x3 x4 x5.2) (by size_fits)))
/-- .. the code object found -/
theorem tail_hit {c' : Addr} (hcl : closureFor scope env = pure clos) (hge : env.globals = mainGlobals) (hg : s.heap.Ns mainGlobals mg) (hcode : env.code = .ref c) (C : PySem.W.CodeHd s.heap c P)
    (hP : s.heap.get? P = some { cls := .none, data := .fields ps }) (ht : TriplesOk ps.toList) (hf : codeAmong pos ps.toList = some (.ref c')) (hb : s.heap.BuiltinsAt mg P)
    (h : ∀ (ctv : Value) (h' : Heap) (tk : Tok), (∀ b o, s.heap.get? b = some o → h'.get? b = some o) → s.heap.objs.size ≤ h'.objs.size →
      Q (.ref h'.objs.size) { s with heap := h'.push (LF.obj ⟨params, body, scope, qual, clos, dV, c'⟩ ((mg "__name__").getD .none) ctv), toks := tk }) :
    wpAny M A (makeTail "<lambda>" qual params (.expr body) scope env dV .none none pos fl) Q E s := by
  obtain ⟨bm, ob, e1, e2, _, e3, e4, e5, e6, e7⟩ := hb
  unfold makeTail
  rw [hcl, hge]
  refine wpAny_bind (wpAny_pure ?_)
  by_cases hz : clos.isEmpty = true
  · rw [if_pos hz]
    refine wpAny_bind (wpAny_pure (wpAny_bind (wpAny_functionCode_hit hcode (C.code hP ht) hf ?_)))
    refine wpAny_bind (wpAny_builtinsFor hg e1 e2 e4 e5 e6 e7 (wpAny_bind (wpAny_nsGet hg ?_)))
    exact wpAny_bind (wpAny_pure (wpAny_newObj_type (h .none s.heap s.toks (fun _ _ e => e) (Nat.le_refl _)) (by size_fits)))
  · rw [if_neg hz]
    refine wpAny_bind (wpAny_newTextTuple ?_)
    have kp : ∀ (oT : Obj) b o, s.heap.get? b = some o → (s.heap.push oT).get? b = some o := fun oT b o e => Heap.get?_push_of_some _ e
    refine wpAny_bind (wpAny_functionCode_hit hcode ((C.keeps (kp _)).code (kp _ _ _ hP) ht) hf ?_)
    refine wpAny_bind (wpAny_builtinsFor (hg.push _) e1 e2 (kp _ _ _ e4) e5 e6 e7 (wpAny_bind (wpAny_nsGet (hg.push _) ?_)))
    have sz : ∀ oT : Obj, s.heap.objs.size ≤ (s.heap.push oT).objs.size := fun oT => by rw [Heap.size_push]; omega
    exact wpAny_bind (wpAny_pure (wpAny_newObj_type (h _ _ s.toks (kp _) (sz _)) (by size_fits)))
end
section
variable {X : Cx} {pins : List (Addr × Obj)} {σ : L2.St} {H : Hp} {s : Shared}
/-- a function object just made is known from now on -/
theorem inv_lam {L : LF} {t' : Nat} {pm ctv : Value} (I : Inv X pins σ H s) :
    Inv X pins σ (upd H s.heap.objs.size (LamO s.heap.objs.size L)) { s with heap := s.heap.push (L.obj pm ctv), toks := t' } := by
  refine I.laid (a := s.heap.objs.size) (fun b u e => Heap.get?_push_of_some _ e) (Nat.le_refl _) ?_
  have e : (s.heap.push (L.obj pm ctv)).get? s.heap.objs.size = some (L.obj pm ctv) := Heap.get?_push_size _ rfl
  exact ⟨⟨_, _, pm, ctv, e⟩, ⟨_, e⟩, fun h1 h2 ⟨a1, a2, a3, a4, z⟩ st => ⟨a1, a2, a3, a4, st _ z⟩⟩
/-- what is asked of the makers' tables -/
structure LamT (X : Cx) (T : List (Addr × Str)) (c P : Addr) : Prop where
  tb : TabB X.base X.mg c P
  code : X.env.code = .ref c
  mem : (P, X.env.qual ++ "<lambda>") ∈ T
  uni : ∀ p ∈ T, p.1 = P → p.2 = X.env.qual ++ "<lambda>"
theorem lam_tail {T : List (Addr × Str)} {c P : Addr} {params : Arguments} {body : Expr} {scope : Scope} {pos : Pos} {fl : Nat} {dV : Value} {E : Value → Shared → Prop} {Q : Value → Shared → Prop} (I : Inv X pins σ H s) (LT : LamT X T c P)
    (hT : Tabs T H) (hfree : ∀ y ∈ scope.names, y.2 = .free → ∃ c, X.env.cells.lookup y.1 = some c)
    (h : ∀ (f c' : Addr) (H1 : Hp) (s' : Shared), Inv X pins σ H1 s' → ExtN H H1 → (∀ b, H1 b = none → H b = none) → Tabs T H1 → H f = none →
      H1 f = some (LamO f ⟨params, body, scope, X.env.qual ++ "<lambda>", cloFrom X.env.cells scope.names [], dV, c'⟩) → H1 c' = some (CodeO c' (X.env.qual ++ "<lambda>")) → Q (.ref f) s') :
    wpAny (model X.prog X.w) X.A (makeTail "<lambda>" (X.env.qual ++ "<lambda>") params (.expr body) scope X.env dV .none none pos fl) Q E s := by
  obtain ⟨ps, hP, ht, ha⟩ := hT _ LT.mem
  have bP : s.heap.BuiltinsAt X.mg P := LT.tb.bm.keeps I.bk
  have gP : s.heap.get? P = some { cls := .none, data := .fields ps } := I.hok P _ hP
  cases hc : codeAmong pos ps.toList with
  | none =>
    refine tail_new (mg := X.mg) (c := c) (P := P) (ps := ps) (closure_ok hfree) I.ok.glob (I.mod.glob.keeps I.bk) LT.code (LT.tb.code.keeps I.bk) gP ht hc LT.tb.gP bP fun c' ctv h' tk x1 x2 x3 x4 x5 => ?_
    obtain ⟨c2, oc, vs, t, e2, hoc, hd, hv⟩ := x4
    cases e2
    have nC : H c' = none := I.hok.fresh x2
    have I1 := inv_table (t' := tk) (more := #[rawInt pos.line, rawInt pos.col, .ref c']) (h' := h') I hP (fun b o hb e => x1 b o hb e) x5 x2 ⟨oc, vs, t, hoc, hd, hv⟩
    generalize hG : upd (upd H P (.tbl (ps ++ #[rawInt pos.line, rawInt pos.col, .ref c']))) c' (CodeO c' (X.env.qual ++ "<lambda>")) = G at I1
    have atC : G c' = some (CodeO c' (X.env.qual ++ "<lambda>")) := by rw [← hG]; exact upd_same
    have hE : ExtN H G := fun b o e n => by
      rw [← hG, upd_ne (ne_of_none e nC), upd_ne (fun z => n ps (Option.some.inj (e.symm.trans (by rw [z]; exact hP))))]
      exact e
    have eL : (ps ++ #[rawInt pos.line, rawInt pos.col, .ref c']).toList = ps.toList ++ [rawInt pos.line, rawInt pos.col, .ref c'] := by simp
    have T1 : Tabs T G := fun p hp => by
      by_cases hb : p.1 = P
      · rw [LT.uni p hp hb, hb]
        refine ⟨_, by rw [← hG, upd_ne (ne_of_none hP nC), upd_same], by rw [eL]; exact PySem.TriplesOk_snoc _ _ _ _ ht, fun p' cv hcv => ?_⟩
        rw [eL] at hcv
        rcases among_app _ ht hcv with z | z
        · obtain ⟨c0, q1, q2⟩ := ha p' cv z
          exact ⟨c0, q1, hE _ _ q2 codeO_ne⟩
        · exact ⟨c', z, atC⟩
      · obtain ⟨ps', a1, a2, a3⟩ := hT p hp
        refine ⟨ps', by rw [← hG, upd_ne (ne_of_none a1 nC), upd_ne hb]; exact a1, a2, fun p' cv hcv => ?_⟩
        obtain ⟨c0, q1, q2⟩ := a3 p' cv hcv
        exact ⟨c0, q1, hE _ _ q2 codeO_ne⟩
    have nF := I1.hok.fresh (Nat.le_refl _)
    have I2 := inv_lam (L := ⟨params, body, scope, X.env.qual ++ "<lambda>", cloFrom X.env.cells scope.names [], dV, c'⟩) (t' := tk) (pm := (X.mg "__name__").getD .none) (ctv := ctv) I1
    refine h h'.objs.size c' _ _ I2 (fun b o e n => ?_) (fun b e => ?_) (T1.ext fun b o e => ?_) (I.hok.fresh (Nat.le_trans x2 (Nat.le_of_lt x3))) upd_same ?_
    · exact (upd_ne (ne_of_none (hE b o e n) nF)).trans (hE b o e n)
    · have e1 := upd_none e
      rw [← hG] at e1
      exact upd_none (upd_none e1)
    · exact (upd_ne (ne_of_none e nF)).trans e
    · exact (upd_ne (Nat.ne_of_lt x3)).trans atC
  | some cv =>
    obtain ⟨c', e, hco⟩ := ha pos cv hc
    subst e
    refine tail_hit (mg := X.mg) (c := c) (P := P) (ps := ps) (closure_ok hfree) I.ok.glob (I.mod.glob.keeps I.bk) LT.code (LT.tb.code.keeps I.bk) gP ht hc bP fun ctv h' tk x1 x2 => ?_
    have I1 : Inv X pins σ H { s with heap := h', toks := tk } := I.kept x1
    have nF : H h'.objs.size = none := I1.hok.fresh (Nat.le_refl _)
    have I2 := inv_lam (L := ⟨params, body, scope, X.env.qual ++ "<lambda>", cloFrom X.env.cells scope.names [], dV, c'⟩) (t' := tk) (pm := (X.mg "__name__").getD .none) (ctv := ctv) I1
    refine h h'.objs.size c' _ _ I2 (fun b o e n => ?_) (fun b e => upd_none e) (hT.ext fun b o e => ?_) nF upd_same ?_
    · exact (upd_ne (ne_of_none e nF)).trans e
    · exact (upd_ne (ne_of_none e nF)).trans e
    · exact (upd_ne (ne_of_none hco nF)).trans hco
end
/-- what the defaults' place holds -/
def DflAt (H : Hp) (dV : Value) (dvs : List V) : Prop := (dvs = [] ∧ dV = .none) ∨ (dvs ≠ [] ∧ ∃ T, dV = .ref T ∧ H T = some (.tup dvs))
/-- the reading of a lambda: a new function, mk its datum -/
def tLamV (T : List (Addr × Str)) (dvs : List V) (mk : Value → Addr → LF) : TE := fun _ H Q => Tabs T H ∧ ∀ (f c' : Addr) (dV : Value) (H1 : Hp), ExtN H H1 → (∀ b, H1 b = none → H b = none) → Tabs T H1 → H f = none →
  H1 f = some (LamO f (mk dV c')) → H1 c' = some (CodeO c' (mk dV c').qual) → DflAt H1 dV dvs → Q (.ref f) H1
section
variable {X : Cx}
theorem pe_lam0 {T : List (Addr × Str)} {c P : Addr} {params : Arguments} {body : Expr} {scope : Scope} {pos : Pos} (LT : LamT X T c P) (hd : defaultsOf params X.env = ([], []))
    (hfree : ∀ y ∈ scope.names, y.2 = .free → X.env.scope.names.lookup y.1 = some .cell ∨ X.env.scope.names.lookup y.1 = some .free) :
    PE X (.Lambda params body scope pos) (tLamV T [] fun dV c' => ⟨params, body, scope, X.env.qual ++ "<lambda>", cloFrom X.env.cells scope.names [], dV, c'⟩) := by
  refine ⟨fun pins s σ H Q I ⟨hT, h⟩ => PySem.W.kla_eval hd ?_⟩
  rw [makeFunction_eq]
  simp only [List.zip_nil_right, List.filterMap_nil, List.isEmpty_nil, if_true, pure_bind]
  have hf : ∀ y ∈ scope.names, y.2 = .free → ∃ c, X.env.cells.lookup y.1 = some c := fun y hy e => (hfree y hy e).elim (fun z => I.ok.has _ (.inl z)) fun z => I.ok.has _ (.inr z)
  exact lam_tail I LT hT hf fun f c' H1 s' I1 a1 a2 a3 a4 a5 a6 => ⟨.ref f, H1, I1, rfl, h f c' .none H1 a1 a2 a3 a4 a5 a6 (.inl ⟨rfl, rfl⟩)⟩
theorem pe_lam1 {T : List (Addr × Str)} {c P : Addr} {params : Arguments} {body : Expr} {scope : Scope} {pos : Pos} {i j : Int} {jn : Nat} {p2 : Pos} (LT : LamT X T c P)
    (hd : defaultsOf params X.env = ([eval (.Constant (.int i) jn p2) X.env], []))
    (hfree : ∀ y ∈ scope.names, y.2 = .free → X.env.scope.names.lookup y.1 = some .cell ∨ X.env.scope.names.lookup y.1 = some .free) :
    PE X (.Lambda params body scope pos) (tLamV T [.int i] fun dV c' => ⟨params, body, scope, X.env.qual ++ "<lambda>", cloFrom X.env.cells scope.names [], dV, c'⟩) := by
  refine ⟨fun pins s σ H Q I ⟨hT, h⟩ => ?_⟩
  rw [arm_eval_Lambda, hd]
  have hf : ∀ y ∈ scope.names, y.2 = .free → ∃ c, X.env.cells.lookup y.1 = some c := fun y hy e => (hfree y hy e).elim (fun z => I.ok.has _ (.inl z)) fun z => I.ok.has _ (.inr z)
  refine wpAny_bind (wpAny_evalAll_cons (thn ((pe_int (X := X) (i := i) (j := jn) (pos := p2)).run pins s σ H (fun v H1 => v = .int i ∧ H1 = H) I ⟨rfl, rfl⟩) fun u s1 ⟨v, H1, I1, r1, q1⟩ => ?_))
  obtain ⟨ev, eH⟩ := q1
  subst ev
  subst eH
  refine wpAny_evalAll_nil (wpAny_bind (wpAny_holding (wpAny_pure ?_)))
  rw [makeFunction_eq]
  simp only [List.zip_nil_right, List.filterMap_nil, List.isEmpty_nil, if_true, pure_bind, List.isEmpty_cons, Bool.false_eq_true, if_false]
  refine wpAny_bind (wpAny_newTextTuple ?_)
  have nT := I1.hok.fresh (Nat.le_refl s1.heap.objs.size)
  have I2 : Inv X pins σ (upd H1 s1.heap.objs.size (.tup [.int i])) { s1 with heap := s1.heap.push { cls := .type "tuple", data := .seq [u].toArray } } := by
    refine I1.laid (t' := s1.toks) (fun b o e => Heap.get?_push_of_some _ e) (Nat.le_refl _) ⟨(by decide : (1 : Nat) ≤ sizeLine), [u], .cons r1 .nil, ?_⟩
    exact ⟨_, Heap.get?_push_size _ rfl, rfl, ⟨_, rfl⟩⟩
  have hT2 : Tabs T (upd H1 s1.heap.objs.size (.tup [.int i])) := hT.ext fun b o e => by
    rw [upd_ne (ne_of_none e nT)]
    exact e
  refine lam_tail I2 LT hT2 hf fun f c' H2 s' I3 a1 a2 a3 a4 a5 a6 => ⟨.ref f, H2, I3, rfl, h f c' _ H2 (fun b o e n => ?_) (fun b e => upd_none (a2 b e)) a3 (upd_none a4) a5 a6 (.inr ⟨List.cons_ne_nil _ _, _, rfl, ?_⟩)⟩
  · exact a1 b o (by rw [upd_ne (ne_of_none e nT)]; exact e) n
  · exact a1 _ _ upd_same (fun ps z => nomatch z)
end
end Sv
set_option maxHeartbeats 4000000
namespace Sv
open PySem PySem.Spec PyProof.Rows L2 LamX NdefX
def LF.nf (L : LF) : NF := ⟨"<lambda>", L.qual, L.params, [], L.scope, L.cl, L.c⟩
/-- how the defaults bind -/
def LBinds (L : LF) (ps : List Str) (dvs : List V) : Prop := ∀ (H : Hp) (P : Program) (w : World) (s : Shared), HOk P w H s.heap → DflAt H L.dV dvs →
  ∃ us, Vals dvs us ∧ ∀ pm ctv, BindsTo s (L.fd pm ctv) ⟨[], []⟩ (ps.zip us)
theorem lbinds0 {L : LF} (h : ∀ q cl pm cv ctv, bindArgs (PySem.W.kla_fn "<lambda>" q L.params L.body L.scope cl pm cv ctv) ⟨[], []⟩ = pure []) : LBinds L [] [] := fun H P w s hok d => by
  rcases d with ⟨_, e⟩ | ⟨e, _⟩
  · refine ⟨[], .nil, fun pm ctv => .of_eq ?_⟩
    have z := h L.qual L.cl pm (.ref L.c) ctv
    unfold LF.fd
    rw [e]
    exact z
  · exact absurd rfl e
theorem lbinds1 {L : LF} {a : Str} {v : V} (h : ∀ q cl pm cv ctv (T : Addr) (u : Value), ∃ k, bindArgs { PySem.W.kla_fn "<lambda>" q L.params L.body L.scope cl pm cv ctv with defaults := .ref T } ⟨[], []⟩ = seqItems? (.ref T) >>= k ∧
    k (some [u].toArray) = pure [(a, u)]) : LBinds L [a] [v] := fun H P w s hok d => by
  rcases d with ⟨e, _⟩ | ⟨_, T, e, hT⟩
  · cases e
  · obtain ⟨_, its, r, o, ho, _, n, hd⟩ := hok T _ hT
    obtain ⟨u, rfl, ru⟩ := Vals.one r
    refine ⟨[u], .cons ru .nil, fun pm ctv M A Q E q => ?_⟩
    obtain ⟨k, e1, e2⟩ := h L.qual L.cl pm (.ref L.c) ctv T u
    unfold LF.fd
    rw [e]
    rw [e1]
    refine wpAny_bind (wpAny_seqItems ho hd ?_)
    rw [e2]
    exact wpAny_pure q
/-- the promise of the lambda L at f, its cells holding ws -/
structure LOk (P : Program) (w : World) (K : PySem.W.Frag) (mg : Str → Option Value) (base : Heap) (k : Nat) (f : Addr) (L : LF) (fr : List Str) (dvs : List V) (tl : List (Option V) → XK → Hp → VK → Prop) : Prop where
  run : ∀ (A : Around) (outer : List Env) (s : Shared) (H : Hp) (ws : List (Option V)) (Q : VK) (E : XK), Room k A → Env0 P w K mg base A outer s H → H f = some (LamO f L) → H L.c = some (CodeO L.c L.qual) → DflAt H L.dV dvs →
    CellsAt L.cl fr ws s.heap H → tl ws E H Q → codeAny (model P w) A (.call (.ref f) ⟨[], []⟩) (CR (L2.CX P w) outer P w H s Q E) s
section
variable {P : Program} {w : World} {K : PySem.W.Frag} {mg : Str → Option Value} {base : Heap} {N ps fr : List Str} {L : LF} {f : Addr} {k : Nat} {dvs : List V} {tl : List (Option V) → XK → Hp → VK → Prop}
theorem lok_of (S : NScope N ps fr L.scope) (hb : LBinds L ps dvs) (hl : dvs.length = ps.length)
    (hbody : ∀ (A : Around) (outer : List Env) (s : Shared) (H : Hp) (ws : List (Option V)) (Q : VK) (E : XK), Room k (A.deeper (envF L.nf f s.heap.objs.size)) → ws.length = fr.length → tl ws E H Q →
      ∃ t, PE (ncx (L2.CX P w) P w K mg base N L.nf f A outer s H E) L.body t ∧ t (startF N dvs ws) H Q) : LOk P w K mg base (k + 1) f L fr dvs tl := by
  refine ⟨fun A outer s H ws Q E hr e0 hf hc hd C ht => ?_⟩
  have lim : s.heap.NoLimit := e0.mod.nolimit.keeps fun b o e => (e0.bs b o e).1
  obtain ⟨od, sl, pm, ctv, ho⟩ := lamO_at e0.hok hf
  obtain ⟨us, r, hbi⟩ := hb H P w s e0.hok hd
  obtain ⟨⟨oc, vs, t, hoc, hdc, hvc⟩, _, _⟩ := e0.hok L.c _ hc
  have hus : us.length = ps.length := by rw [← r.length]; exact hl
  refine PySem.W.kla_callFunE hr.depth ho rfl S.co S.gen rfl ⟨L.c, oc, vs, t, rfl, hoc, hdc, hvc⟩ (hbi pm ctv _ _ _ _ ?_)
  refine wpAny_newFunctionEnv S.nocell (fun ⟨n, _⟩ hy => S.par n (List.of_mem_zip hy).1) (fun h₁ hns hsb => ⟨lim.fresh _ hsb, ?_⟩) S.kind
  show codeAny _ _ (.expr L.body (envF L.nf f s.heap.objs.size)) _ _
  have kp : ∀ b o, s.heap.get? b = some o → h₁.get? b = some o := fun b o e => hsb.extBut b o (Nat.ne_of_lt (Heap.lt_size e)) (Heap.get?_push_of_some _ e)
  obtain ⟨t, hp, hq⟩ := hbody A outer s H ws Q E (hr.deeper _) C.len ht
  have I : Inv (ncx (L2.CX P w) P w K mg base N L.nf f A outer s H E) [] (startF N dvs ws) H { s with heap := h₁, toks := s.toks + (ps.zip us).length } := inv_startN (F := L.nf) S hr.hd e0 hl r C hns kp
  refine PySem.W.kla_codeExpr (wpAny_mono (hp.run [] _ _ H Q I hq) (fun u s' hs => ?_) fun e s' hs => hs)
  obtain ⟨v', H', J, rv, q⟩ := hs
  exact ⟨v', H', J.os, J.bare, J.base, J.hok, rv, q⟩
theorem LOk.mono {j : Nat} (o : LOk P w K mg base j f L fr dvs tl) (h : j ≤ k) : LOk P w K mg base k f L fr dvs tl := ⟨fun A outer s H ws Q E hr => o.run A outer s H ws Q E (hr.mono h)⟩
end
/-- what the cells held they hold behind anything that keeps the untracked -/
theorem cells_later {fs ex : List Addr} {cl : List (Str × Addr)} {fr : List Str} {ws : List (Option V)} {h h1 : Heap} {H H1 : Hp} (C : CellsAt cl fr ws h H) (nf : ∀ y c, cl.lookup y = some c → c ∉ fs) (nx : ∀ y c, cl.lookup y = some c → c ∉ ex) (u : Un fs ex H H1 h h1) :
    CellsAt cl fr ws h1 H1 := by
  have kp : ∀ y c, cl.lookup y = some c → ∀ v, h.IsCell c v → h1.IsCell c v := fun y c e v ⟨o, ho, hd⟩ => ⟨o, u.keep c o ho (C.all y c e).1 (nf y c e) (nx y c e), hd⟩
  refine ⟨C.len, fun y c e => ?_, C.inj, fun i y e => ?_⟩
  · obtain ⟨n, v, z⟩ := C.all y c e
    refine ⟨?_, v, kp y c e v z⟩
    obtain ⟨o, ho, _⟩ := z
    exact u.free c o ho n (nx y c e)
  · obtain ⟨c, hc, hv⟩ := C.has i y e
    refine ⟨c, hc, fun v ev => ?_⟩
    obtain ⟨uu, r, z⟩ := hv v ev
    exact ⟨uu, r, kp y c hc _ z⟩
/-- no cell of the running frame is one of the frames that run -/
def Far (X : Cx) : Prop := ∀ y c, X.env.cells.lookup y = some c → c ∉ frs X.stack
theorem far_def {X : Cx} {pins : List (Addr × Obj)} {σ : L2.St} {H : Hp} {s : Shared} (I : Inv X pins σ H s) (hf : ∀ y, X.fn y = true) : Far X := fun y c e hm => by
  rcases List.mem_cons.mp (I.stkSub c hm) with z | z
  · exact I.cne y c e z
  · obtain ⟨_, o, ho, _⟩ := I.ok.funs.mem z
    exact Nat.lt_irrefl _ (Nat.lt_of_lt_of_le (Heap.lt_size ho) (I.ok.cab y c (hf y) e))
/-- what is known where a comprehension's block begins -/
structure Blk0 (X : Cx) (σ : L2.St) (s : Shared) (H : Hp) (cl : List (Str × Addr)) (fp : List Addr) : Prop where
  inv : ∃ pins, Inv X pins σ H s ∧ ∀ b ∈ fp, FpOk X pins H b
  far : Far X → ∀ y c, cl.lookup y = some c → c ∉ frs X.stack
theorem blk_far {X : Cx} {pins : List (Addr × Obj)} {σ : L2.St} {H : Hp} {s : Shared} {scope : Scope} (I : Inv X pins σ H s) (hfree : ∀ y ∈ scope.names, y.2 = .free → ∃ c, X.env.cells.lookup y.1 = some c) (F : Far X) :
    ∀ y c, (cellsFrom (s.heap.objs.size + 1) scope.names (cloFrom X.env.cells scope.names [])).lookup y = some c → c ∉ frs X.stack := fun y c e hm => by
  rw [← Heap.size_push s.heap { cls := .type "dict", data := .dict #[] }] at e
  rcases cells_mem (PySem.mem_of_lookup e) with z | ⟨_, z, _⟩
  · rcases cloFrom_mem z with z | ⟨h1, h2⟩
    · cases z
    · obtain ⟨c1, hc⟩ := hfree _ h1 rfl
      have e2 : c = c1 := by
        rw [h2, hc]
        rfl
      exact F y c (by rw [e2]; exact hc) hm
  · rw [Heap.size_push] at z
    obtain ⟨_, o, ho, _⟩ := I.stack.mem hm
    exact Nat.lt_irrefl _ (Nat.lt_of_lt_of_le (Heap.lt_size ho) (Nat.le_of_succ_le z))
section
variable {X : Cx}
/-- a comprehension whose element may know the state where the block begins -/
theorem pe_lcI {elt tg iter : Expr} {ifs : List Expr} {scope : Scope} {own : List (Str × Nat)} {pos : Pos} {wi : TI} {g : TG} {tt : L2.St → TT} {te : L2.St → TE} (hc : X.calm = true) (hN : X.N.Nodup) (hi : PI X tg iter wi) (ok : BlkOk X.N X.env.scope scope own)
    (hg : ∀ (s : Shared) (H : Hp) (C : Addr) (cl : List (Str × Addr)) (fp : List Addr), PG (X.blk s H scope (compEnvC scope cl C X.env) fp) tg g)
    (ht : ∀ (σ : L2.St) (s : Shared) (H : Hp) (C : Addr) (cl : List (Str × Addr)) (fp : List Addr), Blk0 X σ s H cl fp → PTs (X.blk s H scope (compEnvC scope cl C X.env) fp) ifs (tt σ))
    (he : ∀ (σ : L2.St) (s : Shared) (H : Hp) (C : Addr) (cl : List (Str × Addr)) (fp : List Addr), Blk0 X σ s H cl fp → PE (X.blk s H scope (compEnvC scope cl C X.env) fp) elt (te σ))
    (hs : ∀ x, foldedSetIterable iter X.env x = pure x := by intro _; rfl) :
    PE X (.ListComp elt [⟨tg, iter, ifs, 0⟩] scope pos) (fun σ H Q => tLc wi g (tt σ) (te σ) (own.map (·.2)) σ H Q) := by
  refine ⟨fun pins s σ H Q I h => ?_⟩
  have hfree : ∀ y ∈ scope.names, y.2 = .free → ∃ c, X.env.cells.lookup y.1 = some c := fun y hy e => (ok.free y hy e).elim (fun k => I.ok.has _ (.inl k)) fun k => I.ok.has _ (.inr k)
  rw [eval_ListComp]
  refine wpAny_comprehension_free (use := none) rfl hs (closure_ok hfree) ok.kind (fun y hy e => by rw [ok.uniq y hy, e]) (thn (hi.run pins s σ H _ I h) fun xv s1 hx => thn hx fun itv s2 h2 => ?_)
  obtain ⟨it, fp, tn, J, H2, rfl, I2, T, st2, f2, q⟩ := h2
  refine wpAny_newObj_type (newEnv_comp ?_) (by show 0 ≤ sizeLine; decide)
  have nD : H2 s2.heap.objs.size = none := I2.hok.fresh (Nat.le_refl _)
  obtain ⟨W, ⟨m0, w0⟩, turn⟩ := q _ nD
  generalize hD : s2.heap.objs.size = D at nD w0 turn ⊢
  generalize hs3 : ({ s2 with heap := s2.heap.push { cls := .type "list", data := .seq ([] : List Value).toArray } } : Shared) = s3
  have h3 : s3.heap = s2.heap.push { cls := .type "list", data := .seq ([] : List Value).toArray } := by rw [← hs3]
  have I3 : Inv X pins σ (upd H2 D (.lst [])) s3 := by
    rw [← hs3]
    refine I2.laid (t' := s2.toks) (fun b o e => Heap.get?_push_of_some _ e) (Nat.le_of_eq hD) ⟨Nat.zero_le _, [], 0, .nil, ?_⟩
    rw [← hD]
    exact Heap.get?_push_size _ rfl
  have f3 : ∀ b ∈ fp, FpOk X pins (upd H2 D (.lst [])) b ∧ b < s3.heap.objs.size := fun b hb => by
    obtain ⟨o, e, _⟩ := T.obj _ _ st2 b hb
    have hlt := Heap.lt_size e
    refine ⟨⟨?_, (f2 b hb).2⟩, by rw [h3, Heap.size_push]; exact Nat.lt_succ_of_lt hlt⟩
    rw [upd_ne (by rw [← hD]; exact Nat.ne_of_lt hlt)]
    exact (f2 b hb).1
  have st3 : tn 0 s3.heap := T.keep _ _ _ st2 fun b _ o e => by rw [h3]; exact Heap.get?_push_of_some _ e
  have I4 := block_start I3 ok hN f3
  have K0 : Blk0 X σ s3 (upd H2 D (.lst [])) (cellsFrom (s3.heap.objs.size + 1) scope.names (cloFrom X.env.cells scope.names [])) fp := ⟨⟨pins, I3, fun b hb => (f3 b hb).1⟩, blk_far I3 hfree⟩
  have pg := hg s3 (upd H2 D (.lst [])) s3.heap.objs.size (cellsFrom (s3.heap.objs.size + 1) scope.names (cloFrom X.env.cells scope.names [])) fp
  have pt := ht σ s3 (upd H2 D (.lst [])) s3.heap.objs.size _ fp K0
  have pe := he σ s3 (upd H2 D (.lst [])) s3.heap.objs.size _ fp K0
  have nfp : ∀ b ∈ fp, (upd H2 D (.lst [])) b = none := fun b hb => (f3 b hb).1.1
  have fin0 : ∀ (C : Addr) (s' : Shared) (m : Str → Option Value) (H' : Hp), Inv X pins σ H' s' → Q (.ref D) H' → s'.heap.Ns C m → FpOk X pins H' C →
      compPost (model X.prog X.w) X.A X.xe none (fun u s' => EP X pins σ Q u s') (.ref D) C (.ok .next) s' := fun C s' m H' I' qq hn f =>
    ⟨m, hn, fun h'' sb => ⟨.ref D, H', I'.turned (t' := s'.toks) (fun b o hb e => (sb.2 b hb).trans e) f.1 f.2.1 f.2.2.2.1 f.2.2.2.2.1 f.2.2.2.2.2, rfl, qq⟩⟩
  generalize hce : compEnvC scope (cellsFrom (s3.heap.objs.size + 1) scope.names (cloFrom X.env.cells scope.names [])) s3.heap.objs.size X.env = ce at I4 pg pt pe
  have cL : ce.locals = s3.heap.objs.size := by subst hce; rfl
  generalize hH3 : upd H2 D (.lst []) = H3 at I3 I4 pg pt pe w0 nfp f3
  show codeAny _ _ (.compStart (.ListComp elt [⟨tg, iter, ifs, 0⟩] scope pos) 0 (.ref it) (.ref D) (compEnvC scope (cellsFrom (s3.heap.objs.size + 1) scope.names (cloFrom X.env.cells scope.names [])) s3.heap.objs.size X.env)) (compPost (model X.prog X.w) X.A X.xe none _ (.ref D) s3.heap.objs.size) { s3 with heap := pushCells (s3.heap.push { cls := .type "dict", data := .dict #[] }) scope.names }
  rw [hce]
  generalize hs4 : ({ s3 with heap := pushCells (s3.heap.push { cls := .type "dict", data := .dict #[] }) scope.names } : Shared) = s4 at I4 ⊢
  have st4 : tn 0 s4.heap := T.keep _ _ _ st3 fun b _ o e => by rw [← hs4]; exact pushCells_keeps _ _ _ _ (Heap.get?_push_of_some _ e)
  let Y : Cx := X.blk s3 H3 scope ce fp
  have stat : ∀ {σ' : L2.St} {H' : Hp} {s' : Shared}, Inv Y [] σ' H' s' → (∀ b ∈ fp, H' b = none) → ∀ b ∈ fp, FpOk Y [] H' b := fun {σ' H' s'} I' hn b hb =>
    ⟨hn b hb, (I'.ok.exf b hb).1, I'.ok.exfs b hb, .inl hb, fun x c e => (I'.ok.exf b hb).2 x c e, fun p hp => absurd (show p ∈ ([] : List (Addr × Obj)) ++ [] from hp) (by simp)⟩
  refine codeAny_compStart_list ?loop (T.self X.A 0 _ _ _ st4 ?loop)
  refine compLoop_any (fun n s' => ∃ i H', Inv Y [] (wipe σ (own.map (·.2))) H' s' ∧ tn i s'.heap ∧ (∀ b ∈ fp, H' b = none) ∧ W i n H') ?_ m0 ⟨0, H3, I4, st4, nfp, w0⟩
  rintro n s5 ⟨i, H5, I5, st5, n5, w5⟩
  rcases turn i n H5 w5 with ⟨stop, qq⟩ | ⟨go, Nx, hNx, step⟩
  · refine thnF (T.done Y rfl rfl rfl hc i [] s5 _ H5 (fun _ _ => False) I5 (stat I5 n5) st5 stop) fun r s6 ⟨hr, I6⟩ => ?_
    subst hr
    have I7 : Inv X pins σ H5 s6 := I3.call' (ch := fp) I6.os I6.base I6.hok I6.bare fun b hb => ⟨(f3 b hb).1.2.2.2.1, (f3 b hb).1.2.1, (f3 b hb).1.2.2.2.2.1, (f3 b hb).1.2.2.2.2.2⟩
    have nC : H5 s3.heap.objs.size = none := by
      have z : H5 ce.locals = none := I6.free
      rw [cL] at z
      exact z
    obtain ⟨m, hn, _⟩ := I6.loc
    have hn : s6.heap.Ns ce.locals m := hn
    rw [cL] at hn
    exact fin0 s3.heap.objs.size s6 m H5 I7 qq hn (I3.fpOk (Nat.le_refl _) nC)
  · refine thnF (T.item Y rfl rfl rfl hc i [] s5 _ H5 (fun _ _ => False) I5 (stat I5 n5) st5 go) fun r s6 ⟨u, hr, h6⟩ => ?_
    subst hr
    refine thnF h6 fun _ s7 ⟨x, H7, I7, r7, y7, st7, n7⟩ => ?_
    have I7' := I7.pinned (stat I7 n7) (T.obj _ _ st7)
    refine thnF (pg.run _ s7 _ H7 x u _ I7' r7 (step x H7 y7)) fun _ s8 ⟨σ8, H8, I8, hw8, q8⟩ => ?_
    refine thnF (pt.run _ s8 σ8 H8 _ I8 q8) fun b s9 ⟨H9, I9, q9⟩ => ?_
    have fin : ∀ {s' : Shared} {H' : Hp}, Inv Y ([] ++ pinsAt fp s7.heap) σ8 H' s' → Nx H' → ∃ m, m < n ∧ ∃ i H', Inv Y [] (wipe σ (own.map (·.2))) H' s' ∧ tn i s'.heap ∧ (∀ b ∈ fp, H' b = none) ∧ W i m H' := fun {s' H'} I' nx => by
      obtain ⟨m', hm, w'⟩ := hNx H' nx
      have pin' : ∀ b ∈ fp, ∀ o, s7.heap.get? b = some o → s'.heap.get? b = some o ∧ H' b = none := fun b hb o e =>
        let z := I'.pin (b, o) (List.mem_append_right _ (List.mem_append_right _ (mem_pinsAt hb e)))
        ⟨z.1, z.2.1⟩
      refine ⟨m', hm, i + 1, H', (I'.unpinned (pins := [])).weak (by rw [← hw8, wipe_length]) (fun j v e => ?_), T.keep _ _ _ st7 fun b hb o e => (pin' b hb o e).1, fun b hb => ?_, w'⟩
      · rw [← hw8] at e
        exact (wipe_some e).1
      · obtain ⟨o, e, _⟩ := T.obj _ _ st7 b hb
        exact (pin' b hb o e).2
    cases b with
    | false =>
      simp only [Bool.false_eq_true, if_false] at q9 ⊢
      exact fin I9 q9
    | true =>
      simp only [if_true] at q9 ⊢
      refine thnF (pe.run _ s9 σ8 H9 _ I9 q9) fun z s10 ⟨yv, H10, I10, r10, acc, hD10, hz10, nx⟩ => ?_
      exact app_ok (X := Y) I10 hD10 hz10 r10 fun s11 I11 => fin I11 nx
end
end Sv
set_option maxHeartbeats 4000000
namespace Sv
open PySem PySem.Spec PyProof.Rows L2 LamX NdefX
/-- at this state the lambda stands at f, its cells hold ws -/
structure LamAt (P : Program) (w : World) (K : PySem.W.Frag) (mg : Str → Option Value) (base : Heap) (k : Nat) (fs : List Addr) (s : Shared) (H : Hp) (f : Addr) (L : LF) (fr : List Str) (dvs : List V) (ws : List (Option V)) (tl : List (Option V) → XK → Hp → VK → Prop) : Prop where
  fn : H f = some (LamO f L)
  code : H L.c = some (CodeO L.c L.qual)
  dfl : DflAt H L.dV dvs
  ok : LOk P w K mg base k f L fr dvs tl
  cells : CellsAt L.cl fr ws s.heap H
  far : ∀ y c, L.cl.lookup y = some c → c ∉ fs
section
variable {CXg : CXT} {P : Program} {w : World} {K : PySem.W.Frag} {mg : Str → Option Value} {base : Heap} {Ng : List Str} {qg : Str} {sg : Scope} {g : Addr} {cdg : Value} {A : Around} {outer : List Env} {s : Shared} {H : Hp} {Eg : XK}
  {k i : Nat} {a : Str} {pn : List (Addr × Obj)} {xe : Value → Shared → Prop} {W : WX} {E : XK} {f : Addr} {L : LF} {fr : List Str} {dvs : List V} {ws : List (Option V)} {tl : List (Option V) → XK → Hp → VK → Prop} {p1 p2 : Pos}
/-- x() in the def that was handed the lambda -/
theorem pe_actL (LA : LamAt P w K mg base k (frs outer) s H f L fr dvs ws tl) (tk : Takes ((cxOf CXg P w K mg base Ng qg sg g cdg A outer s H Eg).tr pn xe) W)
    (hr : Room k (A.deeper (envOfC qg sg s.heap.objs.size g cdg))) (hN : Ng[i]? = some a) (hv : Vis sg a) (hd : (a == ("__debug__" : Str)) = false := by decide) (hcd : (a == ("__classdict__" : Str)) = false := by decide) :
    PE ((cxOf CXg P w K mg base Ng qg sg g cdg A outer s H Eg).tr pn xe) (.Call (.Name a p1) [] [] p2)
      (fun σZ HZ Q => σZ[i]? = some (some (.ref f)) ∧ HZ f = some (LamO f L) ∧ HZ L.c = some (CodeO L.c L.qual) ∧ DflAt HZ L.dV dvs ∧ ∃ (E' : XK) (Q' : VK), (∀ cls d H', E' cls d H' → W cls d σZ H') ∧ (∀ v H', Q' v H' → Q v H') ∧ tl ws E' HZ Q') := by
  refine ⟨fun pinsZ sZ σZ HZ Q IZ ⟨hs, h1, h2, h3, E', Q', hE, hQ, h4⟩ => ?_⟩
  refine wpAny_Call_Name_kw (thn ((pe_var (pos := p1) hN hv hd hcd).run pinsZ sZ σZ HZ (fun v H1 => v = .ref f ∧ H1 = HZ) IZ ⟨.ref f, hs, rfl, rfl⟩) fun u s1 ⟨v, H1, I1, r1, e1, e2⟩ => ?_)
  subst e1
  subst e2
  obtain rfl : u = Value.ref f := r1
  obtain ⟨od, sl, pm, ctv, ho⟩ := lamO_at I1.hok h1
  refine PySem.W.callWith_F0 ⟨_, _, _, _, ho⟩ ?_
  have C1 : CellsAt L.cl fr ws s1.heap H1 := cells_later (fs := frs outer) (ex := []) LA.cells LA.far (fun y c e z => nomatch z) I1.base
  refine wpAny_call (codeAny_mono (LA.ok.run _ _ s1 H1 ws Q' E' hr I1.env0 h1 h2 h3 C1 h4) fun r s' hq => ?_)
  cases r with
  | error e => exact tk e s' (XE.of_call I1 hE hq)
  | ok fl =>
    cases fl with
    | ret u =>
      obtain ⟨v', H', J, rv, q⟩ := I1.after hq
      exact ⟨v', H', J, rv, hQ _ _ q⟩
    | next => exact False.elim hq
    | brk => exact False.elim hq
    | cont => exact False.elim hq
end
/-- a def of one parameter, its promise told of the very state -/
structure FnSt (P : Program) (w : World) (K : PySem.W.Frag) (mg : Str → Option Value) (base : Heap) (k : Nat) (g : Addr) (Kn : List Addr → Shared → Hp → V → VK → Prop) : Prop where
  run : ∀ (A : Around) (outer : List Env) (s : Shared) (H : Hp) (u : Value) (v : V) (Q : VK), Room k A → Env0 P w K mg base A outer s H → RelV v u → Kn (frs outer) s H v Q → codeAny (model P w) A (.call (.ref g) ⟨[u], []⟩) (CR CX0 outer P w H s Q E0) s
theorem fnst_of {P : Program} {w : World} {K : PySem.W.Frag} {mg : Str → Option Value} {base : Heap} {x : Str} {st : Stmt} {g : Addr} {fd : FuncData} {N : List Str} {a : Str} {k : Nat} {Kn : List Addr → Shared → Hp → V → VK → Prop}
    (F : Fun K x x st g fd) (S : FnScope N [a] (defScope st)) (hb : Binds K fd [a] [])
    (hbody : ∀ (cdv : Value) (A : Around) (outer : List Env) (s : Shared) (H : Hp) (v : V) (Q : VK), Room k (A.deeper (envOfC x (defScope st) s.heap.objs.size g cdv)) → Env0 P w K mg base A outer s H → Kn (frs outer) s H v Q →
      ∃ t, PSs (cxOf CX0 P w K mg base N x (defScope st) g cdv A outer s H E0).nox (defBody st) t ∧ t { nx := fun _ H' => Q .non H', rt := Q } (L2.start N [v]) H) : FnSt P w K mg base (k + 1) g Kn := by
  obtain ⟨oc, od, kV, doc, pm, an, cdv, ct, osl, rfl, lk, hcd⟩ := F.ex
  refine ⟨fun A outer s H u v Q hr e0 r hk => ?_⟩
  refine run_ofS (N := N) (ps := [a]) (us := [u]) (vs := [v]) lk hcd S hr e0 (hb s [u] (e0.mod.kin.keeps fun b o e => (e0.bs b o e).1) rfl) (.cons r .nil) rfl fun hr' => ?_
  obtain ⟨t, ht, hq⟩ := hbody cdv A outer s H v Q hr' e0 hk
  exact ⟨t, ht.nox, hq⟩
section
variable {Y : Cx} {x : Str} {g : Addr} {e : Expr} {te : TE} {k : Nat} {p pos : Pos} {Kn : List Addr → Shared → Hp → V → VK → Prop}
/-- its call -/
theorem pe_callSt (G : FnSt Y.prog Y.w Y.K Y.mg Y.base k g Kn) (hr : Room k Y.A) (hg : Gl Y x) (hm : Y.mg x = some (.ref g)) (hk : PySem.W.keepIn Y.K (.ref g) = true) (he : PE Y e te) (hdb : (x == ("__debug__" : Str)) = false := by decide)
    (hst : starEach [e] Y.env = (false, eval e Y.env) :: starEach [] Y.env := by rfl) : PE Y (.Call (.Name x p) [e] [] pos) (fun σ H Q => te σ H fun v H1 => ∀ pins s, Inv Y pins σ H1 s → Kn (frs Y.stack) s H1 v Q) := by
  refine ⟨fun pins s σ H Q I h => ?_⟩
  refine wpAny_Call_Name_kw (ld_glob I hg hm ?_ hdb)
  refine PySem.W.callWith_K (h₀ := Y.base) I.ok.mod.kin hk (thn ((pa_cons he pa_nil hst).run pos pins s σ H (fun vs H1 => match vs with | [v] => ∀ pins s, Inv Y pins σ H1 s → Kn (frs Y.stack) s H1 v Q | _ => False) I h) fun us s1 ⟨vs, H1, I1, r, q⟩ => ⟨I1.kIn, ?_⟩) hst (by rfl)
  match vs, r, q with
  | [v], r, q =>
    obtain ⟨u, rfl, ru⟩ := Vals.one r
    refine wpAny_call (codeAny_mono (G.run Y.A Y.stack s1 H1 u v Q hr I1.env0 ru (q pins s1 I1)) fun r s' hq => ?_)
    cases r with
    | error e => exact (show False from hq).elim
    | ok fl =>
      cases fl with
      | ret u => exact I1.after hq
      | next => exact False.elim hq
      | brk => exact False.elim hq
      | cont => exact False.elim hq
  | [], _, q => exact q.elim
  | _ :: _ :: _, _, q => exact q.elim
end
end Sv
set_option maxHeartbeats 4000000
namespace Sv
open PySem PySem.Spec PyProof.Rows L2
section
open AutoSeq1 (wpAny_loadPart')
theorem enum_newT (l : Addr) (items : Array Value) (n : Nat) (dct : Option Addr) (sl : Array (Option Value)) :
    Meets (Builtin.«enumerate.__new__» ⟨[.type "enumerate", .ref l], []⟩) (fun _ R s => s.heap.get? l = some { cls := .type "tuple", dict := dct, data := .seq items n, slots := sl } ∧
      R (.ok (.ret (.ref (s.heap.push { cls := .type "tuple_iterator", data := .fields #[.ref l, .int 0 0] }).objs.size)))
        { s with heap := (s.heap.push { cls := .type "tuple_iterator", data := .fields #[.ref l, .int 0 0] }).push { cls := .type "enumerate", data := .fields #[.none, .bool false, .ref s.heap.objs.size, rawInt 0, .none, .none] } }) :=
  .of_wp fun prog w A R s h => by
    obtain ⟨hp, g, d, tk, os⟩ := s
    obtain ⟨hl, h⟩ := h
    have hsub := sub_enumerate
    have hL : Heap.IsTuple (Shared.heap ⟨hp, g, d, tk, os⟩) l items := ⟨_, hl, rfl, n, rfl⟩
    wp_walk using wpAny_loadPart' hl
    refine wpAny_stack_any fun st => wpAny_pure ?_
    split
    · rename_i c _ _ _ _ _
      cases (c == Value.type "enumerate")
      · wp_walk using wpAny_loadPart' hl, wpAny_pyIter_tuple hL
        exact ⟨_, rfl, h⟩
      · wp_walk using wpAny_loadPart' hl, wpAny_pyIter_tuple hL
        exact ⟨_, rfl, h⟩
    · wp_walk using wpAny_loadPart' hl, wpAny_pyIter_tuple hL
      exact ⟨_, rfl, h⟩
end
section
variable {prog : Program} {w : World} {A : Around} {E : Value → Shared → Prop} {s : Shared}
theorem call_enumT {l : Addr} {items : Array Value} {Q : Value → Shared → Prop} (hL : s.heap.IsTuple l items)
    (h : ∀ h', IsEnum h' (s.heap.objs.size + 1) s.heap.objs.size 0 .none → h'.IsTupleIter s.heap.objs.size l 0 → h'.objs.size = s.heap.objs.size + 2 → (∀ b o, s.heap.get? b = some o → h'.get? b = some o) → Q (.ref (s.heap.objs.size + 1)) { s with heap := h' }) :
    wpAny (model prog w) A (call (.type "enumerate") [.ref l]) Q E s := by
  obtain ⟨⟨c, dct, dt, sl⟩, hl, hc, n, hd⟩ := hL
  obtain rfl : c = .type "tuple" := hc
  obtain rfl : dt = .seq items n := hd
  refine callType_new F.called_enumerate (by decide) (F.typeCall_enumerate_1 _) (F.newCall_enumerate_1 _) (fun obj => F.args_object_init_2 obj _) F.entry_enumerate_new (enum_newT l items n dct sl) ⟨hl, ?_⟩
  have hz : ∀ o : Obj, (s.heap.push o).objs.size = s.heap.objs.size + 1 := fun o => Heap.size_push ..
  have g2 : ∀ (o1 o2 : Obj), o2.isFreed = false → ((s.heap.push o1).push o2).get? (s.heap.objs.size + 1) = some o2 := fun o1 o2 e => by
    have q := Heap.get?_push_size (s.heap.push o1) (o := o2) e
    rw [hz] at q
    exact q
  show _ ∧ _
  rw [hz]
  refine ⟨⟨_, g2 _ _ rfl, rfl⟩, h _ (g2 _ _ rfl) ⟨_, Heap.get?_push_of_some _ (Heap.get?_push_size _ rfl), rfl, rfl⟩ (by rw [Heap.size_push, hz]) fun b o y => Heap.get?_push_of_some _ (Heap.get?_push_of_some _ y)⟩
end
/-- a tuple's items with their numbers, each in a new pair -/
def IteT (K : PySem.W.Frag) (a : Addr) : It :=
  ⟨fun i H => ∃ (xs : List V) (x : V), SqT K H a xs ∧ xs[i]? = some x, fun i H v H' => ∃ T x, v = .ref T ∧ H T = none ∧ H' = upd H T (.tup [.int (i : Nat), x]) ∧ ∀ xs, SqT K H a xs → xs[i]? = some x,
    fun i H => ∃ xs : List V, SqT K H a xs ∧ i = xs.length⟩
theorem turn_enumT {P : Program} {w : World} {K : PySem.W.Frag} {elts : List Expr} {kk : Nat} {tpos : Pos} (a e it : Addr) (hai : a ≠ it) (hea : e ≠ a) :
    Turn P w K (.Tuple elts kk tpos) (IteT K a) [e, it] e (fun i h => (∃ old, IsEnum h e it ((i : Nat) : Int) old) ∧ h.IsTupleIter it a i ∧ e ≠ it) where
  mem := by simp
  obj := fun i h st b hb => by
    obtain ⟨⟨old, he⟩, ⟨o, ho, hc, hd⟩, _⟩ := st
    rcases (by simpa using hb : b = e ∨ b = it) with z | z
    · subst z
      exact ⟨_, he, fun v q => nomatch q⟩
    · subst z
      exact ⟨o, ho, fun v q => by rw [hd] at q; cases q⟩
  keep := fun i h h' st k => ⟨st.1.elim fun old he => ⟨old, k e (by simp) _ he⟩, st.2.1.at fun o q => k it (by simp) o q, st.2.2⟩
  item := by
    intro X hP hw hK hc i pins s σ H E I hf st hg
    subst hP hw hK
    obtain ⟨⟨old, he⟩, hit, hne⟩ := st
    obtain ⟨xs, x, hq, hx⟩ := hg
    obtain ⟨its, rv, p, hz⟩ := I.tuple hq
    obtain ⟨u, hu, ru⟩ := rv.get hx
    have hi : i < its.toArray.size := by
      obtain ⟨hlt, _⟩ := List.getElem?_eq_some_iff.mp hu
      simpa using hlt
    have hel : e < s.heap.objs.size := Heap.lt_size he
    have hil : it < s.heap.objs.size := by obtain ⟨_, q, _⟩ := hit; exact Heap.lt_size q
    have hh : X.A.in1.handled = none := by
      have := I.ok.hd hc
      simpa using this
    refine wpAny_pyNext_enum_itemD (Draws.tuple hh it a hai its.toArray) he ⟨hit, p⟩ hi hne (by simp; exact ⟨hne, hea⟩) fun y h' tk hy ho hst' hT hsz hk => ?_
    obtain rfl : y = u := by
      have q : its.toArray[i]? = some y := hy
      rw [show its.toArray[i]? = some u by simpa using hu] at q
      exact (Option.some.inj q).symm
    refine ⟨_, rfl, wpAny_letOwnedTupleGo_enum (s := { s with heap := h', toks := tk + 1 }) ho fun h'' he' sb => ?_⟩
    have hT2 : h''.get? s.heap.objs.size = some { cls := .type "tuple", data := .seq #[.int i tk, y] } := (sb.2 _ (Nat.ne_of_gt hel)).trans hT
    have new : ObjOk X.prog X.w (upd H s.heap.objs.size (.tup [.int (i : Nat), x])) h'' s.heap.objs.size (.tup [.int (i : Nat), x]) :=
      ⟨by show 2 ≤ sizeLine; decide, [.int i tk, y], .cons ⟨_, rfl⟩ (.cons ru .nil), ⟨_, hT2, rfl, _, rfl⟩⟩
    have I1 : Inv X pins σ (upd H s.heap.objs.size (.tup [.int (i : Nat), x])) { s with heap := h'', toks := tk + 1 } :=
      I.turnedNew (ch := [e, it]) (fun b ob hb q => (sb.2 b (fun z => hb (by simp [z]))).trans (hk b ob (fun z => hb (by simp [z])) (fun z => hb (by simp [z])) q)) hf (Nat.le_refl _) new
    refine ⟨.ref s.heap.objs.size, _, I1, rfl, ⟨_, x, rfl, I.hok.fresh (Nat.le_refl _), rfl, fun ys hy => by rw [I.tuple_inj hy hq]; exact hx⟩, ⟨⟨y, ?_⟩, hst'.1.at fun o q => (sb.2 it (Ne.symm hne)).trans q, hne⟩, fun b hb => ?_⟩
    · rw [show ((i + 1 : Nat) : Int) = (i : Int) + 1 by omega]
      exact he'
    · have hb' : b < s.heap.objs.size := by
        rcases (by simpa using hb : b = e ∨ b = it) with z | z
        · rw [z]; exact hel
        · rw [z]; exact hil
      rw [upd_ne (Nat.ne_of_lt hb')]
      exact (hf b hb).1
  done := by
    intro X hP hw hK hc i pins s σ H E I hf st hg
    subst hP hw hK
    obtain ⟨⟨old, he⟩, hit, hne⟩ := st
    obtain ⟨xs, hq, hx⟩ := hg
    obtain ⟨its, rv, p, hz⟩ := I.tuple hq
    obtain ⟨f0, f1, f2, f3, f4, f5⟩ := hf it (by simp)
    have hl := rv.length
    have hh : X.A.in1.handled = none := by
      have := I.ok.hd hc
      simpa using this
    refine wpAny_pyNext_enum_endD (Draws.tuple hh it a hai its.toArray) he ⟨?_, p⟩ fun h' eb => ⟨rfl, I.turned (t' := s.toks) (fun b o hb q => eb b o hb q) f0 f1 f3 f4 f5⟩
    rw [List.size_toArray, ← hl, ← hx]
    exact hit
  self := fun A i s Q E st h => let ⟨⟨_, he⟩, _⟩ := st; wpAny_pyIter_enum he h
def iEnumT (K : PySem.W.Frag) (ta : TA) : TI := fun σ H R => ta σ H fun vs H1 => ∃ a xs, vs = [.ref a] ∧ SqT K H1 a xs ∧ R (IteT K a) H1
theorem pi_enumT {X : Cx} {e : Expr} {ta : TA} {p pos tpos : Pos} {elts : List Expr} {kk : Nat} (hg : Gl X "enumerate") (hm : X.mg "enumerate" = none) (ha : PA X [e] ta) (hs : starEach [e] X.env = [(false, eval e X.env)] := by rfl) :
    PI X (.Tuple elts kk tpos) (.Call (.Name "enumerate" p) [e] [] pos) (iEnumT X.K ta) := by
  refine ⟨fun pins s σ H R I h => ?_⟩
  refine Call_ (ld_blt I hg hm boot_enumerate (PyProof.Rows.callWith_type1 (thn (ha.run pos pins s σ H _ I h) fun us s1 ⟨vs, H1, I1, r1, a, xs, ex, hq, q⟩ => ?_) hs rfl))
  subst ex
  obtain rfl := r1.ref1
  obtain ⟨its, rv, p', hz⟩ := I1.tuple hq
  have hal : a < s1.heap.objs.size := (let ⟨_, q, _⟩ := p'; Heap.lt_size q)
  refine call_enumT p' fun h' he hit hsz hk => wpAny_pyIter_enum he ?_
  have I2 : Inv X pins σ H1 { s1 with heap := h' } := I1.kept (t' := s1.toks) hk
  refine ⟨s1.heap.objs.size + 1, [s1.heap.objs.size + 1, s1.heap.objs.size], _, _, H1, rfl, I2, turn_enumT a (s1.heap.objs.size + 1) s1.heap.objs.size (Nat.ne_of_lt hal) (Nat.ne_of_gt (Nat.lt_succ_of_lt hal)), ⟨⟨.none, he⟩, hit, Nat.succ_ne_self _⟩, fun b hb => ?_, q⟩
  have hle : s1.heap.objs.size ≤ b := by
    rcases (by simpa using hb : b = s1.heap.objs.size + 1 ∨ b = s1.heap.objs.size) with z | z
    · rw [z]; exact Nat.le_add_right _ _
    · rw [z]; exact Nat.le_refl _
  exact I1.fpOk hle (I1.hok.fresh hle)
theorem for_enumT {K : PySem.W.Frag} {a : Addr} {xs : List V} {g : TG} {tb : TS} {D : Ends} {σ : L2.St} {H : Hp} (Pv : Nat → L2.St → Hp → Prop) (h0 : Pv 0 σ H) (hl : ∀ i σ H, i ≤ xs.length → Pv i σ H → SqT K H a xs)
    (turn : ∀ i x σ H T, xs[i]? = some x → Pv i σ H → H T = none → g (.ref T) σ (upd H T (.tup [.int (i : Nat), x])) fun σ' H' => tb { nx := fun σ2 H2 => Pv (i + 1) σ2 H2, rt := D.rt, bk := D.nx, ct := fun σ2 H2 => Pv (i + 1) σ2 H2 } σ' H')
    (after : ∀ σ H, Pv xs.length σ H → D.nx σ H) : ∃ W : Nat → Nat → L2.St → Hp → Prop, (∃ m, W 0 m σ H) ∧ ∀ i m σ H, W i m σ H →
      ((IteT K a).stop i H ∧ D.nx σ H) ∨ ((IteT K a).go i H ∧ ∃ Nx : L2.St → Hp → Prop, (∀ σ' H', Nx σ' H' → ∃ m', m' < m ∧ W (i + 1) m' σ' H') ∧ ∀ x H', (IteT K a).yld i H x H' → g x σ H' fun σ2 H2 => tb { nx := Nx, rt := D.rt, bk := D.nx, ct := Nx } σ2 H2) := by
  refine ⟨fun i m σ H => i + m = xs.length ∧ Pv i σ H, ⟨xs.length, Nat.zero_add _, h0⟩, fun i m σ H ⟨em, hP⟩ => ?_⟩
  have hS := hl i σ H (by omega) hP
  by_cases hi : i < xs.length
  · have gx : xs[i]? = some xs[i] := List.getElem?_eq_getElem hi
    refine .inr ⟨⟨xs, _, hS, gx⟩, fun σ' H' => Pv (i + 1) σ' H', fun σ' H' h => ⟨m - 1, by omega, by omega, h⟩, fun x H' hy => ?_⟩
    obtain ⟨T, y, rfl, nT, rfl, hy⟩ := hy
    have ey : y = xs[i] := Option.some.inj ((hy xs hS).symm.trans gx)
    rw [ey]
    exact turn i _ σ H T gx hP nT
  · have e : i = xs.length := by omega
    refine .inl ⟨⟨xs, hS, e⟩, after σ H ?_⟩
    rw [← e]
    exact hP
def rLcm : List V → Hp → VK → Prop := fun vs H Q => ∃ a b : Nat, vs = [.int a, .int b] ∧ a < 2 ^ 64 ∧ b < 2 ^ 64 ∧ Q (.int ((Nat.lcm a b : Nat) : Int)) H
theorem cr_lcm {X : Cx} : CallR X (.builtin "math.lcm") rLcm := by
  intro pins s σ H vs us Q I r h
  obtain ⟨a, b, rfl, ha, hb, q⟩ := h
  obtain ⟨t, u, rfl⟩ := Vals.int2 r
  exact PySem.W.mc_lcm (by simpa using ha) (by simpa using hb) fun _ => ⟨.int _, H, I.tok _, ⟨_, rfl⟩, by simpa using q⟩
theorem nodup_sub_len : ∀ {l m : List Int}, l.Nodup → (∀ x ∈ l, x ∈ m) → l.length ≤ m.length
  | [], _, _, _ => Nat.zero_le _
  | x :: r, m, nd, h => by
    have hx : x ∈ m := h x (List.mem_cons_self ..)
    have nr := (List.nodup_cons.mp nd)
    have ih := nodup_sub_len (l := r) (m := m.erase x) nr.2 fun y hy => (List.mem_erase_of_ne (fun e => nr.1 (by rw [← e]; exact hy))).mpr (h y (List.mem_cons_of_mem _ hy))
    rw [List.length_erase_of_mem hx] at ih
    have : 0 < m.length := List.length_pos_of_mem hx
    show r.length + 1 ≤ m.length
    omega
theorem nodup_of_len : ∀ {l m : List Int}, m.Nodup → (∀ x ∈ m, x ∈ l) → l.length ≤ m.length → l.Nodup
  | [], _, _, _, _ => List.nodup_nil
  | x :: r, m, nd, h, hl => by
    have hx : x ∉ r := fun hm => by
      have q := nodup_sub_len (l := m) (m := r) nd fun y hy => (List.mem_cons.mp (h y hy)).elim (fun e => by rw [e]; exact hm) id
      simp at hl
      omega
    refine List.nodup_cons.mpr ⟨hx, nodup_of_len (m := m.erase x) (nd.erase x) (fun y hy => ?_) ?_⟩
    · have hm := List.mem_of_mem_erase hy
      rcases List.mem_cons.mp (h y hm) with e | e
      · rw [e] at hy
        exact absurd hy (nd.not_mem_erase)
      · exact e
    · by_cases hm : x ∈ m
      · rw [List.length_erase_of_mem hm]
        simp at hl
        omega
      · rw [List.erase_of_not_mem hm]
        simp at hl
        omega
/-- how many: all of them, just where none stands twice -/
def tLenSetT (K : PySem.W.Frag) (ta : TE) : TE := fun σ H Q => ta σ H fun x H1 => ∃ (l : Addr) (ns : List Int), x = .ref l ∧ SqT K H1 l (ns.map V.int) ∧ ns.length ≤ 4000 ∧ ∀ c : Nat, c ≤ ns.length → (c = ns.length ↔ ns.Nodup) → Q (.int c) H1
theorem pe_lenSetT {X : Cx} {a : Expr} {ta : TE} {p p2 q pos : Pos} (hg : Gl X "len") (hm : X.mg "len" = none) (hg2 : Gl X "set") (hm2 : X.mg "set" = none) (ha : PE X a ta) (hc : X.calm = true := by rfl)
    (na : starEach [a] X.env = (false, eval a X.env) :: starEach [] X.env := by rfl) : PE X (.Call (.Name "len" p) [.Call (.Name "set" p2) [a] [] q] [] pos) (tLenSetT X.K ta) := by
  refine ⟨fun pins s σ H Q I h => Call_ (ld_blt I hg hm boot_len ?_)⟩
  refine PyProof.Rows.callWith_builtin1 (PyProof.Rows.args_cons (Call_ (ld_blt I hg2 hm2 boot_set ?_)) rfl) rfl rfl
  refine PyProof.Rows.callWith_type1 (PyProof.Rows.args_cons (thn (ha.run pins s σ H _ I h) fun v s1 ⟨x, H1, I1, r1, q1⟩ => PyProof.Rows.args_nil ?_) na) na rfl
  obtain ⟨l, ns, rfl, hq, hl, q1⟩ := q1
  cases r1
  obtain ⟨its, r, pl, hz⟩ := I1.tuple hq
  refine call_set_tupI ns (I1.ok.hd hc) pl (by simpa using RZ.intsAre_vals r) (by unfold scanBound; omega) fun h' tk c hS hcl hk => PyProof.Rows.args_nil ?_
  obtain ⟨o, es, ep, t, ho, hex, hd, _, nd, hmem, _, hf, hn, _⟩ := hS
  have I2 : Inv X pins σ H1 { s1 with heap := h', toks := tk } := I1.kept hk
  have hmm : ∀ k, k ∈ es.toList.map keyOf ↔ k ∈ ns := fun k => by rw [← hmem k]; exact decide_eq_true_iff
  have hlen : (es.toList.map keyOf).length = c := by rw [List.length_map, Array.length_toList]; exact hn
  refine call_len_set ho hex hd hf (by rw [hn] <;> omega) ⟨.int c, H1, I2.tok _, ⟨_, by rw [hn]⟩, q1 c hcl ⟨fun e => ?_, fun e => ?_⟩⟩
  · exact nodup_of_len nd (fun x hx => (hmm x).mp hx) (by rw [hlen, e]; exact Nat.le_refl _)
  · have q := nodup_sub_len e fun x hx => (hmm x).mpr hx
    rw [hlen] at q
    omega
theorem count_eqU {x : V} : ∀ {xs : List V} {us : List Value}, Vals xs us → xs.all flatV = true → us.countP (eqU x) = xs.countP fun y => eqV y x
  | _, _, .nil, _ => rfl
  | y :: xs, u :: us, .cons r t, f => by
    rw [List.all_cons, Bool.and_eq_true] at f
    rw [List.countP_cons, List.countP_cons, count_eqU t f.2, eqU_of r f.1]
def rCntV (K : PySem.W.Frag) : V → List V → Hp → VK → Prop := fun x xs H Q => ∃ (p : Addr) (ys : List V) (y : V), x = .ref p ∧ xs = [y] ∧ SqL K H p ys ∧ flatV y = true ∧ ys.all flatV = true ∧ Q (.int (ys.countP fun z => eqV z y : Nat)) H
theorem mt_countV {X : Cx} : MtR X "list.count" (rCntV X.K) := by
  intro pins s σ H x xs v us Q I rx rxs h
  obtain ⟨p, ys, y, rfl, rfl, hs, fy, fys, q⟩ := h
  cases rx
  obtain ⟨u, rfl, ru⟩ := rxs.one
  obtain ⟨its, rv, ⟨⟨cls, dd, data, sl⟩, n, ho, hc, hdn, hd⟩, hlen⟩ := I.list hs
  simp only at hc hd
  subst hc hd
  refine call_meets PySem.F.slot_list_count ⟨_, ho, rfl⟩ PySem.F.entry_list_count (PySem.F.args_list_count_2 _ _)
    (SeqAt.list_countAt p its.toArray n dd sl u (eqU y)) ⟨ho, fun u' hu' => mem_eqAt ru fy rv fys u' (by simpa using hu'), ?_⟩
  refine ⟨.int (ys.countP fun z => eqV z y : Nat), H, I.tok _, ⟨s.toks, ?_⟩, q⟩
  rw [← count_eqU rv fys]
end Sv
set_option maxHeartbeats 4000000
namespace Sv
open PySem PySem.Spec PyProof.Rows L2
def topS (i : Nat) : Stmt := PySem.Challenge.pw_swapshelves_k14_whole_swaps.main.body.getD i (.Pass ⟨0, 0, 0, 0⟩)
abbrev sInvalidPlan : Stmt := topS 3
abbrev sInvalidSwap : Stmt := topS 15
abbrev sWithin : Stmt := topS 20
abbrev sCheckCount : Stmt := topS 21
abbrev sCheckBetween : Stmt := topS 22
abbrev sPlaces : Stmt := topS 28
abbrev sCheckPlan : Stmt := topS 29
abbrev sCheckSizes : Stmt := topS 30
abbrev sCheckRoutes : Stmt := topS 31
abbrev sIsRoute : Stmt := topS 32
abbrev sPlacesOf : Stmt := topS 33
abbrev sIsPlace : Stmt := topS 34
abbrev sTruths : Stmt := topS 35
abbrev sNumPlaces : Stmt := topS 36
abbrev sVisitsIn : Stmt := topS 37
abbrev sCommon : Stmt := topS 38
abbrev sRoutePat : Stmt := topS 39
abbrev sJoin : Stmt := topS 41
abbrev sSplit : Stmt := topS 42
abbrev sAfterTick : Stmt := topS 43
abbrev sLap : Stmt := topS 45
abbrev sEffectTicks : Stmt := topS 47
abbrev sRepeated : Stmt := topS 48
abbrev sCyclesOf : Stmt := topS 49
abbrev sCycleFrom : Stmt := topS 50
abbrev sMoved : Stmt := topS 54
abbrev sStateOf : Stmt := topS 55
abbrev sParcelsIn : Stmt := topS 56
abbrev sCheckState : Stmt := topS 57
abbrev sFits : Stmt := topS 58
abbrev sTupOf : Stmt := topS 59
abbrev sParcels : Stmt := topS 60
abbrev sArrange : Stmt := topS 62
abbrev sPlanSwaps : Stmt := topS 63
abbrev sFewest : Stmt := topS 64
abbrev sSwapAll : Stmt := topS 65
abbrev sCheckArr : Stmt := topS 66
abbrev sSwapsBetween : Stmt := topS 67
abbrev sIsSwap : Stmt := topS 68
abbrev sExchange : Stmt := topS 69
abbrev sAdvance : Stmt := topS 71
abbrev sMix : Stmt := topS 73
abbrev sNext : Stmt := topS 74
abbrev sAlike : Stmt := topS 75
abbrev sError : Stmt := topS 76
abbrev sPlan : Stmt := topS 77
abbrev sState : Stmt := topS 78
abbrev sMixed : Stmt := topS 83
abbrev sLawWheels : Stmt := topS 84
abbrev sErrsRight : Stmt := topS 85
abbrev sLaw : Stmt := topS 86
end Sv
set_option maxHeartbeats 4000000
namespace Sv
open PySem PySem.Spec PyProof.Rows L2 NdefX
section
open PySem.W PySem.Calls
variable {prog : Program} {w : World} {A : Around} {E : Value → Shared → Prop} {h : Heap} {g : Array GenState} {d : Drawn} {t : Nat} {os : OsState}
variable {nm q : Str} {C N : Addr} {bs bm : List Value} {hdct : Bool} {sn : List Str} {sub : List Value} {ab : Bool} {col : Option Bool} {dd : Option Addr} {k0 k1 k2 k3 k5 : Option Value}
/-- the bound ValueError.__init__, called -/
theorem call_mw {u e t0 : Addr} {rest : List Value} {Q : Value → Shared → Prop}
    (hC : h.get? C = some (excClassObj nm q C N bs bm hdct sn sub ab col dd k0 k1 k2 k3 k5 "ValueError.__new__")) (he : h.get? e = some (HandSPX.excO C t0)) (hu : h.get? u = some (kxs_mw "ValueError.__init__" e)) (hrest : rest.length ≤ sizeLine)
    (hq : ∀ h' t1, (∀ b o, b ≠ e → h.get? b = some o → h'.get? b = some o) → h'.get? e = some (HandSPX.excO C t1) → Q .none ⟨h', g, d, t, os⟩) :
    wpAny (model prog w) A (call (.ref u) rest) Q E ⟨h, g, d, t, os⟩ := by
  refine wpAny_call (codeAny_of_tree ?_)
  show wpAny _ A.in1 (callAny (.ref u) ⟨rest, []⟩) _ _ _
  simp only [callAny]
  refine wpAny_bind (wpAny_load hu ?_)
  simp only [kxs_mw, show (Value.type "method-wrapper" == Value.type "method" || Value.type "method-wrapper" == Value.type "builtin_function_or_method" || Value.type "method-wrapper" == Value.type "method-wrapper") = true by decide, if_true]
  refine W.KFB.if_so (by decide) ?_
  refine wpAny_bind (ESX.check_bound F.excBase_ValueError hC he rfl ?_)
  refine wpAny_bind (wpAny_pure (wpAny_pure ?_))
  refine ⟨Code.quiet_builtin _ (by decide +kernel), codeAny_builtin F.excBase_ValueError.initEntry ?_⟩
  rw [Around.under_plainId F.excBase_ValueError.init.plain _]
  wp_walk
  refine hq _ h.objs.size (fun b o hb ho => ?_) ?_
  · rw [Heap.get?_update_other _ _ (Ne.symm hb)]
    exact Heap.get?_push_of_some _ ho
  · rw [Heap.get?_update_self _ (Heap.get?_push_of_some _ he) rfl]
    rfl
end
/-- what is asked of such a class and of its __init__ -/
structure SupF (P : Program) (K : PySem.W.Frag) (mg : Str → Option Value) (C fI cc : Addr) (F : NF) (ar : Arg) : Prop where
  T : OexC K C
  cl : F.cl = [(("__class__" : Str), cc)]
  cell : ∃ cl cld csl, K.lookup cc = some ⟨cl, cld, .cell (some (.ref C)), csl⟩
  code : PySem.W.codeIn K (.ref F.c) F.qual = true
  file : ∃ (ccl : Value) (cdd : Option Addr) (vs : Array Value) (ccs : Array (Option Value)) (fl : Str) (tf : Tok), K.lookup F.c = some ⟨ccl, cdd, .fields vs, ccs⟩ ∧ vs[2]? = some (.str fl tf) ∧ ((P.main.file : Str) == fl) = true
  top : (P.main.scope.names.lookup ("super" : Str)).isSome = false
  sup : mg "super" = none
  ks : F.scope.names.lookup ("super" : Str) = some .globalImplicit
  kc : F.scope.names.lookup ("__class__" : Str) = some .free
  hp : (F.params.posonlyargs ++ F.params.args).head? = some ar
  hs : PySem.W.ks_superIn K C C "__init__" = some (some (.builtin "ValueError.__init__"))
  ho : PySem.W.nsIn K PySem.cStatics "thirdparty.any" = some none
  hB : PySem.W.subIn K (.ref C) (.type "ValueError") = some true
  hm : PySem.W.mroIn K C (.ref C) = some true
section
variable {P : Program} {w : World} {K : PySem.W.Frag} {mg : Str → Option Value} {base : Heap} {C fI cc : Addr} {F : NF} {ar : Arg}
theorem boot_super : bootBuiltins "super" = some (.type "super") := by decide +kernel
/-- super().__init__(e) as a statement -/
theorem sup_stmt {X : Cx} {pins : List (Addr × Obj)} {σ : L2.St} {H : Hp} {s : Shared} {a : Addr} {e : Expr} {te : TE} {p0 p1 p2 p3 p4 : Pos} {body : List Stmt} {Q : Flow → Shared → Prop} (S : SupF X.prog X.K X.mg C fI cc F ar) (I : Inv X pins σ H s)
    (henv : X.env = envF F fI X.env.locals) (hf : ∃ oc od osl doc pm ctv, X.K.lookup fI = some ⟨oc, od, .func (F.fd doc pm ctv), osl⟩) (hi : X.N[0]? = some ar.arg) (hσ : σ[0]? = some (some (.ref a))) (hv : X.env.scope.names.lookup ar.arg = some .local) (ha : H a = some (exo a C none)) (he : PE X e te)
    (hst : starEach [e] X.env = (false, eval e X.env) :: starEach [] X.env)
    (hev : ∃ pl, eval (.Call (.Attribute (.Call (.Name "super" p0) [] [] p1) "__init__" p2) [e] [] p3) X.env = (do
      let ov ← attributeBase (.Call (.Name "super" p0) [] [] p1) "__init__" X.env (eval (.Call (.Name "super" p0) [] [] p1) X.env)
      standAt p2.atName
      let (f, first) ← holding [ov] (getMethod ov "__init__" pl)
      callWith p3 f first (backTo p3 (starEach [e] X.env)) []))
    (hin : interactive X.env = false) (hsw : swapsWith (.Call (.Attribute (.Call (.Name "super" p0) [] [] p1) "__init__" p2) [e] [] p3) none p4.line X.env = pure false)
    {W : VK} (h : te σ H W) (hW : ∀ v H1, W v H1 → H1 a = some (exo a C none) ∧ ∀ s', Inv X pins σ H1 s' → Q .next s') :
    _root_.PySem.wpAt (model X.prog X.w) X.A (.func body X.env) (exec (.Expr (.Call (.Attribute (.Call (.Name "super" p0) [] [] p1) "__init__" p2) [e] [] p3) p4) X.env) Q X.xe s := by
  obtain ⟨pl, hev⟩ := hev
  refine PySem.ks_wpAt_Expr_any ?_ hin hsw
  refine PySem.ks_wpAt_MethodCall (pl := pl) ?_ hev
  have KX : X.K.In s.heap := I.kIn
  obtain ⟨cl, cld, csl, hcell⟩ := S.cell
  obtain ⟨ccl, cdd, vs, ccs, fl, tf, hcode, hvs, hfile⟩ := S.file
  obtain ⟨oc, od, osl, doc, pm, ctv, hfo⟩ := hf
  obtain ⟨nm, q, N, bs, bm, sn, sub, ab, col, dd, k0, k1, k2, k3, k5, hC, hbm⟩ := S.T.cls
  have hcl : PySem.W.clsIn X.K C = some { name := nm, bases := bs, mro := .ref C :: bm, ns := N, qualname := q, hasDict := true, slotNames := sn, subclasses := sub, abstract := ab, collection := col, hasDel := false } := by unfold PySem.W.clsIn; rw [hC] <;> rfl
  have ek : ∀ y, X.env.kindOf y = F.scope.names.lookup y := fun y => by rw [henv]; rfl
  have efn : X.env.func = some fI := by rw [henv]
  have eco : X.env.code = .ref F.c := by rw [henv]
  have ecl : X.env.cells = F.cl := by rw [henv]
  refine PySem.ks_wpAt_super_base (ar := ar) (by rw [ek]; exact S.ks) (by rw [ek]; exact S.kc) (by decide) efn (KX _ _ hfo) rfl S.hp eco (KX _ _ hcode) rfl hvs hfile S.top ?_
  obtain ⟨mb, hb1, hb2⟩ := I.mod.blt
  refine PySem.W.ks_loadName_global I.ok.kind (by rw [ek]; exact S.ks) (Calls.loadGlobal_builtin (by rw [I.ok.glob]; exact I.mod.glob.keeps I.bk) S.sup (by rw [I.ok.blt]; exact hb1.keeps I.bk) ((hb2 _ (by decide +kernel)).trans boot_super) ⟨rfl, ?_⟩)
  refine wpAny_loadName_free I.ok.kind (by rw [ek]; exact S.kc) (c := cc) (by rw [ecl, S.cl]; rfl) ⟨_, KX _ _ hcell, rfl⟩ ?_
  obtain ⟨m, hn, hl⟩ := I.loc
  obtain ⟨ua, rua, la⟩ := hl 0 ar.arg (.ref a) hi hσ (.inl hv)
  obtain rfl : ua = Value.ref a := rua
  have hma : m ar.arg = some (.ref a) := by
    rcases la with ⟨_, z⟩ | ⟨z, _⟩
    · exact z
    · have hv' : X.env.kindOf ar.arg = some .local := hv
      rcases z with z | z <;> rw [hv'] at z <;> cases z
  refine wpAny_loadName_local I.ok.kind hv hn hma ?_
  refine PySem.ks_wpAny_isType_cls (KX _ _ hC) rfl ⟨rfl, ?_⟩
  obtain ⟨t1, hoa⟩ := exo_at I.hok ha
  obtain ⟨hp, g, d, tk, os⟩ := s
  refine PySem.ks_wpAny_call_super (C := C) (KX _ _ hC) rfl hoa rfl (fun c z => nomatch z) (PySem.W.looks_mroIn KX S.hm) (fun h' hso kp => ?_)
  have I1 : Inv X pins σ H ⟨h', g, d, tk, os⟩ := I.kept (t' := tk) kp
  have KX1 := I1.kIn
  have IA : PySem.W.InstAt h' a { cls := .ref C, dict := none, data := .fields #[.ref t1, .none, .none, .none, .bool false, .none] } C none := ⟨kp _ _ hoa, rfl, rfl, trivial⟩
  have hm := S.hs
  unfold PySem.W.ks_superIn at hm
  rw [hcl] at hm
  refine PySem.W.kxs_getMethod PySem.W.kxs_ValueError hso (PySem.W.looks_opaque KX1 S.ho) (l₀ := .ref C :: bm) (fun A Q E s k q => wpAny_bind ((PySem.W.looks_clsIn KX1 hcl) A _ E s k (wpAny_pure q))) rfl KX1 hm (IA.type.andThen (PySem.W.looks_subIn KX1 S.hB)) (PySem.W.ks_ne KX1 IA hcl) (by decide) ?_
  have hmw : (h'.push (PySem.W.kxs_mw "ValueError.__init__" a)).get? h'.objs.size = some (PySem.W.kxs_mw "ValueError.__init__" a) := Heap.get?_push_size _ rfl
  have I2 : Inv X pins σ H ⟨h'.push (PySem.W.kxs_mw "ValueError.__init__" a), g, d, tk + 1, os⟩ := I1.kept (t' := tk + 1) fun b o e => Heap.get?_push_of_some _ e
  generalize hG : h'.push (PySem.W.kxs_mw "ValueError.__init__" a) = G at hmw I2
  have fpo : FpOk X pins H h'.objs.size := I1.fpOk (Nat.le_refl _) (I1.hok.fresh (Nat.le_refl _))
  have I3 := I2.pinned (fp := [h'.objs.size]) (fun b hb => by rw [List.mem_singleton.mp hb]; exact fpo) (fun b hb => by rw [List.mem_singleton.mp hb]; exact ⟨_, hmw, fun v z => nomatch z⟩)
  have hpl : (backTo p3 (starEach [e] X.env)).any (·.1) = false := by rw [hst]; rfl
  refine PySem.W.kxs_callWith (i := "ValueError.__init__") (x := a) hpl ?_
  rw [hst]
  refine PySem.Calls.evalArgs_plain ?_
  show wpAny _ _ (spliced (backTo p3 ((false, eval e X.env) :: starEach [] X.env))) _ _ _
  rw [← hst]
  refine wpAny_mono ((pa_cons he pa_nil hst).run p3 _ _ σ H (fun vs H1 => match vs with | [v] => W v H1 | _ => False) I3 h) (fun us s1 hs => ?_) fun _ _ x => x
  · obtain ⟨vs1, H1, J, rv, hw⟩ := hs
    obtain ⟨v, rfl, ea, hq⟩ : ∃ v, vs1 = [v] ∧ H1 a = some (exo a C none) ∧ ∀ s', Inv X pins σ H1 s' → Q .next s' := by
      match vs1, hw with
      | [v], hw => exact ⟨v, rfl, hW v H1 hw⟩
      | [], hw => exact hw.elim
      | _ :: _ :: _, hw => exact hw.elim
    obtain ⟨u, rfl, ru⟩ := Vals.one rv
    have hpin := (J.pin (h'.objs.size, _) (List.mem_append_right _ (List.mem_append_right _ (mem_pinsAt (List.mem_singleton.mpr rfl) hmw)))).1
    refine ⟨hpin, ?_⟩
    obtain ⟨t2, hoa2⟩ := exo_at J.hok ea
    obtain ⟨hp1, g1, d1, tk1, os1⟩ := s1
    refine call_mw (J.kIn _ _ hC) hoa2 hpin (by show 1 ≤ sizeLine; decide) fun h3 t3 k3 hx => ?_
    have J2 := J.write (t' := tk1) (x := a) (e := a) (o := exo a C none) (by rw [ea]; exact True.intro) (.inl rfl) k3 ⟨_, hx⟩ (exo_ok hx)
    have eu : upd H1 a (exo a C none) = H1 := by
      funext b
      by_cases hb : b = a
      · rw [hb, upd_same, ea]
      · rw [upd_ne hb]
    rw [eu] at J2
    exact hq _ J2.unpinned
/-- THE RULE for such an __init__ -/
theorem fnOk_sup {N ps : List Str} {e : Expr} {rest : List Stmt} {p0 p1 p2 p3 p4 : Pos} {sp : Sp} {k : Nat} {oc : Value} {od : Option Addr} {osl : Array (Option Value)} {doc pm ctv : Value} (S : SupF P K mg C fI cc F ar) (lk : K.lookup fI = some ⟨oc, od, .func (F.fd doc pm ctv), osl⟩)
    (NS : NScope N ps ["__class__"] F.scope) (hN : N[0]? = some ar.arg) (hv : F.scope.names.lookup ar.arg = some .local) (hbd : F.body = .Expr (.Call (.Attribute (.Call (.Name "super" p0) [] [] p1) "__init__" p2) [e] [] p3) p4 :: rest)
    (len : ∀ vs H Q E, sp vs H Q E → vs.length = ps.length)
    (hst : ∀ env, starEach [e] env = (false, eval e env) :: starEach [] env)
    (hev : ∀ L, ∃ pl, eval (.Call (.Attribute (.Call (.Name "super" p0) [] [] p1) "__init__" p2) [e] [] p3) (envF F fI L) = (do
      let ov ← attributeBase (.Call (.Name "super" p0) [] [] p1) "__init__" (envF F fI L) (eval (.Call (.Name "super" p0) [] [] p1) (envF F fI L))
      standAt p2.atName
      let (f, first) ← holding [ov] (getMethod ov "__init__" pl)
      callWith p3 f first (backTo p3 (starEach [e] (envF F fI L))) []))
    (hin : ∀ L, interactive (envF F fI L) = false) (hsw : ∀ L, swapsWith (.Call (.Attribute (.Call (.Name "super" p0) [] [] p1) "__init__" p2) [e] [] p3) none p4.line (envF F fI L) = pure false)
    (hbody : ∀ (A : Around) (outer : List Env) (s : Shared) (H : Hp) (vs : List V) (Q : VK) (E : XK), Room k (A.deeper (envF F fI s.heap.objs.size)) → sp vs H Q E →
      ∃ (a : Addr) (te : TE) (tr : TS), (startF N vs [some (.ref C)])[0]? = some (some (.ref a)) ∧ H a = some (exo a C none) ∧ PE (ncx CX0 P w K mg base N F fI A outer s H E) e te ∧ PSs (ncx CX0 P w K mg base N F fI A outer s H E) rest tr ∧
        te (startF N vs [some (.ref C)]) H fun _ H1 => H1 a = some (exo a C none) ∧ tr { nx := fun _ H' => Q .non H', rt := Q } (startF N vs [some (.ref C)]) H1) :
    FnOk P w K mg base CX0 (k + 1) fI (F.fd doc pm ctv) ps sp := by
  refine ⟨len, fun A outer s H args us vs Q E hr e0 hbi r hsp => ?_⟩
  have KX : K.In s.heap := e0.mod.kin.keeps fun b o e => (e0.bs b o e).1
  have nT : ∀ b o, K.lookup b = some o → H b = none := fun b o e => (e0.bs b o (e0.mod.kin b o e)).2
  have lim : s.heap.NoLimit := e0.mod.nolimit.keeps fun b o e => (e0.bs b o e).1
  obtain ⟨cl, cld, csl, hcell⟩ := S.cell
  have hl := len _ _ _ _ hsp
  have ecl : ∀ y c, F.cl.lookup y = some c → y = "__class__" ∧ c = cc := fun y c e => by
    rw [S.cl] at e
    by_cases h : y = "__class__"
    · subst h
      exact ⟨rfl, (Option.some.inj e).symm⟩
    · have h2 : (y == ("__class__" : Str)) = false := by simpa using h
      simp [List.lookup, h2] at e
  have CA : CellsAt F.cl ["__class__"] [some (.ref C)] s.heap H := by
    refine ⟨rfl, fun y c e => ?_, fun x y c e1 e2 => (ecl x c e1).1.trans (ecl y c e2).1.symm, fun i y e => ?_⟩
    · obtain ⟨rfl, rfl⟩ := ecl y c e
      exact ⟨nT _ _ hcell, _, _, KX _ _ hcell, rfl⟩
    · have hi : i = 0 ∧ y = "__class__" := by
        cases i with
        | zero => exact ⟨rfl, (Option.some.inj e).symm⟩
        | succ n => simp at e
      obtain ⟨rfl, rfl⟩ := hi
      refine ⟨cc, by rw [S.cl]; rfl, fun v ev => ?_⟩
      obtain rfl : V.ref C = v := Option.some.inj (Option.some.inj ev)
      exact ⟨.ref C, rfl, _, KX _ _ hcell, rfl⟩
  refine PySem.ks_codeAny_call_defAt (body := F.body) hr.depth (KX _ _ lk) rfl lim (PySem.W.codeRec_of KX S.code) rfl hbi NS.nocell (fun ⟨n, _⟩ hy => NS.par n (List.of_mem_zip hy).1) (fun h₁ hns kp => ?_) NS.co NS.gen NS.kind
  have I : Inv (ncx CX0 P w K mg base N F fI A outer s H E) [] (startF N vs [some (.ref C)]) H { s with heap := h₁, toks := s.toks + (ps.zip us).length } := inv_startN NS hr.hd e0 (by rw [hl]) r CA hns kp
  obtain ⟨a, te, tr, h0, ha, he, hp, hq⟩ := hbody A outer s H vs Q E (hr.deeper _) hsp
  show _root_.PySem.wpAt _ (A.deeper (envF F fI s.heap.objs.size)) (.func F.body (envF F fI s.heap.objs.size)) (execs F.body (envF F fI s.heap.objs.size)) _ _ _
  rw [hbd]
  refine PySem.ks_wpAt_execs_cons ?_
  refine sup_stmt (X := ncx CX0 P w K mg base N F fI A outer s H E) (te := te) S I rfl ⟨oc, od, osl, doc, pm, ctv, lk⟩ hN h0 hv ha he (hst _) (hev _) (hin _) (hsw _) hq fun v H1 hw => ⟨hw.1, fun s' J => ?_⟩
  refine _root_.PySem.wpAt_of_wpAny (wpAny_mono (hp.run [] s' (startF N vs [some (.ref C)]) H1 _ J hw.2) (fun fl s2 hs => ?_) fun e s2 hs => hs)
  have fin : ∀ {σ' : L2.St} {H' : Hp} {v : V} {u : Value}, Inv (ncx CX0 P w K mg base N F fI A outer s H E) [] σ' H' s2 → L2.RelV v u → Q v H' → CE outer P w H s Q u s2 :=
    fun {σ' H' v u} J rv q => ⟨v, H', J.os, J.bare, J.base, J.hok, rv, q⟩
  cases fl with
  | ret u =>
    obtain ⟨v, σ', H', J, rv, q⟩ := hs
    exact fin J rv q
  | next =>
    obtain ⟨σ', H', J, q⟩ := hs
    exact fin (v := V.non) (u := Value.none) J rfl q
  | brk =>
    obtain ⟨_, _, _, q⟩ := hs
    exact False.elim q
  | cont =>
    obtain ⟨_, _, _, q⟩ := hs
    exact False.elim q
end
end Sv
set_option maxHeartbeats 1000000
namespace Sv
/-- a list of each number below its length once -/
def Eff (e : List Nat) : Prop := (∀ x ∈ e, x < e.length) ∧ e.Nodup
def ap (e : List Nat) (x : Nat) : Nat := e.getD x 0
def it (e : List Nat) : Nat → Nat → Nat
  | 0, x => x
  | k + 1, x => ap e (it e k x)
theorem ap_at {e : List Nat} {x : Nat} (h : x < e.length) : e[x]? = some (ap e x) := by
  unfold ap
  rw [List.getD_eq_getElem?_getD, List.getElem?_eq_getElem h]
  rfl
theorem ap_lt {e : List Nat} (E : Eff e) {x : Nat} (h : x < e.length) : ap e x < e.length := E.1 _ (List.mem_of_getElem? (ap_at h))
theorem ap_inj {e : List Nat} (E : Eff e) {x y : Nat} (hx : x < e.length) (hy : y < e.length) (q : ap e x = ap e y) : x = y := by
  have h1 := ap_at hx
  have h2 := ap_at hy
  rw [q, ← h2] at h1
  rw [List.getElem?_eq_getElem hx, List.getElem?_eq_getElem hy] at h1
  exact (List.getElem_inj E.2).mp (Option.some.inj h1)
theorem it_lt {e : List Nat} (E : Eff e) : ∀ {k x : Nat}, x < e.length → it e k x < e.length
  | 0, _, h => h
  | k + 1, _, h => ap_lt E (it_lt E h)
theorem it_add (e : List Nat) (a b x : Nat) : it e (a + b) x = it e a (it e b x) := by
  induction a with
  | zero =>
    rw [Nat.zero_add]
    rfl
  | succ a ih =>
    rw [Nat.succ_add]
    show ap e (it e (a + b) x) = ap e (it e a (it e b x))
    rw [ih]
theorem it_inj {e : List Nat} (E : Eff e) : ∀ {k x y : Nat}, x < e.length → y < e.length → it e k x = it e k y → x = y
  | 0, _, _, _, _, q => q
  | k + 1, _, _, hx, hy, q => it_inj (k := k) E hx hy (ap_inj E (it_lt E hx) (it_lt E hy) q)
theorem nat_sub_len : ∀ {l m : List Nat}, l.Nodup → (∀ x ∈ l, x ∈ m) → l.length ≤ m.length
  | [], _, _, _ => Nat.zero_le _
  | x :: r, m, nd, h => by
    have hx : x ∈ m := h x (List.mem_cons_self ..)
    have nr := (List.nodup_cons.mp nd)
    have ih := nat_sub_len (l := r) (m := m.erase x) nr.2 fun y hy => (List.mem_erase_of_ne (fun e => nr.1 (by rw [← e]; exact hy))).mpr (h y (List.mem_cons_of_mem _ hy))
    rw [List.length_erase_of_mem hx] at ih
    have := List.length_pos_of_mem hx
    show r.length + 1 ≤ m.length
    omega
theorem below_len {l : List Nat} {n : Nat} (nd : l.Nodup) (h : ∀ x ∈ l, x < n) : l.length ≤ n := by
  have q := nat_sub_len (m := List.range n) nd fun x hx => List.mem_range.mpr (h x hx)
  rwa [List.length_range] at q
theorem least {P : Nat → Prop} : (∃ k, P k) → ∃ k, P k ∧ ∀ j, j < k → ¬ P j := by
  intro ⟨k, hk⟩
  induction k using Nat.strongRecOn with
  | _ k ih =>
    by_cases h : ∃ j, j < k ∧ P j
    · obtain ⟨j, hj, pj⟩ := h
      exact ih j hj pj
    · exact ⟨k, hk, fun j hj pj => h ⟨j, hj, pj⟩⟩
theorem map_nodup {f : Nat → Nat} {n : Nat} (h : ∀ i j, i < j → j < n → f i ≠ f j) : ((List.range n).map f).Nodup := by
  refine List.pairwise_iff_getElem.mpr fun i j hi hj hij => ?_
  have hi' : i < n := by simpa using hi
  have hj' : j < n := by simpa using hj
  simp only [List.getElem_map, List.getElem_range]
  exact h i j hij hj'
theorem returns {e : List Nat} (E : Eff e) {s : Nat} (hs : s < e.length) : ∃ k, 1 ≤ k ∧ k ≤ e.length ∧ it e k s = s := by
  by_cases h : ∃ i j, i < j ∧ j < e.length + 1 ∧ it e i s = it e j s
  · obtain ⟨i, j, hij, hj, q⟩ := h
    refine ⟨j - i, by omega, by omega, ?_⟩
    have e1 : it e j s = it e i (it e (j - i) s) := by
      rw [← it_add]
      congr 1
      omega
    rw [e1] at q
    exact (it_inj (k := i) E hs (it_lt E hs) q).symm
  · have nd := map_nodup (f := fun k => it e k s) (n := e.length + 1) fun i j hij hj q => h ⟨i, j, hij, hj, q⟩
    have hl := below_len nd (n := e.length) fun x hx => by
      obtain ⟨k, _, rfl⟩ := List.mem_map.mp hx
      exact it_lt E hs
    simp at hl
    omega
/-- the period of a place -/
noncomputable def per (e : List Nat) (s : Nat) : Nat := open Classical in if h : ∃ k, (1 ≤ k ∧ it e k s = s) then Classical.choose (least h) else 1
theorem per_spec {e : List Nat} (E : Eff e) {s : Nat} (hs : s < e.length) : 1 ≤ per e s ∧ it e (per e s) s = s ∧ (∀ j, 1 ≤ j → j < per e s → it e j s ≠ s) ∧ per e s ≤ e.length := by
  obtain ⟨k, h1, h2, h3⟩ := returns E hs
  have h : ∃ k, (1 ≤ k ∧ it e k s = s) := ⟨k, h1, h3⟩
  have q := Classical.choose_spec (least h)
  have ep : per e s = Classical.choose (least h) := by
    unfold per
    rw [dif_pos h]
  rw [ep]
  refine ⟨q.1.1, q.1.2, fun j a b c => q.2 j b ⟨a, c⟩, ?_⟩
  refine Nat.le_trans ?_ h2
  by_cases hk : Classical.choose (least h) ≤ k
  · exact hk
  · exact absurd ⟨h1, h3⟩ (q.2 k (by omega))
theorem per_pos {e : List Nat} (E : Eff e) {s : Nat} (hs : s < e.length) : 0 < per e s := (per_spec E hs).1
theorem it_mul {e : List Nat} {s p : Nat} (h : it e p s = s) : ∀ m : Nat, it e (m * p) s = s
  | 0 => by rw [Nat.zero_mul]; rfl
  | m + 1 => by
    rw [Nat.succ_mul, it_add, h]
    exact it_mul h m
theorem it_mod {e : List Nat} (E : Eff e) {s : Nat} (hs : s < e.length) (k : Nat) : it e k s = it e (k % per e s) s := by
  have h := Nat.div_add_mod k (per e s)
  have e1 : it e k s = it e (k % per e s + (k / per e s) * per e s) s := by
    congr 1
    rw [Nat.mul_comm (k / per e s)]
    omega
  rw [e1, it_add, it_mul (per_spec E hs).2.1]
theorem per_it {e : List Nat} (E : Eff e) {s : Nat} (hs : s < e.length) (j : Nat) : per e (it e j s) = per e s := by
  have key : ∀ k, it e k (it e j s) = it e j s ↔ it e k s = s := fun k => by
    constructor
    · intro h
      rw [← it_add, Nat.add_comm, it_add] at h
      exact it_inj (k := j) E (it_lt E hs) hs h
    · intro h
      rw [← it_add, Nat.add_comm, it_add, h]
  have h1 := per_spec E hs
  have h2 := per_spec E (it_lt E hs : it e j s < e.length)
  refine Nat.le_antisymm ?_ ?_
  · by_cases h : per e (it e j s) ≤ per e s
    · exact h
    · exact absurd ((key _).mpr h1.2.1) (h2.2.2.1 _ h1.1 (by omega))
  · by_cases h : per e s ≤ per e (it e j s)
    · exact h
    · exact absurd ((key _).mp h2.2.1) (h1.2.2.1 _ h2.1 (by omega))
/-- a place, so many times on (or back) -/
noncomputable def rp (e : List Nat) (c : Int) (p : Nat) : Nat := it e (c % (per e p : Int)).toNat p
theorem rp_lt {e : List Nat} (E : Eff e) {c : Int} {p : Nat} (hp : p < e.length) : rp e c p < e.length := it_lt E hp
theorem rp_nat {e : List Nat} (E : Eff e) (k : Nat) {p : Nat} (hp : p < e.length) : rp e (k : Int) p = it e k p := by
  unfold rp
  rw [it_mod E hp k]
  congr 1
theorem rp_add {e : List Nat} (E : Eff e) (a b : Int) {p : Nat} (hp : p < e.length) : rp e b (rp e a p) = rp e (a + b) p := by
  have hpos : (0 : Int) < (per e p : Int) := by
    have := per_pos E hp
    omega
  unfold rp
  rw [per_it E hp, ← it_add, it_mod E hp]
  congr 1
  have h1 := Int.emod_nonneg a (Int.ne_of_gt hpos)
  have h2 := Int.emod_nonneg b (Int.ne_of_gt hpos)
  have h3 := Int.emod_nonneg (a + b) (Int.ne_of_gt hpos)
  have e1 : (((b % (per e p : Int)).toNat + (a % (per e p : Int)).toNat : Nat) : Int) % (per e p : Int) = (a + b) % (per e p : Int) := by
    rw [Int.natCast_add, Int.toNat_of_nonneg h1, Int.toNat_of_nonneg h2, ← Int.add_emod, Int.add_comm]
  rw [← Int.natCast_emod] at e1
  omega
theorem rp_zero {e : List Nat} (p : Nat) : rp e 0 p = p := by
  unfold rp
  rw [Int.zero_emod]
  rfl
theorem rp_inj {e : List Nat} (E : Eff e) {c : Int} {p q : Nat} (hp : p < e.length) (hq : q < e.length) (h : rp e c p = rp e c q) : p = q := by
  have h1 := congrArg (rp e (-c)) h
  rw [rp_add E _ _ hp, rp_add E _ _ hq] at h1
  have e0 : c + -c = 0 := by omega
  rwa [e0, rp_zero, rp_zero] at h1
/-- the effect, so many times -/
noncomputable def rep (e : List Nat) (c : Int) : List Nat := (List.range e.length).map (rp e c)
theorem rep_len (e : List Nat) (c : Int) : (rep e c).length = e.length := by unfold rep; simp
theorem rep_ap {e : List Nat} {c : Int} {p : Nat} (hp : p < e.length) : ap (rep e c) p = rp e c p := by
  unfold rep ap
  rw [List.getD_eq_getElem?_getD, List.getElem?_map, List.getElem?_range hp]
  rfl
theorem map_eff {n : Nat} {f : Nat → Nat} (h1 : ∀ p, p < n → f p < n) (h2 : ∀ p q, p < n → q < n → f p = f q → p = q) : Eff ((List.range n).map f) := by
  refine ⟨fun x hx => ?_, map_nodup fun i j hij hj q => ?_⟩
  · obtain ⟨p, hp, rfl⟩ := List.mem_map.mp hx
    rw [List.length_map, List.length_range]
    exact h1 p (List.mem_range.mp hp)
  · have := h2 i j (by omega) hj q
    omega
theorem rep_eff {e : List Nat} (E : Eff e) (c : Int) : Eff (rep e c) := map_eff (fun p hp => rp_lt E hp) fun p q hp hq h => rp_inj E hp hq h
/-- two lists of one length are one if they are so at each place -/
theorem ext_ap {a b : List Nat} (hl : a.length = b.length) (h : ∀ p, p < a.length → ap a p = ap b p) : a = b := by
  refine List.ext_getElem? fun i => ?_
  by_cases hi : i < a.length
  · rw [ap_at hi, ap_at (by omega), h i hi]
  · rw [List.getElem?_eq_none (by omega), List.getElem?_eq_none (by omega)]
def comp (a b : List Nat) : List Nat := a.map (ap b)
theorem comp_len (a b : List Nat) : (comp a b).length = a.length := by unfold comp; simp
theorem comp_ap {a b : List Nat} {p : Nat} (hp : p < a.length) : ap (comp a b) p = ap b (ap a p) := by
  unfold comp
  have h : (a.map (ap b))[p]? = some (ap b (ap a p)) := by rw [List.getElem?_map, ap_at hp]; rfl
  rw [ap_at (by simpa using hp)] at h
  exact Option.some.inj h
theorem comp_eff {a b : List Nat} (A : Eff a) (B : Eff b) (hl : a.length = b.length) : Eff (comp a b) := by
  refine ⟨fun x hx => ?_, ?_⟩
  · obtain ⟨y, hy, rfl⟩ := List.mem_map.mp hx
    rw [comp_len, hl]
    exact ap_lt B (by rw [← hl]; exact A.1 y hy)
  · unfold comp
    refine List.pairwise_iff_getElem.mpr fun i j hi hj hij q => ?_
    simp only [List.getElem_map] at q
    simp at hi hj
    have q2 := ap_inj B (by rw [← hl]; exact A.1 _ (List.getElem_mem hi)) (by rw [← hl]; exact A.1 _ (List.getElem_mem hj)) q
    exact absurd ((List.getElem_inj A.2).mp q2) (by omega)
theorem rep_one {e : List Nat} (E : Eff e) : rep e 1 = e := by
  refine ext_ap (rep_len e 1) fun p hp => ?_
  rw [rep_len] at hp
  rw [rep_ap hp]
  exact rp_nat E 1 hp
/-- the inverse, as the program makes it: step by step -/
def invF (e : List Nat) : Nat → List Nat
  | 0 => List.replicate e.length 0
  | k + 1 => (invF e k).set (ap e k) k
theorem invF_len (e : List Nat) : ∀ k, (invF e k).length = e.length
  | 0 => List.length_replicate
  | k + 1 => by
    show ((invF e k).set _ _).length = _
    rw [List.length_set, invF_len e k]
theorem invF_at {e : List Nat} (E : Eff e) : ∀ (k : Nat), k ≤ e.length → ∀ i, i < k → ap (invF e k) (ap e i) = i
  | 0, _, i, hi => by omega
  | k + 1, hk, i, hi => by
    have hlen := invF_len e k
    show ap ((invF e k).set (ap e k) k) (ap e i) = i
    have hik : ap e i < (invF e k).length := by
      rw [hlen]
      exact ap_lt E (by omega)
    by_cases h : i = k
    · subst h
      unfold ap at *
      rw [List.getD_eq_getElem?_getD, List.getElem?_set_self hik]
      rfl
    · have ne : ap e k ≠ ap e i := fun q => h (ap_inj E (by omega) (by omega) q).symm
      have ih := invF_at E k (by omega) i (by omega)
      unfold ap at *
      rw [List.getD_eq_getElem?_getD, List.getElem?_set_ne ne, ← List.getD_eq_getElem?_getD]
      exact ih
def inv (e : List Nat) : List Nat := invF e e.length
theorem inv_len (e : List Nat) : (inv e).length = e.length := invF_len e _
theorem inv_ap {e : List Nat} (E : Eff e) {i : Nat} (hi : i < e.length) : ap (inv e) (ap e i) = i := invF_at E _ (Nat.le_refl _) i hi
/-- the inverse of a repetition -/
theorem inv_rep {e : List Nat} (E : Eff e) (c : Int) : inv (rep e c) = rep e (-c) := by
  refine ext_ap (by rw [inv_len, rep_len, rep_len]) fun q hq => ?_
  rw [inv_len, rep_len] at hq
  have h1 : rp e c (rp e (-c) q) = q := by
    rw [rp_add E _ _ hq, show -c + c = 0 by omega, rp_zero]
  have h2 := inv_ap (rep_eff E c) (i := rp e (-c) q) (by rw [rep_len]; exact rp_lt E hq)
  rw [rep_ap (rp_lt E hq), h1] at h2
  rw [h2, rep_ap hq]
theorem inv_eq {e : List Nat} (E : Eff e) : inv e = rep e (-1) := by
  have h := inv_rep E 1
  rwa [rep_one E] at h
theorem inv_eff {e : List Nat} (E : Eff e) : Eff (inv e) := by
  rw [inv_eq E]
  exact rep_eff E _
theorem inv_inv {e : List Nat} (E : Eff e) : inv (inv e) = e := by
  rw [inv_eq E, inv_rep E, show (- -1 : Int) = 1 by decide, rep_one E]
end Sv
set_option maxHeartbeats 1000000
namespace Sv
open PySem
abbrev Ro := List (Option Int)
/-- the first that p does not hold of -/
def fst {α : Type} (p : α → Bool) : List α → Nat → Option Nat
  | [], _ => none
  | x :: r, i => if p x = true then fst p r (i + 1) else some i
theorem fst_some {α : Type} {p : α → Bool} : ∀ {l : List α} {i k : Nat} {x : α}, (∀ (j : Nat) (y : α), j < i → l[j]? = some y → p y = true) → l[i]? = some x → p x = false → fst p l k = some (i + k)
  | [], i, k, x, _, h, _ => by simp at h
  | y :: l, 0, k, x, _, h, hp => by
    obtain rfl := Option.some.inj h
    unfold fst
    rw [hp]
    simp
  | y :: l, i + 1, k, x, hb, h, hp => by
    unfold fst
    rw [hb 0 y (by omega) rfl, if_pos rfl, fst_some (l := l) (i := i) (k := k + 1) (fun j z hj hz => hb (j + 1) z (by omega) (by simpa using hz)) (by simpa using h) hp]
    congr 1
    omega
theorem fst_none {α : Type} {p : α → Bool} : ∀ {l : List α} {k : Nat}, (∀ (j : Nat) (y : α), l[j]? = some y → p y = true) → fst p l k = none
  | [], _, _ => rfl
  | y :: l, k, h => by
    unfold fst
    rw [h 0 y rfl, if_pos rfl]
    exact fst_none fun j z hz => h (j + 1) z (by simpa using hz)
theorem fst_all {α : Type} {p : α → Bool} : ∀ {l : List α} {k : Nat}, fst p l k = none → ∀ y ∈ l, p y = true
  | [], _, _, y, hy => by simp at hy
  | x :: l, k, h, y, hy => by
    unfold fst at h
    split at h
    · rename_i hx
      rcases List.mem_cons.mp hy with rfl | hy
      · exact hx
      · exact fst_all h y hy
    · cases h
def okZ (z : Int) : Bool := decide (0 ≤ z ∧ z ≤ 9)
def okE (n : Int) : Option Int → Bool
  | none => true
  | some i => decide (0 ≤ i ∧ i ≤ n - 1)
def okR (n : Int) (r : Ro) : Bool := decide (1 ≤ r.length ∧ r.length ≤ 6) && r.all (okE n)
def badS (zs : List Int) : Option Int := if 1 ≤ zs.length ∧ zs.length ≤ 12 then (fst okZ zs 0).map fun (k : Nat) => (k : Int) else some (-1)
def badR (n : Int) (rs : List Ro) : Option Int := if 1 ≤ rs.length ∧ rs.length ≤ 6 then (fst (okR n) rs 0).map fun (k : Nat) => (k : Int) else some (-1)
/-- what is wrong with a plan -/
def bad (zs : List Int) (rs : List Ro) : Option (Str × Int) := match badS zs with
  | some i => some ("sizes", i)
  | none => (badR zs.length rs).map fun i => ("routes", i)
def Small (zs : List Int) (rs : List Ro) : Prop := zs.length ≤ 1000 ∧ rs.length ≤ 1000 ∧ ∀ r ∈ rs, r.length ≤ 1000
/-- the entry of a route at a time -/
def ent (r : Ro) (m : Int) : Option Int := r.getD (m % (r.length : Int)).toNat none
theorem ent_get {r : Ro} (h : r ≠ []) (m : Int) : r[(m % (r.length : Int)).toNat]? = some (ent r m) ∧ m % (r.length : Int) = ((m % (r.length : Int)).toNat : Int) := by
  have hl : 0 < r.length := List.length_pos_iff.mpr h
  have h0 := Int.emod_nonneg m (by omega : (r.length : Int) ≠ 0)
  have h1 := Int.emod_lt_of_pos m (by omega : (0 : Int) < (r.length : Int))
  have e := Int.toNat_of_nonneg h0
  refine ⟨?_, e.symm⟩
  have hlt : (m % (r.length : Int)).toNat < r.length := by omega
  unfold ent
  rw [List.getD_eq_getElem?_getD, List.getElem?_eq_getElem hlt]
  rfl
def rot {α : Type} (r : List α) (s : Nat) : List α := r.drop s ++ r.take s
theorem rot_full {α : Type} (r : List α) : rot r r.length = r := by
  unfold rot
  rw [List.drop_of_length_le (Nat.le_refl _), List.take_of_length_le (Nat.le_refl _), List.nil_append]
theorem leastN {P : Nat → Prop} : (∃ k, P k) → ∃ k, P k ∧ ∀ j, j < k → ¬ P j := by
  rintro ⟨k, hk⟩
  induction k using Nat.strongRecOn with
  | _ k ih =>
    by_cases h : ∃ j, j < k ∧ P j
    · obtain ⟨j, hj, hp⟩ := h
      exact ih j hj hp
    · exact ⟨k, hk, fun j hj hp => h ⟨j, hj, hp⟩⟩
open Classical in
/-- the least number of steps that leaves a list as it is -/
noncomputable def rtp {α : Type} (r : List α) : Nat := if h : ∃ k, 1 ≤ k ∧ rot r k = r then Classical.choose (leastN h) else 0
theorem rtp_spec {α : Type} {r : List α} (h : r ≠ []) : 1 ≤ rtp r ∧ rot r (rtp r) = r ∧ (∀ j, 1 ≤ j → j < rtp r → rot r j ≠ r) ∧ rtp r ≤ r.length := by
  have hl : 1 ≤ r.length := List.length_pos_iff.mpr h
  have ex : ∃ k, 1 ≤ k ∧ rot r k = r := ⟨r.length, hl, rot_full r⟩
  have e : rtp r = Classical.choose (leastN ex) := by
    unfold rtp
    rw [dif_pos ex]
  have sp := Classical.choose_spec (leastN ex)
  rw [← e] at sp
  refine ⟨sp.1.1, sp.1.2, fun j h1 h2 z => sp.2 j h2 ⟨h1, z⟩, ?_⟩
  by_cases hh : rtp r ≤ r.length
  · exact hh
  · exact absurd ⟨hl, rot_full r⟩ (sp.2 r.length (by omega))
structure Good (zs : List Int) (rs : List Ro) : Prop where
  z1 : 1 ≤ zs.length ∧ zs.length ≤ 12
  z2 : ∀ z ∈ zs, 0 ≤ z ∧ z ≤ 9
  r1 : 1 ≤ rs.length ∧ rs.length ≤ 6
  r2 : ∀ r ∈ rs, 1 ≤ r.length ∧ r.length ≤ 6
theorem good_of {zs : List Int} {rs : List Ro} (h : bad zs rs = none) : Good zs rs := by
  unfold bad at h
  cases hb : badS zs with
  | some i => rw [hb] at h; cases h
  | none =>
    rw [hb] at h
    simp only [Option.map_eq_none_iff] at h
    unfold badS at hb
    unfold badR at h
    split at hb
    · split at h
      · rename_i c1 c2
        rw [Option.map_eq_none_iff] at hb h
        refine ⟨c1, fun z hz => of_decide_eq_true (fst_all hb z hz), c2, fun r hr => ?_⟩
        have := fst_all h r hr
        unfold okR at this
        rw [Bool.and_eq_true] at this
        exact of_decide_eq_true this.1
      · cases h
    · cases hb
theorem Good.ne {zs : List Int} {rs : List Ro} (g : Good zs rs) : ∀ r ∈ rs, r ≠ [] ∧ r.length ≤ 1000 := fun r hr => by
  have := g.r2 r hr
  exact ⟨fun z => by rw [z] at this; simp at this, by omega⟩
noncomputable def lc (rs : List Ro) : Nat := rs.foldl (fun m r => Nat.lcm m (rtp r)) 1
theorem lc_snoc (rs : List Ro) (r : Ro) : lc (rs ++ [r]) = Nat.lcm (lc rs) (rtp r) := by
  unfold lc
  rw [List.foldl_append]
  rfl
theorem dvd60 {k : Nat} (h1 : 1 ≤ k) (h2 : k ≤ 6) : k ∣ 60 := by
  have : k = 1 ∨ k = 2 ∨ k = 3 ∨ k = 4 ∨ k = 5 ∨ k = 6 := by omega
  rcases this with rfl | rfl | rfl | rfl | rfl | rfl <;> decide
theorem rtp_dvd60 {r : Ro} (h : 1 ≤ r.length ∧ r.length ≤ 6) : rtp r ∣ 60 := by
  obtain ⟨a, _, _, d⟩ := rtp_spec (r := r) (fun z => by rw [z] at h; simp at h)
  exact dvd60 a (by omega)
theorem fold_dvd60 : ∀ {rs : List Ro} {m : Nat}, m ∣ 60 → (∀ r ∈ rs, 1 ≤ r.length ∧ r.length ≤ 6) → rs.foldl (fun m r => Nat.lcm m (rtp r)) m ∣ 60
  | [], m, hm, _ => hm
  | r :: rs, m, hm, h => fold_dvd60 (rs := rs) (m := Nat.lcm m (rtp r)) (Nat.lcm_dvd hm (rtp_dvd60 (h r (List.mem_cons_self ..)))) fun x hx => h x (List.mem_cons_of_mem _ hx)
theorem lc_dvd60 {rs : List Ro} (h : ∀ r ∈ rs, 1 ≤ r.length ∧ r.length ≤ 6) : lc rs ∣ 60 := fold_dvd60 (by decide) h
theorem lc_le {rs : List Ro} (h : ∀ r ∈ rs, 1 ≤ r.length ∧ r.length ≤ 6) : 1 ≤ lc rs ∧ lc rs ≤ 60 := by
  have d := lc_dvd60 h
  refine ⟨Nat.pos_of_ne_zero fun z => ?_, Nat.le_of_dvd (by decide) d⟩
  rw [z] at d
  have := Nat.eq_zero_of_zero_dvd d
  omega
/-- the pairs of a tick -/
def prs (rs : List Ro) (m : Int) : Nat → List (Nat × Int)
  | 0 => []
  | k + 1 => prs rs m k ++ (match rs[k]? with | some r => (match ent r m with | some z => [(k, z)] | none => []) | none => [])
end Sv
set_option maxHeartbeats 1000000
namespace Sv
def sumN (zs : List Int) : Nat := (zs.map Int.toNat).sum
theorem sum_int {zs : List Int} (h : ∀ z ∈ zs, 0 ≤ z) : zs.sum = (sumN zs : Nat) := by
  unfold sumN
  induction zs with
  | nil => rfl
  | cons z zs ih =>
    have h1 := h z (List.mem_cons_self ..)
    have h2 := ih fun x hx => h x (List.mem_cons_of_mem _ hx)
    simp only [List.sum_cons, List.map_cons]
    rw [h2]
    omega
def segs {α : Type} (cs : List α) : Nat → List Int → List (List α)
  | _, [] => []
  | st, z :: zs => (cs.drop st).take z.toNat :: segs cs (st + z.toNat) zs
theorem segs_len {α : Type} (cs : List α) : ∀ (st : Nat) (zs : List Int), (segs cs st zs).length = zs.length
  | _, [] => rfl
  | st, z :: zs => congrArg Nat.succ (segs_len cs _ zs)
theorem segs_flat {α : Type} (cs : List α) : ∀ (st : Nat) (zs : List Int), (segs cs st zs).flatten = (cs.drop st).take (sumN zs)
  | st, [] => by
    show [] = (cs.drop st).take 0
    rw [List.take_zero]
  | st, z :: zs => by
    show (cs.drop st).take z.toNat ++ (segs cs (st + z.toNat) zs).flatten = (cs.drop st).take (sumN (z :: zs))
    rw [segs_flat cs _ zs]
    have e : sumN (z :: zs) = z.toNat + sumN zs := by unfold sumN; rw [List.map_cons, List.sum_cons]
    rw [e, List.take_add, List.drop_drop]
theorem segs_snoc {α : Type} (cs : List α) : ∀ (st : Nat) (zs : List Int) (z : Int), segs cs st (zs ++ [z]) = segs cs st zs ++ [(cs.drop (st + sumN zs)).take z.toNat]
  | st, [], z => by
    show [(cs.drop st).take z.toNat] = _
    rfl
  | st, y :: zs, z => by
    show (cs.drop st).take y.toNat :: segs cs (st + y.toNat) (zs ++ [z]) = _
    rw [segs_snoc cs _ zs z]
    have e : sumN (y :: zs) = y.toNat + sumN zs := by unfold sumN; rw [List.map_cons, List.sum_cons]
    rw [e, ← Nat.add_assoc]
    rfl
theorem sumN_snoc (zs : List Int) (z : Int) : sumN (zs ++ [z]) = sumN zs + z.toNat := by unfold sumN; simp
theorem segs_lens {α : Type} (cs : List α) : ∀ (st : Nat) (zs : List Int), st + sumN zs ≤ cs.length → (segs cs st zs).map List.length = zs.map Int.toNat
  | _, [], _ => rfl
  | st, z :: zs, h => by
    have e : sumN (z :: zs) = z.toNat + sumN zs := by unfold sumN; rw [List.map_cons, List.sum_cons]
    rw [e] at h
    show ((cs.drop st).take z.toNat).length :: (segs cs (st + z.toNat) zs).map List.length = _
    rw [segs_lens cs _ zs (by omega), List.length_take, List.length_drop, List.map_cons]
    congr 1
    omega
abbrev Lay (α : Type) := List α × List (List α)
def join {α : Type} (L : Lay α) : List α := L.1 ++ L.2.flatten
def mapL {α β : Type} (f : α → β) (L : Lay α) : Lay β := (L.1.map f, L.2.map (List.map f))
theorem join_map {α β : Type} (f : α → β) (L : Lay α) : join (mapL f L) = (join L).map f := by
  unfold join mapL
  rw [List.map_append, List.map_flatten]
/-- a carrier at a shelf -/
def step1 {α : Type} (L : Lay α) (p : Nat × Nat) : Lay α := match L.1[p.1]?, L.2[p.2]? with
  | some x, some row => (L.1.set p.1 (row.headD x), L.2.set p.2 (row ++ [x]).tail)
  | _, _ => L
def steps {α : Type} (ps : List (Nat × Nat)) (L : Lay α) : Lay α := ps.foldl step1 L
theorem steps_snoc {α : Type} (ps : List (Nat × Nat)) (p : Nat × Nat) (L : Lay α) : steps (ps ++ [p]) L = step1 (steps ps L) p := by
  unfold steps
  rw [List.foldl_append]
  rfl
theorem step1_map {α β : Type} (f : α → β) (L : Lay α) (p : Nat × Nat) : step1 (mapL f L) p = mapL f (step1 L p) := by
  unfold step1 mapL
  simp only [List.getElem?_map]
  cases L.1[p.1]? with
  | none => rfl
  | some x =>
    cases L.2[p.2]? with
    | none => rfl
    | some row =>
      simp only [Option.map_some, List.map_set]
      refine Prod.ext ?_ ?_
      · simp only
        congr 1
        cases row <;> rfl
      · simp only
        congr 1
        rw [List.map_tail, List.map_append]
        rfl
theorem steps_map {α β : Type} (f : α → β) : ∀ (ps : List (Nat × Nat)) (L : Lay α), steps ps (mapL f L) = mapL f (steps ps L)
  | [], _ => rfl
  | p :: ps, L => by
    show steps ps (step1 (mapL f L) p) = mapL f (steps ps (step1 L p))
    rw [step1_map, steps_map f ps]
/-- so many carriers, so much on the shelves -/
def Fits {α : Type} (n : Nat) (zs : List Int) (L : Lay α) : Prop := L.1.length = n ∧ L.2.map List.length = zs.map Int.toNat
theorem step1_fits {α : Type} {n : Nat} {zs : List Int} {L : Lay α} (h : Fits n zs L) (p : Nat × Nat) : Fits n zs (step1 L p) := by
  unfold step1
  cases h1 : L.1[p.1]? with
  | none => exact h
  | some x =>
    cases h2 : L.2[p.2]? with
    | none => exact h
    | some row =>
      refine ⟨by simp only [List.length_set]; exact h.1, ?_⟩
      simp only
      rw [List.map_set, ← h.2]
      have e : ((row ++ [x]).tail).length = row.length := by simp
      rw [e]
      refine List.ext_getElem? fun i => ?_
      by_cases hi : p.2 = i
      · subst hi
        obtain ⟨hlt, hv⟩ := List.getElem?_eq_some_iff.mp h2
        rw [List.getElem?_set_self (by simpa using hlt), List.getElem?_map, h2]
        rfl
      · rw [List.getElem?_set_ne hi]
theorem steps_fits {α : Type} {n : Nat} {zs : List Int} : ∀ (ps : List (Nat × Nat)) {L : Lay α}, Fits n zs L → Fits n zs (steps ps L)
  | [], _, h => h
  | p :: ps, _, h => steps_fits ps (step1_fits h p)
theorem count_set {l : List Nat} {i x y : Nat} (h : l[i]? = some x) (a : Nat) : (l.set i y).count a + (if x = a then 1 else 0) = l.count a + (if y = a then 1 else 0) := by
  induction l generalizing i with
  | nil => cases h
  | cons z l ih =>
    cases i with
    | zero =>
      cases h
      simp only [List.set_cons_zero, List.count_cons, beq_iff_eq]
      omega
    | succ i =>
      have := ih (i := i) (by simpa using h)
      simp only [List.set_cons_succ, List.count_cons]
      omega
theorem count_flat_set {l : List (List Nat)} {i : Nat} {x y : List Nat} (h : l[i]? = some x) (a : Nat) : (l.set i y).flatten.count a + x.count a = l.flatten.count a + y.count a := by
  induction l generalizing i with
  | nil => cases h
  | cons z l ih =>
    cases i with
    | zero =>
      cases h
      simp only [List.set_cons_zero, List.flatten_cons, List.count_append]
      omega
    | succ i =>
      have := ih (i := i) (by simpa using h)
      simp only [List.set_cons_succ, List.flatten_cons, List.count_append]
      omega
theorem step1_perm (L : Lay Nat) (p : Nat × Nat) : (join (step1 L p)).Perm (join L) := by
  unfold step1
  cases h1 : L.1[p.1]? with
  | none => exact .refl _
  | some x =>
    cases h2 : L.2[p.2]? with
    | none => exact .refl _
    | some row =>
      refine List.perm_iff_count.mpr fun a => ?_
      unfold join
      simp only [List.count_append]
      have e1 := count_set (y := row.headD x) h1 a
      have e2 := count_flat_set (y := (row ++ [x]).tail) h2 a
      have e3 : (if row.headD x = a then 1 else 0) + ((row ++ [x]).tail).count a = row.count a + (if x = a then 1 else 0) := by
        cases row with
        | nil => simp
        | cons y row =>
          simp only [List.headD_cons, List.cons_append, List.tail_cons, List.count_append, List.count_cons, List.count_nil]
          by_cases q1 : y = a <;> by_cases q2 : x = a <;> simp [q1, q2] <;> omega
      omega
theorem steps_perm : ∀ (ps : List (Nat × Nat)) (L : Lay Nat), (join (steps ps L)).Perm (join L)
  | [], _ => .refl _
  | p :: ps, L => (steps_perm ps (step1 L p)).trans (step1_perm L p)
def spl {α : Type} (n : Nat) (zs : List Int) (cs : List α) : Lay α := (cs.take n, segs cs n zs)
theorem segs_map {α β : Type} (f : α → β) (cs : List α) : ∀ (st : Nat) (zs : List Int), segs (cs.map f) st zs = (segs cs st zs).map (List.map f)
  | _, [] => rfl
  | st, z :: zs => by
    show ((cs.map f).drop st).take z.toNat :: segs (cs.map f) (st + z.toNat) zs = ((cs.drop st).take z.toNat).map f :: (segs cs (st + z.toNat) zs).map (List.map f)
    rw [segs_map f cs, List.map_take, List.map_drop]
theorem spl_map {α β : Type} (f : α → β) (n : Nat) (zs : List Int) (cs : List α) : spl n zs (cs.map f) = mapL f (spl n zs cs) := by
  unfold spl mapL
  rw [segs_map, List.map_take]
theorem join_spl {α : Type} {n : Nat} {zs : List Int} {cs : List α} (h : cs.length = n + sumN zs) : join (spl n zs cs) = cs := by
  unfold join spl
  simp only
  rw [segs_flat, List.take_of_length_le (l := cs.drop n) (by rw [List.length_drop]; omega), List.take_append_drop]
theorem spl_fits {α : Type} {n : Nat} {zs : List Int} {cs : List α} (h : cs.length = n + sumN zs) : Fits n zs (spl n zs cs) := by
  refine ⟨?_, segs_lens cs n zs (by omega)⟩
  show (cs.take n).length = n
  rw [List.length_take]
  omega
theorem flat_len2 {α : Type} : ∀ {ss : List (List α)} {zs : List Int}, ss.map List.length = zs.map Int.toNat → ss.flatten.length = sumN zs
  | [], [], _ => rfl
  | [], _ :: _, h => by cases h
  | _ :: _, [], h => by cases h
  | s :: ss, z :: zs, h => by
    rw [List.map_cons, List.map_cons] at h
    injection h with h1 h2
    rw [List.flatten_cons, List.length_append, flat_len2 h2]
    unfold sumN
    rw [List.map_cons, List.sum_cons]
    omega
theorem join_len {α : Type} {n : Nat} {zs : List Int} {L : Lay α} (h : Fits n zs L) : (join L).length = n + sumN zs := by
  unfold join
  rw [List.length_append, h.1, flat_len2 h.2]
/-- the numbers of the places -/
def idx (n : Nat) (zs : List Int) : Lay Nat := spl n zs (List.range (n + sumN zs))
theorem idx_fits (n : Nat) (zs : List Int) : Fits n zs (idx n zs) := spl_fits (by rw [List.length_range])
theorem join_idx (n : Nat) (zs : List Int) : join (idx n zs) = List.range (n + sumN zs) := join_spl (by rw [List.length_range])
theorem map_getD {α : Type} (d : α) (cs : List α) : (List.range cs.length).map (fun i => cs.getD i d) = cs := by
  refine List.ext_getElem? fun i => ?_
  by_cases h : i < cs.length
  · rw [List.getElem?_map, List.getElem?_range h, Option.map_some, List.getD_eq_getElem?_getD, List.getElem?_eq_getElem h]
    rfl
  · rw [List.getElem?_eq_none (by simp; omega), List.getElem?_eq_none (by omega)]
/-- the visits of the tick behind the time t -/
def vis (rs : List Ro) (t : Int) : List (Nat × Nat) := (prs rs t rs.length).map fun p => (p.1, p.2.toNat)
def tickL {α : Type} (rs : List Ro) (t : Int) (L : Lay α) : Lay α := steps (vis rs t) L
def run {α : Type} (rs : List Ro) (t : Int) : Nat → Lay α → Lay α
  | 0, L => L
  | k + 1, L => tickL rs (t + (k : Nat)) (run rs t k L)
theorem run_map {α β : Type} (f : α → β) (rs : List Ro) (t : Int) : ∀ (k : Nat) (L : Lay α), run rs t k (mapL f L) = mapL f (run rs t k L)
  | 0, _ => rfl
  | k + 1, L => by
    show tickL _ _ (run rs t k (mapL f L)) = mapL f (tickL _ _ (run rs t k L))
    rw [run_map f rs t k L]
    exact steps_map f _ _
theorem run_fits {α : Type} {n : Nat} {zs : List Int} (rs : List Ro) (t : Int) : ∀ (k : Nat) {L : Lay α}, Fits n zs L → Fits n zs (run rs t k L)
  | 0, _, h => h
  | k + 1, _, h => steps_fits _ (run_fits rs t k h)
theorem run_perm (rs : List Ro) (t : Int) : ∀ (k : Nat) (L : Lay Nat), (join (run rs t k L)).Perm (join L)
  | 0, _ => .refl _
  | k + 1, L => (steps_perm _ _).trans (run_perm rs t k L)
/-- from which place what is at each place now has come -/
def org (n : Nat) (zs : List Int) (rs : List Ro) (t : Int) (k : Nat) : List Nat := join (run rs t k (idx n zs))
theorem org_len (n : Nat) (zs : List Int) (rs : List Ro) (t : Int) (k : Nat) : (org n zs rs t k).length = n + sumN zs := join_len (run_fits rs t k (idx_fits n zs))
theorem org_eff (n : Nat) (zs : List Int) (rs : List Ro) (t : Int) (k : Nat) : Eff (org n zs rs t k) := by
  have p : (org n zs rs t k).Perm (List.range (n + sumN zs)) := by
    have := run_perm rs t k (idx n zs)
    rwa [join_idx] at this
  refine ⟨fun x hx => ?_, p.nodup_iff.mpr List.nodup_range⟩
  rw [org_len]
  exact List.mem_range.mp (p.mem_iff.mp hx)
theorem org_zero (n : Nat) (zs : List Int) (rs : List Ro) (t : Int) : org n zs rs t 0 = List.range (n + sumN zs) := join_idx n zs
end Sv
set_option maxHeartbeats 1000000
namespace Sv
theorem ap_inv {e : List Nat} (E : Eff e) {q : Nat} (hq : q < e.length) : ap e (ap (inv e) q) = q := by
  have := inv_ap (inv_eff E) (i := q) (by rw [inv_len]; exact hq)
  rwa [inv_inv E] at this
theorem range_ap {n p : Nat} (h : p < n) : ap (List.range n) p = p := by
  unfold ap
  rw [List.getD_eq_getElem?_getD, List.getElem?_range h]
  rfl
theorem inv_range (n : Nat) : inv (List.range n) = List.range n := by
  have R : Eff (List.range n) := ⟨fun x hx => by rw [List.length_range]; exact List.mem_range.mp hx, List.nodup_range⟩
  refine ext_ap (inv_len _) fun p hp => ?_
  rw [inv_len, List.length_range] at hp
  have := inv_ap R (i := p) (by rw [List.length_range]; exact hp)
  rw [range_ap hp] at this
  rw [this, range_ap hp]
section
variable (n : Nat) (zs : List Int) (rs : List Ro)
/-- so many ticks on -/
def fwd (t : Int) (k : Nat) : List Nat := inv (org n zs rs t k)
theorem fwd_len (t : Int) (k : Nat) : (fwd n zs rs t k).length = n + sumN zs := (inv_len _).trans (org_len ..)
theorem fwd_eff (t : Int) (k : Nat) : Eff (fwd n zs rs t k) := inv_eff (org_eff ..)
theorem fwd_zero (t : Int) : fwd n zs rs t 0 = List.range (n + sumN zs) := by
  unfold fwd
  rw [org_zero, inv_range]
variable {rs}
variable (rs)
/-- a pattern -/
noncomputable def wh (t : Int) : List Nat := fwd n zs rs t (lc rs)
theorem wh_len (t : Int) : (wh n zs rs t).length = n + sumN zs := fwd_len ..
theorem wh_eff (t : Int) : Eff (wh n zs rs t) := fwd_eff ..
/-- any number of ticks, on or back -/
noncomputable def effT (t c : Int) : List Nat := comp (rep (wh n zs rs t) (c / (lc rs : Int))) (fwd n zs rs t (c % (lc rs : Int)).toNat)
theorem effT_len (t c : Int) : (effT n zs rs t c).length = n + sumN zs := by
  unfold effT
  rw [comp_len, rep_len, wh_len]
theorem effT_eff (t c : Int) : Eff (effT n zs rs t c) := comp_eff (rep_eff (wh_eff ..) _) (fwd_eff ..) (by rw [rep_len, wh_len, fwd_len])
variable {rs}
variable (h : ∀ r ∈ rs, r ≠ []) (hp : 1 ≤ lc rs)
include h
include hp
end
end Sv
set_option maxHeartbeats 1000000
namespace Sv
noncomputable def cyc (e : List Nat) (s : Nat) : List Nat := (List.range (per e s)).map fun k => it e k s
theorem cyc_len (e : List Nat) (s : Nat) : (cyc e s).length = per e s := by unfold cyc; simp
theorem cyc_at {e : List Nat} {s j : Nat} (h : j < per e s) : (cyc e s)[j]? = some (it e j s) := by
  unfold cyc
  rw [List.getElem?_map, List.getElem?_range h]
  rfl
theorem cyc_mem {e : List Nat} (E : Eff e) {s : Nat} (hs : s < e.length) {p : Nat} : p ∈ cyc e s ↔ ∃ k, p = it e k s := by
  unfold cyc
  rw [List.mem_map]
  constructor
  · rintro ⟨k, _, rfl⟩
    exact ⟨k, rfl⟩
  · rintro ⟨k, rfl⟩
    exact ⟨k % per e s, List.mem_range.mpr (Nat.mod_lt _ (per_pos E hs)), (it_mod E hs k).symm⟩
theorem cyc_nodup {e : List Nat} (E : Eff e) {s : Nat} (hs : s < e.length) : (cyc e s).Nodup := map_nodup fun i j hij hj q => by
  have e1 : it e j s = it e i (it e (j - i) s) := by
    rw [← it_add]
    congr 1
    omega
  rw [e1] at q
  have q2 := (it_inj (k := i) E hs (it_lt E hs) q).symm
  exact (per_spec E hs).2.2.1 (j - i) (by omega) (by omega) q2
open Classical in
noncomputable def whN (e : List Nat) : Nat → List (List Nat)
  | 0 => []
  | k + 1 => if k ∈ (whN e k).flatten then whN e k else whN e k ++ [cyc e k]
noncomputable def wheels (e : List Nat) : List (List Nat) := whN e e.length
structure Wh (e : List Nat) (cs : List (List Nat)) : Prop where
  cy : ∀ c ∈ cs, ∃ s, s < e.length ∧ c = cyc e s
  nd : cs.flatten.Nodup
theorem Wh.lt {e : List Nat} (E : Eff e) {cs : List (List Nat)} (W : Wh e cs) {p : Nat} (h : p ∈ cs.flatten) : p < e.length := by
  obtain ⟨c, hc, hp⟩ := List.mem_flatten.mp h
  obtain ⟨s, hs, rfl⟩ := W.cy c hc
  obtain ⟨k, rfl⟩ := (cyc_mem E hs).mp hp
  exact it_lt E hs
theorem Wh.closed {e : List Nat} (E : Eff e) {cs : List (List Nat)} (W : Wh e cs) {p j : Nat} (hp : p < e.length) (h : it e j p ∈ cs.flatten) : p ∈ cs.flatten := by
  obtain ⟨c, hc, hm⟩ := List.mem_flatten.mp h
  obtain ⟨s, hs, rfl⟩ := W.cy c hc
  obtain ⟨k, hk⟩ := (cyc_mem E hs).mp hm
  refine List.mem_flatten.mpr ⟨_, hc, (cyc_mem E hs).mpr ⟨(per e p - j % per e p) + k, ?_⟩⟩
  have hpos := per_pos E hp
  have hlt := Nat.mod_lt j hpos
  rw [it_add, ← hk, it_mod E hp j, ← it_add]
  rw [show per e p - j % per e p + j % per e p = per e p by omega]
  exact (per_spec E hp).2.1.symm
theorem whN_ok {e : List Nat} (E : Eff e) : ∀ k, k ≤ e.length → Wh e (whN e k) ∧ ∀ p, p < k → p ∈ (whN e k).flatten
  | 0, _ => ⟨⟨fun c h => (by cases h), List.nodup_nil⟩, fun p h => by omega⟩
  | k + 1, hk => by
    obtain ⟨W, hc⟩ := whN_ok E k (by omega)
    unfold whN
    by_cases h : k ∈ (whN e k).flatten
    · rw [if_pos h]
      refine ⟨W, fun p hp => ?_⟩
      by_cases hpk : p = k
      · rw [hpk]; exact h
      · exact hc p (by omega)
    · rw [if_neg h]
      refine ⟨⟨fun c hm => ?_, ?_⟩, fun p hp => ?_⟩
      · rcases List.mem_append.mp hm with hm | hm
        · exact W.cy c hm
        · exact ⟨k, by omega, by simpa using hm⟩
      · rw [List.flatten_append, List.flatten_singleton]
        refine List.nodup_append.mpr ⟨W.nd, cyc_nodup E (by omega), fun a ha b hb q => ?_⟩
        subst q
        obtain ⟨j, hj⟩ := (cyc_mem E (by omega)).mp hb
        rw [hj] at ha
        exact h (W.closed E (by omega) ha)
      · rw [List.flatten_append, List.flatten_singleton]
        by_cases hpk : p = k
        · rw [hpk]
          exact List.mem_append_right _ ((cyc_mem E (by omega)).mpr ⟨0, rfl⟩)
        · exact List.mem_append_left _ (hc p (by omega))
theorem wheels_ok {e : List Nat} (E : Eff e) : Wh e (wheels e) ∧ ∀ p, p < e.length → p ∈ (wheels e).flatten := whN_ok E _ (Nat.le_refl _)
theorem Wh.flat_len {e : List Nat} (E : Eff e) {cs : List (List Nat)} (W : Wh e cs) : cs.flatten.length ≤ e.length := below_len W.nd fun x hx => W.lt E hx
theorem Wh.len {e : List Nat} (E : Eff e) {cs : List (List Nat)} (W : Wh e cs) : cs.length ≤ e.length := by
  have h : ∀ cs : List (List Nat), (∀ c ∈ cs, 1 ≤ c.length) → cs.length ≤ cs.flatten.length := by
    intro cs
    induction cs with
    | nil => intro _; exact Nat.le_refl _
    | cons c r ih =>
      intro h
      have h1 := h c (List.mem_cons_self ..)
      have h2 := ih fun d hd => h d (List.mem_cons_of_mem _ hd)
      rw [List.flatten_cons, List.length_append]
      show r.length + 1 ≤ _
      omega
  refine Nat.le_trans (h cs fun c hc => ?_) (W.flat_len E)
  obtain ⟨s, hs, rfl⟩ := W.cy c hc
  rw [cyc_len]
  exact per_pos E hs
end Sv
set_option maxHeartbeats 4000000
namespace Sv
open PySem PySem.Spec PyProof.Rows L2
theorem b_isinstance : bootBuiltins "isinstance" = some (.builtin "isinstance") := by decide +kernel
theorem b_len : bootBuiltins "len" = some (.builtin "len") := by decide +kernel
theorem b_max : bootBuiltins "max" = some (.builtin "max") := by decide +kernel
theorem b_bool : bootBuiltins "bool" = some (.type "bool") := by decide +kernel
theorem b_int : bootBuiltins "int" = some (.type "int") := by decide +kernel
theorem b_str : bootBuiltins "str" = some (.type "str") := by decide +kernel
theorem b_list : bootBuiltins "list" = some (.type "list") := by decide +kernel
theorem b_tuple : bootBuiltins "tuple" = some (.type "tuple") := by decide +kernel
theorem b_dict : bootBuiltins "dict" = some (.type "dict") := by decide +kernel
theorem pe_ty {X : Cx} {x : Str} {T : String} {pos : Pos} (hg : Gl X x) (hm : X.mg x = none) (hv : bootBuiltins x = some (.type T)) (hn : x ≠ "__name__" := by decide) (hd : (x == ("__debug__" : Str)) = false := by decide) : PE X (.Name x pos) (tC (.ty T)) :=
  pe_bltn hg hm hv rfl hn hd
theorem b_sum : bootBuiltins "sum" = some (.builtin "sum") := by decide +kernel
theorem scWithin : FnScope ["number", "low", "high"] ["number", "low", "high"] (defScope sWithin) := ⟨rfl, rfl, rfl, by decide +kernel, rfl, by decide +kernel, by decide +kernel⟩
section
variable {P : Program} {w : World} {K : PySem.W.Frag} {mg : Str → Option Value} {base : Heap}
def spWithin : Sp := fun vs H Q _ => ∃ n lo hi : Int, vs = [.int n, .int lo, .int hi] ∧ Q (.bl (decide (lo ≤ n ∧ n ≤ hi))) H
theorem ok_within {f : Addr} {fd : FuncData} {k : Nat} (F : Fun K "is_within" "is_within" sWithin f fd) (mi : mg "isinstance" = none) (mb : mg "bool" = none) (mn : mg "int" = none) :
    FnOk P w K mg base CX0 (k + 1) f fd ["number", "low", "high"] spWithin := by
  refine F.ok scWithin (fun vs H Q E h => ?_) (fun cdv A outer s H vs Q E hr h => ?_)
  · obtain ⟨n, lo, hi, rfl, _⟩ := h
    rfl
  · obtain ⟨n, lo, hi, rfl, q⟩ := h
    refine ⟨_, pss_cons (ps_if (pw_or (pt_val (pe_callB call_isi (by rfl) mi b_isinstance (pa_cons (pv 0) (pa_cons (pe_ty (by rfl) mb b_bool) pa_nil))))
        (pw_or1 (pt_not (pt_val (pe_callB call_isi (by rfl) mi b_isinstance (pa_cons (pv 0) (pa_cons (pe_ty (by rfl) mn b_int) pa_nil))))))).pt
      (pss_one (ps_ret pe_bl)) pss_nil)
      (pss_one (ps_ret (pe_chain op_le op_le (pv 1) (pv 0) (pv 2)))), ?_⟩
    refine ⟨.int n, rfl, .int n, .ty "bool", _, _, false, rfl, .ty "bool", .base (.int n), kit_ty (by decide +kernel), false, rfl, iteF ?_⟩
    refine ⟨.int n, rfl, .int n, .ty "int", _, _, true, rfl, .ty "int", .base (.int n), kit_ty (by decide +kernel), true, rfl, iteF ?_⟩
    refine ⟨.int lo, rfl, .int n, rfl, lo, n, rfl, rfl, _, rfl, ?_⟩
    by_cases h1 : lo ≤ n
    · rw [decide_eq_true h1]
      refine iteT ⟨.int hi, rfl, n, hi, rfl, rfl, ?_⟩
      show Q (.bl (decide (n ≤ hi))) H
      have e : decide (n ≤ hi) = decide (lo ≤ n ∧ n ≤ hi) := by simp [h1]
      rw [e]
      exact q
    · rw [decide_eq_false h1]
      have e : decide (lo ≤ n ∧ n ≤ hi) = false := by simp [h1]
      rw [e] at q
      exact iteF q
end
theorem tyx_tup {K : PySem.W.Frag} {H : Hp} {a : Addr} {xs : List V} (h : SqT K H a xs) : TyX K H (.ref a) (.type "tuple") := by
  rcases h with (h | ⟨o, h⟩) | ⟨o, its, n, h1, h2, _⟩
  · exact .base (.tup h)
  · exact .fTuple h
  · exact .kTuple h1 h2
structure Bt (mg : Str → Option Value) : Prop where
  isinstance : mg "isinstance" = none
  bool : mg "bool" = none
  int : mg "int" = none
  str : mg "str" = none
  list : mg "list" = none
  tuple : mg "tuple" = none
  dict : mg "dict" = none
  len : mg "len" = none
  range : mg "range" = none
  enumerate : mg "enumerate" = none
  max : mg "max" = none
  sum : mg "sum" = none
  set : mg "set" = none
  zip : mg "zip" = none
  divmod : mg "divmod" = none
  sorted : mg "sorted" = none
  abs : mg "abs" = none
  min : mg "min" = none
structure Df (K : PySem.W.Frag) (mg : Str → Option Value) (x : Str) (st : Stmt) (ps : List Str) (f : Addr) (fd : FuncData) : Prop where
  F : Fun K x x st f fd
  b : Binds K fd ps []
  g : mg x = some (.ref f)
theorem same_upd {H : Hp} {p : Addr} {o : HO} (h : H p = none) : Same H (upd H p o) := fun b x e => by
  rw [upd_ne (ne_of_none e h)]
  exact e
theorem same_of {H H' : Hp} {p : Addr} {o : HO} (e : Same H H') (h : H p = none) : Same H (upd H' p o) := fun b x q => by
  rw [upd_ne (ne_of_none q h)]
  exact e b x q
theorem sqT_same {K : PySem.W.Frag} {H H' : Hp} {a : Addr} {xs : List V} (e : Same H H') (h : SqT K H a xs) : SqT K H' a xs := by
  rcases h with (h | ⟨o, h⟩) | h
  · exact .inl (.inl (e _ _ h))
  · exact .inl (.inr ⟨o, e _ _ h⟩)
  · exact .inr h
theorem sz1000 {n : Nat} (h : n ≤ 1000) : n ≤ sizeLine := Nat.le_of_lt (small1000 h)
theorem yes_go {σ2 : L2.St} {H2 : Hp} {A B : Hp → Prop} (h : A H2) : tYes σ2 H2 (fun b H3 => if b = true then A H3 else B H3) := by
  show (if true = true then A H2 else B H2)
  rw [if_pos rfl]
  exact h
theorem ixN_nat {n j : Nat} (h : j < n) : ixN n (j : Int) = some j := by
  unfold ixN
  rw [if_pos (by omega), if_pos (by omega), Int.toNat_natCast]
structure LawH (H : Hp) (h l : Addr) : Prop where
  ex : ∃ (m i : Int) (cs : List Int), H h = some (.lst [.int m, .ref l, .int i]) ∧ H l = some (.lst (cs.map V.int)) ∧ cs.length ≤ 1000
def SameX (h l : Addr) (H H' : Hp) : Prop := ∀ b o, b ≠ h → b ≠ l → H b = some o → H' b = some o
theorem LawH.ne {H : Hp} {h l : Addr} (x : LawH H h l) : h ≠ l := by
  obtain ⟨m, i, cs, e1, e2, _⟩ := x.ex
  intro z
  subst z
  rw [e1] at e2
  have e3 := HO.lst.inj (Option.some.inj e2)
  match cs, e3 with
  | [], e3 => cases e3
  | [_], e3 => cases e3
  | _ :: _ :: _, e3 => cases e3
theorem LawH.same {H H' : Hp} {h l : Addr} (x : LawH H h l) (e : Same H H') : LawH H' h l := by
  obtain ⟨m, i, cs, e1, e2, e3⟩ := x.ex
  exact ⟨m, i, cs, e _ _ e1, e _ _ e2, e3⟩
theorem SameX.of {H H' : Hp} {h l : Addr} (e : Same H H') : SameX h l H H' := fun b o _ _ q => e b o q
theorem SameX.trans {H H1 H2 : Hp} {h l : Addr} (a : SameX h l H H1) (b : SameX h l H1 H2) : SameX h l H H2 := fun c o h1 h2 q => b c o h1 h2 (a c o h1 h2 q)
section
variable {P : Program} {w : World} {K : PySem.W.Frag} {mg : Str → Option Value} {base : Heap}
theorem scNext : FnScope ["_law_h", "_law_limit", "_law_cell"] ["_law_h", "_law_limit"] (defScope sNext) := ⟨rfl, rfl, rfl, by decide +kernel, rfl, by decide +kernel, by decide +kernel⟩
theorem scMix : FnScope ["_law_script", "_law_seed", "_law_mixed_here", "_law_cell"] ["_law_script", "_law_seed"] (defScope sMix) := ⟨rfl, rfl, rfl, by decide +kernel, rfl, by decide +kernel, by decide +kernel⟩
def spNext : Sp := fun vs H Q _ => ∃ (h l : Addr) (lim : Int), vs = [.ref h, .int lim] ∧ LawH H h l ∧ 0 < lim ∧ lim < 2 ^ 64 ∧ ∀ r H', 0 ≤ r → r < lim → LawH H' h l → SameX h l H H' → Q (.int r) H'
theorem ok_next {f : Addr} {fd : FuncData} (F : Fun K "_law_next" "_law_next" sNext f fd) (B : Bt mg) : FnOk P w K mg base CX0 1 f fd ["_law_h", "_law_limit"] spNext := by
  refine F.ok scNext (fun vs H Q E h => ?_) (fun cdv A outer s H vs Q E hr h => ?_)
  · obtain ⟨h, l, lim, rfl, _⟩ := h
    rfl
  · obtain ⟨h, l, lim, rfl, LH, p1, p2, q⟩ := h
    have LHx := LH
    have hne := LH.ne
    obtain ⟨m, i, cs, e1, e2, e3⟩ := LH.ex
    refine ⟨_, pss_cons (ps_set (i := 2) scNext.nd rfl (Or.inl rfl) (pe_ix ix_list (pe_op op_cat (pe_ix ix_list (pv 0) pe_int (fun _ _ => rfl)) (pe_lst (pa_cons pe_int pa_nil)))
        (pe_op op_mod (pe_callTy call_int1 (by rfl) B.int b_int (pa_cons (pe_ix ix_list (pv 0) pe_int (fun _ _ => rfl)) pa_nil)) (pe_callB (call_max2 rfl) (by rfl) B.max b_max (pa_cons pe_int (pa_cons (pe_callB call_len_seq (by rfl) B.len b_len (pa_cons (pe_ix ix_list (pv 0) pe_int (fun _ _ => rfl)) pa_nil)) pa_nil)))) (fun _ _ => rfl)))
      (pss_cons (ps_if (pt_cmpR op_ge (pv 2) (pe_op op_pow pe_int pe_int) (nomark _))
        (pss_cons (ps_asg (pe_op op_fdivW (pv 2) (pv 1)) (pg_sub (pe_ix ix_list (pv 0) pe_int (fun _ _ => rfl)) (pe_op op_mod (pe_callTy call_int1 (by rfl) B.int b_int (pa_cons (pe_ix ix_list (pv 0) pe_int (fun _ _ => rfl)) pa_nil)) (pe_callB call_len_seq (by rfl) B.len b_len (pa_cons (pe_ix ix_list (pv 0) pe_int (fun _ _ => rfl)) pa_nil))) set_list))
        (pss_one (ps_ret (pe_op op_mod (pe_callTy call_int1 (by rfl) B.int b_int (pa_cons (pv 2) pa_nil)) (pv 1))))) pss_nil)
      (pss_cons (ps_asg (pe_op op_mod (pe_op op_add (pe_op op_add (pe_op op_mul (pe_ix ix_list (pv 0) pe_int (fun _ _ => rfl)) pe_int) (pe_op op_mul (pv 2) pe_int)) pe_int) pe_int) (pg_sub (pv 0) pe_int set_list))
      (pss_cons (ps_asg (pe_op op_add (pe_ix ix_list (pv 0) pe_int (fun _ _ => rfl)) pe_int) (pg_sub (pv 0) pe_int set_list))
      (pss_one (ps_ret (pe_op op_mod (pe_op op_fdiv (pe_ix ix_list (pv 0) pe_int (fun _ _ => rfl)) pe_int) (pv 1))))))), ?_⟩
    refine ⟨.ref h, rfl, h, _, 1, .ref l, rfl, rfl, .inl (.inl e1), rfl, (by show 1 ≤ sizeLine; decide), fun z hz => ?_⟩
    have hl1 : l ≠ z := ne_of_none e2 hz
    have hl2 : h ≠ z := ne_of_none e1 hz
    refine ⟨l, z, _, _, rfl, rfl, by rw [upd_ne hl1]; exact e2, upd_same, ?_, fun u hu => ?_⟩
    · rw [List.length_map]
      show cs.length + 1 ≤ sizeLine
      exact small1000 e3
    have sm1 : Same H (upd H z (.lst [.int 0])) := same_upd hz
    have sm2 : Same H (upd (upd H z (.lst [.int 0])) u (.lst (cs.map V.int ++ [.int 0]))) := same_of sm1 (Same.free sm1 hu)
    generalize hG : upd (upd H z (.lst [.int 0])) u (.lst (cs.map V.int ++ [.int 0])) = G at sm2 ⊢
    have g1 := sm2 _ _ e1
    have g2 := sm2 _ _ e2
    have g3 : G u = some (.lst ((cs ++ [0]).map V.int)) := by rw [← hG, upd_same, List.map_append]; rfl
    have hmax : (if ((cs.map V.int).length : Int) > 1 then ((cs.map V.int).length : Int) else 1) = ((max 1 cs.length : Nat) : Int) := by
      rw [List.length_map]
      split <;> omega
    have hM : (0 : Int) < ((max 1 cs.length : Nat) : Int) := by omega
    have i0 := Int.emod_nonneg i (Int.ne_of_gt hM)
    have i1 := Int.emod_lt_of_pos i hM
    obtain ⟨k, hk⟩ : ∃ k : Nat, i % ((max 1 cs.length : Nat) : Int) = (k : Int) := ⟨_, (Int.toNat_of_nonneg i0).symm⟩
    have hk1 : k < (cs ++ [0]).length := by
      rw [List.length_append]
      show k < cs.length + 1
      omega
    obtain ⟨cell, hcell⟩ : ∃ c, (cs ++ [0])[k]? = some c := ⟨_, List.getElem?_eq_getElem hk1⟩
    refine ⟨.ref h, rfl, h, _, 2, .int i, rfl, rfl, .inl (.inl g1), rfl, .inl ⟨i, rfl, ?_⟩⟩
    refine ⟨.ref h, rfl, h, _, 1, .ref l, rfl, rfl, .inl (.inl g1), rfl, l, _, rfl, .inl (.inl (.inl g2)), 1, _, rfl, ?_⟩
    refine ⟨i, ((max 1 cs.length : Nat) : Int), rfl, congrArg V.int hmax, hM, ?_⟩
    refine ⟨u, _, (k : Int), .int cell, rfl, congrArg V.int hk, .inl (.inl g3), atI_nat (by rw [List.getElem?_map, hcell]; rfl), ?_⟩
    -- the test
    refine ⟨.int cell, rfl, 10, 18, rfl, rfl, ⟨by decide, by decide, by decide⟩, cell, 10 ^ (18 : Int).toNat, rfl, rfl, _, rfl, ite2 (fun hc => ?_) (fun hc => ?_)⟩
    · have hc2 : (10 : Int) ^ (18 : Int).toNat ≤ cell := of_decide_eq_true hc
      have hc3 : (0 : Int) < cell := Int.lt_of_lt_of_le (by decide) hc2
      have hk2 : k < cs.length := by
        by_cases hkl : k < cs.length
        · exact hkl
        · have : k = cs.length := by
            rw [List.length_append] at hk1
            have : k < cs.length + 1 := hk1
            omega
          rw [this, List.getElem?_append_right (Nat.le_refl _), Nat.sub_self] at hcell
          have : (0 : Int) = cell := Option.some.inj hcell
          omega
      have hl0 : (0 : Int) < ((cs.map V.int).length : Int) := by rw [List.length_map]; omega
      have hkk : i % ((cs.map V.int).length : Int) = (k : Int) := by
        rw [List.length_map, ← hk]
        congr 1
        omega
      refine ⟨.int cell, rfl, .int lim, rfl, cell, lim, rfl, rfl, wide_div (b := 64) p1 (by omega) (by decide) (by decide), ?_⟩
      refine ⟨.ref h, rfl, h, _, 1, .ref l, rfl, rfl, .inl (.inl g1), rfl, ?_⟩
      refine ⟨.ref h, rfl, h, _, 2, .int i, rfl, rfl, .inl (.inl g1), rfl, .inl ⟨i, rfl, ?_⟩⟩
      refine ⟨.ref h, rfl, h, _, 1, .ref l, rfl, rfl, .inl (.inl g1), rfl, l, _, rfl, .inl (.inl (.inl g2)), i, _, rfl, rfl, hl0, ?_⟩
      refine ⟨l, cs.map V.int, (k : Int), k, rfl, congrArg V.int hkk, g2, ixN_nat (by rw [List.length_map]; exact hk2), ?_⟩
      refine ⟨.int cell, rfl, .inl ⟨cell, rfl, .int lim, rfl, cell, lim, rfl, rfl, p1, ?_⟩⟩
      refine q _ _ (Int.emod_nonneg _ (Int.ne_of_gt p1)) (Int.emod_lt_of_pos _ p1) ⟨m, i, cs.set k (cell / lim), ?_, ?_, ?_⟩ (fun b o h1 h2 hb => ?_)
      · rw [upd_ne hne]
        exact g1
      · rw [upd_same, List.map_set]
      · rw [List.length_set]
        exact e3
      · rw [upd_ne h2]
        exact sm2 _ _ hb
    · refine ⟨.ref h, rfl, h, _, 0, .int m, rfl, rfl, .inl (.inl g1), rfl, m, 48271, rfl, rfl, .inr ⟨by decide, by decide⟩, ?_⟩
      refine ⟨.int cell, rfl, cell, 69621, rfl, rfl, .inr ⟨by decide, by decide⟩, _, _, rfl, rfl, _, 11, rfl, rfl, _, 2147483647, rfl, rfl, (by decide : (0 : Int) < 2147483647), ?_⟩
      refine ⟨.ref h, rfl, h, _, 0, 0, rfl, rfl, g1, rfl, ?_⟩
      obtain ⟨m', hm'⟩ : ∃ m' : Int, (m * 48271 + cell * 69621 + 11) % 2147483647 = m' := ⟨_, rfl⟩
      have hmv : (fun i j => V.int (i % j)) (m * 48271 + cell * 69621 + 11) 2147483647 = V.int m' := congrArg V.int hm'
      rw [hmv]
      have g1' : (upd G h (.lst ([V.int m, V.ref l, V.int i].set 0 (V.int m')))) h = some (.lst [.int m', .ref l, .int i]) := upd_same
      refine ⟨.ref h, rfl, h, _, 2, .int i, rfl, rfl, .inl (.inl g1'), rfl, i, 1, rfl, rfl, ?_⟩
      refine ⟨.ref h, rfl, h, _, 2, 2, rfl, rfl, g1', rfl, ?_⟩
      generalize hG2 : upd (upd G h (.lst ([V.int m, V.ref l, V.int i].set 0 (V.int m')))) h (.lst ([V.int m', V.ref l, V.int i].set 2 (V.int (i + 1)))) = G2
      have g1'' : G2 h = some (.lst [.int m', .ref l, .int (i + 1)]) := by rw [← hG2]; exact upd_same
      refine ⟨.ref h, rfl, h, _, 0, .int m', rfl, rfl, .inl (.inl g1''), rfl, m', 7, rfl, rfl, ⟨by decide, by decide⟩, .int lim, rfl, _, lim, rfl, rfl, p1, ?_⟩
      refine q _ _ (Int.emod_nonneg _ (Int.ne_of_gt p1)) (Int.emod_lt_of_pos _ p1) ⟨m', i + 1, cs, g1'', ?_, e3⟩ (fun b o h1 h2 hb => ?_)
      · rw [← hG2, upd_ne (Ne.symm hne), upd_ne (Ne.symm hne)]
        exact g2
      · rw [← hG2, upd_ne h1, upd_ne h1]
        exact sm2 _ _ hb
def spMix (K : PySem.W.Frag) : Sp := fun vs H Q _ => ∃ (a : Addr) (ns : List Int) (seed : Int), vs = [.ref a, .int seed] ∧ SqL K H a (ns.map V.int) ∧ ns.length ≤ 63 ∧ ∀ H' h l, LawH H' h l → Same H H' → H h = none → H l = none → Q (.ref h) H'
theorem ok_mix {f : Addr} {fd : FuncData} (F : Fun K "_law_mix" "_law_mix" sMix f fd) (B : Bt mg) : FnOk P w K mg base CX0 1 f fd ["_law_script", "_law_seed"] (spMix K) := by
  refine F.ok scMix (fun vs H Q E h => ?_) (fun cdv A outer s H vs Q E hr h => ?_)
  · obtain ⟨a, ns, seed, rfl, _⟩ := h
    rfl
  · obtain ⟨a, ns, seed, rfl, hA, hl, q⟩ := h
    refine ⟨_, pss_cons (ps_set (i := 2) scMix.nd rfl (Or.inl rfl) (pv 1))
      (pss_cons (ps_for PassesOwn.never rfl (pi_list (pv 0)) (pg_name (i := 3) scMix.nd rfl (Or.inl rfl))
        (pss_one (ps_set (i := 2) scMix.nd rfl (Or.inl rfl) (pe_op op_mod (pe_op op_add (pe_op op_add (pe_op op_mul (pv 2) pe_int) (pe_op op_mod (pv 3) pe_int)) pe_int) pe_int))))
      (pss_one (ps_ret (pe_lst (pa_cons (pv 2) (pa_cons (pe_callTy call_list_of (by rfl) B.list b_list (pa_cons (pv 0) pa_nil)) (pa_cons pe_int pa_nil))))))), ?_⟩
    refine ⟨.int seed, rfl, .ref a, rfl, a, rfl, ⟨_, hA⟩, for_list (xs := ns.map V.int) (fun i σ H' => (∃ m y3, σ = [some (.ref a), some (.int seed), some (.int m), y3]) ∧ H' = H) ⟨⟨seed, none, rfl⟩, rfl⟩ (fun i σ H' _ h => by rw [h.2]; exact hA) (fun i x σ H' hx ⟨⟨m, y3, es⟩, eH⟩ => ?_) (fun σ H' ⟨⟨m, y3, es⟩, eH⟩ => ?_)⟩
    · subst es
      subst eH
      rw [List.getElem?_map] at hx
      cases hn : ns[i]? with
      | none => rw [hn] at hx; cases hx
      | some n =>
        rw [hn] at hx
        obtain rfl : V.int n = x := Option.some.inj hx
        refine ⟨.int m, rfl, m, 48271, rfl, rfl, .inr ⟨by decide, by decide⟩, .int n, rfl, n, 2147483629, rfl, rfl, (by decide : (0 : Int) < 2147483629), _, _, rfl, rfl, _, 1, rfl, rfl, _, 2147483647, rfl, rfl, (by decide : (0 : Int) < 2147483647), ⟨_, _, rfl⟩, rfl⟩
    · subst es
      subst eH
      refine ⟨.int m, rfl, .ref a, rfl, a, _, rfl, .inl hA, fun l hl2 => ⟨(by show 3 ≤ sizeLine; decide), fun h hh => ?_⟩⟩
      have ln : l ≠ h := ne_of_none upd_same hh
      refine q _ h l ⟨m, 0, ns, upd_same, by rw [upd_ne ln]; exact upd_same, by omega⟩ (same_of (same_upd hl2) (Same.free (same_upd hl2) hh)) (Same.free (same_upd hl2) hh) hl2
end
end Sv
set_option maxHeartbeats 4000000
set_option exponentiation.threshold 2000
namespace Sv
open PySem PySem.Spec PyProof.Rows L2 NdefX
def clsInit : Stmt → Stmt | .ClassDef _ _ _ b _ _ _ _ _ _ _ => b.getD 0 (.Pass ⟨0, 0, 0, 0⟩) | s => s
abbrev sPlanInit : Stmt := clsInit sInvalidPlan
def nfPlan (cc c0 : Addr) : NF := ⟨"__init__", "InvalidPlan.__init__", defArgs sPlanInit, defBody sPlanInit, defScope sPlanInit, [("__class__", cc)], c0⟩
def arPlan : Arg := (defArgs sPlanInit).args.getD 0 ⟨"x", none, ⟨0, 0, 0, 0⟩⟩
def nPI : List Str := ["self", "part", "index", "__class__"]
theorem nsPlan (cc c0 : Addr) : NScope nPI ["self", "part", "index"] ["__class__"] (nfPlan cc c0).scope := by
  show NScope nPI ["self", "part", "index"] ["__class__"] (defScope sPlanInit)
  exact nscope_by (by decide +kernel)
section
variable {P : Program} {w : World} {K : PySem.W.Frag} {mg : Str → Option Value} {base : Heap}
/-- the promise of InvalidPlan.__init__ -/
def spPI (C : Addr) : Sp := fun vs H Q _ => ∃ (a : Addr) (part : Str) (i : Int), vs = [.ref a, .str part, .int i] ∧ H a = some (exo a C none) ∧ part.length ≤ 1000 ∧ i.natAbs < 2 ^ 100 ∧
  ∀ d, H d = none → d ≠ a → Q .non (upd (upd (upd H d (exd d [("part", .str part)])) a (exo a C (some d))) d (exd d [("index", .int i), ("part", .str part)]))
theorem ok_planInit {C fI cc c0 : Addr} {oc : Value} {od : Option Addr} {osl : Array (Option Value)} {doc pm ctv : Value} (S : SupF P K mg C fI cc (nfPlan cc c0) arPlan) (lk : K.lookup fI = some ⟨oc, od, .func ((nfPlan cc c0).fd doc pm ctv), osl⟩)
    (n1 : PySem.W.findIn K (.ref C) "part" = some none) (n2 : PySem.W.findIn K (.ref C) "index" = some none) :
    FnOk P w K mg base CX0 1 fI ((nfPlan cc c0).fd doc pm ctv) ["self", "part", "index"] (spPI C) := by
  refine fnOk_sup (N := nPI) S lk (nsPlan cc c0) rfl rfl rfl (fun vs H Q E h => ?_) (fun _ => rfl) (fun _ => ⟨_, rfl⟩) (fun _ => rfl) (fun _ => rfl) (fun A outer s H vs Q E hr h => ?_)
  · obtain ⟨a, part, i, rfl, _⟩ := h
    rfl
  · obtain ⟨a, part, i, rfl, ha, hl, hi, q⟩ := h
    refine ⟨a, _, _, rfl, ha, pe_joined (.cons pe_str (.cons (pe_fmt (pv 1)) (.cons pe_str (.cons (pe_fmt (pv 2)) .nil)))),
      pss_cons (ps_ost (pv 0) (pv 1)) (pss_one (ps_ost (pv 0) (pv 2))), ?_⟩
    have hz : sizeLine = 16777216 := sizeLine_eq
    have hlog : i.natAbs.log2 < 1920 := by
      have : i.natAbs < 2 ^ 1920 := Nat.lt_trans hi (Nat.pow_lt_pow_right (by decide) (by decide))
      by_cases h0 : i.natAbs = 0
      · rw [h0]
        decide
      · exact (Nat.log2_lt h0).mpr this
    have l4 : (Str.ofString (toString i)).length ≤ 1921 := int_text_len_1921 hlog
    refine ⟨"invalid ", rfl, ?_, .str part, rfl, .inl ⟨part, rfl, by omega, part, rfl, ?_, ", at index ", rfl, ?_, .int i, rfl, .inr ⟨i, rfl, hlog, _, rfl, ?_, ha, ?_⟩⟩⟩
    · decide
    · rw [Str.length_append]
      have : (Str.empty ++ ("invalid " : Str)).length = 8 := by decide
      omega
    · rw [Str.length_append, Str.length_append]
      have : (Str.empty ++ ("invalid " : Str)).length = 8 := by decide
      have : (", at index " : Str).length = 11 := by decide
      omega
    · rw [Str.length_append, Str.length_append, Str.length_append]
      have : (Str.empty ++ ("invalid " : Str)).length = 8 := by decide
      have : (", at index " : Str).length = 11 := by decide
      omega
    · refine ⟨.str part, rfl, .ref a, rfl, a, C, rfl, S.T, n1, .inl ⟨ha, fun d hd hda => ?_⟩⟩
      refine ⟨.int i, rfl, .ref a, rfl, a, C, rfl, S.T, n2, .inr ⟨d, [("part", .str part)], upd_same, ?_, (by show 1 ≤ 900; decide), q d hd hda⟩⟩
      rw [upd_ne hda, upd_same]
/-- the facts of InvalidPlan -/
structure Pl (P : Program) (K : PySem.W.Frag) (mg : Str → Option Value) (C fI : Addr) (fd : FuncData) : Prop where
  ex : ∃ (cc c0 : Addr) (oc : Value) (od : Option Addr) (osl : Array (Option Value)) (doc pm ctv : Value), fd = (nfPlan cc c0).fd doc pm ctv ∧ SupF P K mg C fI cc (nfPlan cc c0) arPlan ∧ K.lookup fI = some ⟨oc, od, .func fd, osl⟩
  n1 : PySem.W.findIn K (.ref C) "part" = some none
  n2 : PySem.W.findIn K (.ref C) "index" = some none
  g : mg "InvalidPlan" = some (.ref C)
  iC : PySem.W.findIn K (.ref C) "__init__" = some (some (.ref fI))
  tI : PySem.W.typeIn K (.ref fI) = some (.type "function")
  b : Binds K fd ["self", "part", "index"] []
  x : XfC K C
theorem Pl.T {C fI : Addr} {fd : FuncData} (p : Pl P K mg C fI fd) : OexC K C := by
  obtain ⟨cc, c0, oc, od, osl, doc, pm, ctv, _, S, _⟩ := p.ex
  exact S.T
theorem Pl.ok {C fI : Addr} {fd : FuncData} (p : Pl P K mg C fI fd) : FnOk P w K mg base CX0 1 fI fd ["self", "part", "index"] (spPI C) := by
  obtain ⟨cc, c0, oc, od, osl, doc, pm, ctv, rfl, S, lk⟩ := p.ex
  exact ok_planInit S lk p.n1 p.n2
/-- what is wanted where InvalidPlan(part, i) is raised -/
def PlanE (C : Addr) (H : Hp) (part : Str) (i : Int) (Q : XK) : Prop := ∀ (H' : Hp) (dd : Addr) (fs : List (Str × V)), Same H H' → H' dd = some (.xd fs) → fs.lookup ("part" : Str) = some (V.str part) → fs.lookup ("index" : Str) = some (V.int i) → Q (.ref C) (some dd) H'
theorem PlanE.imp {C : Addr} {H H1 : Hp} {part : Str} {i : Int} {Q : XK} (h : PlanE C H part i Q) (e : Same H H1) : PlanE C H1 part i Q := fun H' dd fs sm => h H' dd fs (e.trans sm)
theorem pmk_plan {X : Cx} {C fI : Addr} {fd : FuncData} {e1 e2 : Expr} {t1 t2 : TE} {p pos : Pos} (T : Pl X.prog X.K X.mg C fI fd) (hr : Room 2 X.A) (hg : Gl X "InvalidPlan") (h1 : PE X e1 t1) (h2 : PE X e2 t2)
    (s1 : starEach [e1, e2] X.env = (false, eval e1 X.env) :: starEach [e2] X.env := by rfl) (s2 : starEach [e2] X.env = (false, eval e2 X.env) :: starEach [] X.env := by rfl) (hpl : (backTo pos (starEach [e2] X.env)).any (·.1) = false := by rfl) :
    PMk X (.Call (.Name "InvalidPlan" p) [e1, e2] [] pos) (tMkO C (spPI C) [] (tCons t1 (tCons t2 tNil))) := by
  have G : FnOk X.prog X.w X.K X.mg X.base CX0 1 fI fd ["self", "part", "index"] (spPI C) := T.ok
  exact pmk_oex T.T T.iC T.tI G hr T.b .nil pass0 hg T.g (pa_cons h1 (pa_cons h2 pa_nil s2) s1) (by decide) s1 hpl
theorem mk_go {C : Addr} {H : Hp} {part : Str} {i : Int} {Q : XK} (hl : part.length ≤ 1000) (hi : i.natAbs < 2 ^ 100) (q : PlanE C H part i Q) : [V.str part, V.int i].length ≤ 1000 ∧ ∀ a, H a = none → spPI C (.ref a :: ([V.str part, V.int i] ++ [])) (upd H a (exo a C none))
    (fun v H2 => v = .non ∧ ∃ (d : Addr) (fs : List (Str × V)), H2 a = some (exo a C (some d)) ∧ H2 d = some (exd d fs) ∧ H d = none ∧ Q (.ref C) (some d) (upd (del H2 a) d (.xd fs))) (fun _ _ _ => False) := by
  refine ⟨by show 2 ≤ 1000; decide, fun a ha => ⟨a, part, i, rfl, upd_same, hl, hi, fun d hd hda => ⟨rfl, d, _, ?_, upd_same, ?_, q _ d _ (fun b o hb => ?_) upd_same rfl rfl⟩⟩⟩
  · rw [upd_ne (Ne.symm hda), upd_same]
  · rw [upd_ne hda] at hd
    exact hd
  · have hd' : H d = none := by
      rw [upd_ne hda] at hd
      exact hd
    have b1 := ne_of_none hb hd'
    have b2 := ne_of_none hb ha
    rw [upd_ne b1, del_ne b2, upd_ne b1, upd_ne b2, upd_ne b1, upd_ne b2]
    exact hb
end
abbrev sLapInit : Stmt := clsInit sLap
structure LapF (K : PySem.W.Frag) (mg : Str → Option Value) (C f : Addr) (fd : FuncData) : Prop where
  g : mg "Lap" = some (.ref C)
  m : Mk K C f
  c : Cls K C
  n1 : NoAttr K C "length"
  n2 : NoAttr K C "stops"
  n3 : NoAttr K C "lefts"
  n4 : NoAttr K C "effect"
  F : Fun K "__init__" "Lap.__init__" sLapInit f fd
  b : Binds K fd ["self", "plan", "time"] []
end Sv
set_option maxHeartbeats 4000000
set_option exponentiation.threshold 2000
namespace Sv
open PySem PySem.Spec PyProof.Rows L2 NdefX
abbrev sSwapInit : Stmt := clsInit sInvalidSwap
def nfSwap (cc c0 : Addr) : NF := ⟨"__init__", "InvalidSwap.__init__", defArgs sSwapInit, defBody sSwapInit, defScope sSwapInit, [("__class__", cc)], c0⟩
def arSwap : Arg := (defArgs sSwapInit).args.getD 0 ⟨"x", none, ⟨0, 0, 0, 0⟩⟩
def nSI : List Str := ["self", "index", "__class__"]
theorem nsSwap (cc c0 : Addr) : NScope nSI ["self", "index"] ["__class__"] (nfSwap cc c0).scope := by
  show NScope nSI ["self", "index"] ["__class__"] (defScope sSwapInit)
  exact nscope_by (by decide +kernel)
section
variable {P : Program} {w : World} {K : PySem.W.Frag} {mg : Str → Option Value} {base : Heap}
/-- the promise of InvalidSwap.__init__ -/
def spSI (C : Addr) : Sp := fun vs H Q _ => ∃ (a : Addr) (i : Int), vs = [.ref a, .int i] ∧ H a = some (exo a C none) ∧ i.natAbs < 2 ^ 100 ∧
  ∀ d, H d = none → d ≠ a → Q .non (upd (upd H d (exd d [("index", .int i)])) a (exo a C (some d)))
theorem ok_swapInit {C fI cc c0 : Addr} {oc : Value} {od : Option Addr} {osl : Array (Option Value)} {doc pm ctv : Value} (S : SupF P K mg C fI cc (nfSwap cc c0) arSwap) (lk : K.lookup fI = some ⟨oc, od, .func ((nfSwap cc c0).fd doc pm ctv), osl⟩)
    (n2 : PySem.W.findIn K (.ref C) "index" = some none) :
    FnOk P w K mg base CX0 1 fI ((nfSwap cc c0).fd doc pm ctv) ["self", "index"] (spSI C) := by
  refine fnOk_sup (N := nSI) S lk (nsSwap cc c0) rfl rfl rfl (fun vs H Q E h => ?_) (fun _ => rfl) (fun _ => ⟨_, rfl⟩) (fun _ => rfl) (fun _ => rfl) (fun A outer s H vs Q E hr h => ?_)
  · obtain ⟨a, i, rfl, _⟩ := h
    rfl
  · obtain ⟨a, i, rfl, ha, hi, q⟩ := h
    refine ⟨a, _, _, rfl, ha, pe_joined (.cons pe_str (.cons (pe_fmt (pv 1)) .nil)), pss_one (ps_ost (pv 0) (pv 1)), ?_⟩
    have hz : sizeLine = 16777216 := sizeLine_eq
    have hlog : i.natAbs.log2 < 1920 := by
      have : i.natAbs < 2 ^ 1920 := Nat.lt_trans hi (Nat.pow_lt_pow_right (by decide) (by decide))
      by_cases h0 : i.natAbs = 0
      · rw [h0]
        decide
      · exact (Nat.log2_lt h0).mpr this
    have l4 : (Str.ofString (toString i)).length ≤ 1921 := int_text_len_1921 hlog
    refine ⟨"no swap at index ", rfl, ?_, .int i, rfl, .inr ⟨i, rfl, hlog, _, rfl, ?_, ha, ?_⟩⟩
    · decide
    · rw [Str.length_append]
      have : (Str.empty ++ ("no swap at index " : Str)).length = 17 := by decide
      omega
    · refine ⟨.int i, rfl, .ref a, rfl, a, C, rfl, S.T, n2, .inl ⟨ha, fun d hd hda => ?_⟩⟩
      exact q d hd hda
/-- the facts of InvalidSwap -/
structure Sw (P : Program) (K : PySem.W.Frag) (mg : Str → Option Value) (C fI : Addr) (fd : FuncData) : Prop where
  ex : ∃ (cc c0 : Addr) (oc : Value) (od : Option Addr) (osl : Array (Option Value)) (doc pm ctv : Value), fd = (nfSwap cc c0).fd doc pm ctv ∧ SupF P K mg C fI cc (nfSwap cc c0) arSwap ∧ K.lookup fI = some ⟨oc, od, .func fd, osl⟩
  n2 : PySem.W.findIn K (.ref C) "index" = some none
  g : mg "InvalidSwap" = some (.ref C)
  iC : PySem.W.findIn K (.ref C) "__init__" = some (some (.ref fI))
  tI : PySem.W.typeIn K (.ref fI) = some (.type "function")
  b : Binds K fd ["self", "index"] []
  x : XfC K C
theorem Sw.T {C fI : Addr} {fd : FuncData} (p : Sw P K mg C fI fd) : OexC K C := by
  obtain ⟨cc, c0, oc, od, osl, doc, pm, ctv, _, S, _⟩ := p.ex
  exact S.T
theorem Sw.ok {C fI : Addr} {fd : FuncData} (p : Sw P K mg C fI fd) : FnOk P w K mg base CX0 1 fI fd ["self", "index"] (spSI C) := by
  obtain ⟨cc, c0, oc, od, osl, doc, pm, ctv, rfl, S, lk⟩ := p.ex
  exact ok_swapInit S lk p.n2
/-- what is wanted where InvalidSwap(i) is raised -/
def SwapE (C : Addr) (H : Hp) (i : Int) (Q : XK) : Prop := ∀ (H' : Hp) (dd : Addr) (fs : List (Str × V)), Same H H' → H' dd = some (.xd fs) → fs.lookup ("index" : Str) = some (V.int i) → Q (.ref C) (some dd) H'
theorem SwapE.imp {C : Addr} {H H1 : Hp} {i : Int} {Q : XK} (h : SwapE C H i Q) (e : Same H H1) : SwapE C H1 i Q := fun H' dd fs sm => h H' dd fs (e.trans sm)
theorem pmk_swap {X : Cx} {C fI : Addr} {fd : FuncData} {e1 : Expr} {t1 : TE} {p pos : Pos} (T : Sw X.prog X.K X.mg C fI fd) (hr : Room 2 X.A) (hg : Gl X "InvalidSwap") (h1 : PE X e1 t1)
    (s1 : starEach [e1] X.env = (false, eval e1 X.env) :: starEach [] X.env := by rfl) (hpl : (backTo pos (starEach [] X.env)).any (·.1) = false := by rfl) :
    PMk X (.Call (.Name "InvalidSwap" p) [e1] [] pos) (tMkO C (spSI C) [] (tCons t1 tNil)) := by
  have G : FnOk X.prog X.w X.K X.mg X.base CX0 1 fI fd ["self", "index"] (spSI C) := T.ok
  exact pmk_oex T.T T.iC T.tI G hr T.b .nil pass0 hg T.g (pa_cons h1 pa_nil s1) (by decide) s1 hpl
theorem mkS_go {C : Addr} {H : Hp} {i : Int} {Q : XK} (hi : i.natAbs < 2 ^ 100) (q : SwapE C H i Q) : [V.int i].length ≤ 1000 ∧ ∀ a, H a = none → spSI C (.ref a :: ([V.int i] ++ [])) (upd H a (exo a C none))
    (fun v H2 => v = .non ∧ ∃ (d : Addr) (fs : List (Str × V)), H2 a = some (exo a C (some d)) ∧ H2 d = some (exd d fs) ∧ H d = none ∧ Q (.ref C) (some d) (upd (del H2 a) d (.xd fs))) (fun _ _ _ => False) := by
  refine ⟨by show 1 ≤ 1000; decide, fun a ha => ⟨a, i, rfl, upd_same, hi, fun d hd hda => ⟨rfl, d, [("index", .int i)], by rw [upd_same], by rw [upd_ne hda, upd_same], ?_, q _ d _ (fun b o hb => ?_) upd_same rfl⟩⟩⟩
  · rw [upd_ne hda] at hd
    exact hd
  · have hd' : H d = none := by
      rw [upd_ne hda] at hd
      exact hd
    have b1 := ne_of_none hb hd'
    have b2 := ne_of_none hb ha
    rw [upd_ne b1, del_ne b2, upd_ne b2, upd_ne b1, upd_ne b2]
    exact hb
end
end Sv
set_option maxHeartbeats 4000000
namespace Sv
open PySem PySem.Spec PyProof.Rows L2
/-- an own class of exceptions as it stands behind the top -/
structure ExcF (K : PySem.W.Frag) (mg : Str → Option Value) (x : Str) (C : Addr) : Prop where
  g : mg x = some (.ref C)
  x : PySem.W.excIn K C [.type "ValueError", .type "Exception", .type "BaseException", .type "object"] "ValueError.__new__" = true
  k : PySem.W.keepIn K (.ref C) = true
  b : PySem.W.subIn K (.ref C) (.type "BaseException") = some true
  t : PySem.W.typeIn K (.ref C) = some (.type "type")
/-- the facts of the program's defs -/
structure Bd (P : Program) (K : PySem.W.Frag) (mg : Str → Option Value) where
  bt : Bt mg
  lcm : mg "lcm" = some (.builtin "math.lcm")
  C : Addr
  aInit : Addr
  dInit : FuncData
  pl : Pl P K mg C aInit dInit
  m1 : ∃ t, mg "MOST_SHELVES" = some (.int 12 t)
  m2 : ∃ t, mg "MOST_ON_SHELF" = some (.int 9 t)
  m3 : ∃ t, mg "MOST_CARRIERS" = some (.int 6 t)
  m4 : ∃ t, mg "MOST_ENTRIES" = some (.int 6 t)
  lim : ∃ t, mg "COUNT_LIMIT" = some (.int 1000000000000000000 t)
  tlim : ∃ t, mg "TIME_LIMIT" = some (.int 1000000000000000000000000000000 t)
  lastP : ∃ t, mg "LAST_PARCEL" = some (.int 999 t)
  CE : Addr
  ce : ExcF K mg "InvalidEffect" CE
  CC : Addr
  cc : ExcF K mg "InvalidCount" CC
  CD : Addr
  cd : ExcF K mg "DifferentSizes" CD
  CS : Addr
  cs : ExcF K mg "InvalidState" CS
  CUp : Addr
  cup : ExcF K mg "UnknownPlace" CUp
  CUr : Addr
  cur : ExcF K mg "UnknownParcel" CUr
  CUs : Addr
  cus : ExcF K mg "UnknownShelf" CUs
  CUc : Addr
  cuc : ExcF K mg "UnknownCarrier" CUc
  CIp : Addr
  cip : ExcF K mg "InvalidParcels" CIp
  CCt : Addr
  cct : ExcF K mg "Contradiction" CCt
  CAr : Addr
  car : ExcF K mg "InvalidArrangement" CAr
  CFu : Addr
  cfu : ExcF K mg "ShelfFull" CFu
  CPc : Addr
  cpc : ExcF K mg "ParcelCarried" CPc
  CSw : Addr
  aSw : Addr
  dSw : FuncData
  sw : Sw P K mg CSw aSw dSw
  CLap : Addr
  aLap : Addr
  dLap : FuncData
  lap : LapF K mg CLap aLap dLap
  aWithin : Addr
  dWithin : FuncData
  Within : Df K mg "is_within" sWithin ["number", "low", "high"] aWithin dWithin
  aCheckCount : Addr
  dCheckCount : FuncData
  CheckCount : Df K mg "check_count" sCheckCount ["count"] aCheckCount dCheckCount
  aCheckBetween : Addr
  dCheckBetween : FuncData
  CheckBetween : Df K mg "check_between" sCheckBetween ["number", "low", "high"] aCheckBetween dCheckBetween
  aPlaces : Addr
  dPlaces : FuncData
  Places : Df K mg "places" sPlaces ["plan"] aPlaces dPlaces
  aCheckPlan : Addr
  dCheckPlan : FuncData
  CheckPlan : Df K mg "check_plan" sCheckPlan ["plan"] aCheckPlan dCheckPlan
  aCheckSizes : Addr
  dCheckSizes : FuncData
  CheckSizes : Df K mg "check_sizes" sCheckSizes ["sizes"] aCheckSizes dCheckSizes
  aCheckRoutes : Addr
  dCheckRoutes : FuncData
  CheckRoutes : Df K mg "check_routes" sCheckRoutes ["routes", "shelves"] aCheckRoutes dCheckRoutes
  aIsRoute : Addr
  dIsRoute : FuncData
  IsRoute : Df K mg "is_route" sIsRoute ["route", "shelves"] aIsRoute dIsRoute
  aPlacesOf : Addr
  dPlacesOf : FuncData
  PlacesOf : Df K mg "places_of" sPlacesOf ["plan"] aPlacesOf dPlacesOf
  aIsPlace : Addr
  dIsPlace : FuncData
  IsPlace : Df K mg "is_place" sIsPlace ["found", "place"] aIsPlace dIsPlace
  aTruths : Addr
  dTruths : FuncData
  Truths : Df K mg "has_truth_values" sTruths ["place"] aTruths dTruths
  aNumPlaces : Addr
  dNumPlaces : FuncData
  NumPlaces : Df K mg "number_of_places" sNumPlaces ["plan"] aNumPlaces dNumPlaces
  aVisitsIn : Addr
  dVisitsIn : FuncData
  VisitsIn : Df K mg "visits_in_tick" sVisitsIn ["routes", "number"] aVisitsIn dVisitsIn
  aCommon : Addr
  dCommon : FuncData
  Common : Df K mg "common_pattern" sCommon ["routes"] aCommon dCommon
  aRoutePat : Addr
  dRoutePat : FuncData
  RoutePat : Df K mg "route_pattern" sRoutePat ["route"] aRoutePat dRoutePat
  aJoin : Addr
  dJoin : FuncData
  Join : Df K mg "join_layout" sJoin ["carried", "shelves"] aJoin dJoin
  aSplit : Addr
  dSplit : FuncData
  Split : Df K mg "split_layout" sSplit ["plan", "contents"] aSplit dSplit
  aAfterTick : Addr
  dAfterTick : FuncData
  AfterTick : Df K mg "after_tick" sAfterTick ["plan", "number", "carried", "shelves"] aAfterTick dAfterTick
  aEffectTicks : Addr
  dEffectTicks : FuncData
  EffectTicks : Df K mg "effect_of_ticks" sEffectTicks ["plan", "time", "count"] aEffectTicks dEffectTicks
  aRepeated : Addr
  dRepeated : FuncData
  Repeated : Df K mg "repeated" sRepeated ["effect", "count"] aRepeated dRepeated
  aCyclesOf : Addr
  dCyclesOf : FuncData
  CyclesOf : Df K mg "cycles_of" sCyclesOf ["effect"] aCyclesOf dCyclesOf
  aCycleFrom : Addr
  dCycleFrom : FuncData
  CycleFrom : Df K mg "cycle_from" sCycleFrom ["effect", "start"] aCycleFrom dCycleFrom
  aMoved : Addr
  dMoved : FuncData
  Moved : Df K mg "moved" sMoved ["plan", "state", "effect"] aMoved dMoved
  aStateOf : Addr
  dStateOf : FuncData
  StateOf : Df K mg "state_of" sStateOf ["plan", "time", "parcels"] aStateOf dStateOf
  aParcelsIn : Addr
  dParcelsIn : FuncData
  ParcelsIn : Df K mg "parcels_in" sParcelsIn ["state"] aParcelsIn dParcelsIn
  aCheckState : Addr
  dCheckState : FuncData
  CheckState : Df K mg "check_state" sCheckState ["plan", "state"] aCheckState dCheckState
  aFits : Addr
  dFits : FuncData
  Fits : Df K mg "fits_plan" sFits ["plan", "carried", "shelves"] aFits dFits
  aTupOf : Addr
  dTupOf : FuncData
  TupOf : Df K mg "is_tuple_of" sTupOf ["row", "length"] aTupOf dTupOf
  aParcels : Addr
  dParcels : FuncData
  Parcels : Df K mg "are_parcels" sParcels ["parcels"] aParcels dParcels
  aArrange : Addr
  dArrange : FuncData
  Arrange : Df K mg "arrangement" sArrange ["plan", "state"] aArrange dArrange
  aPlanSwaps : Addr
  dPlanSwaps : FuncData
  PlanSwaps : Df K mg "plan_swaps" sPlanSwaps ["plan", "state", "goal", "count"] aPlanSwaps dPlanSwaps
  aFewest : Addr
  dFewest : FuncData
  Fewest : Df K mg "fewest_swaps" sFewest ["plan", "state", "goal", "count"] aFewest dFewest
  aSwapAll : Addr
  dSwapAll : FuncData
  SwapAll : Df K mg "swap_all" sSwapAll ["plan", "state", "swaps"] aSwapAll dSwapAll
  aCheckArr : Addr
  dCheckArr : FuncData
  CheckArr : Df K mg "check_arrangement" sCheckArr ["parcels", "goal"] aCheckArr dCheckArr
  aSwapsBetween : Addr
  dSwapsBetween : FuncData
  SwapsBetween : Df K mg "swaps_between" sSwapsBetween ["found", "parcels", "wanted"] aSwapsBetween dSwapsBetween
  aIsSwap : Addr
  dIsSwap : FuncData
  IsSwap : Df K mg "is_swap" sIsSwap ["found", "swap"] aIsSwap dIsSwap
  aExchange : Addr
  dExchange : FuncData
  Exchange : Df K mg "exchange" sExchange ["contents", "one", "other"] aExchange dExchange
  aAdvance : Addr
  dAdvance : FuncData
  Advance : Df K mg "advance" sAdvance ["plan", "state", "count"] aAdvance dAdvance
  aLMix : Addr
  dLMix : FuncData
  LMix : Df K mg "_law_mix" sMix ["_law_script", "_law_seed"] aLMix dLMix
  aLNext : Addr
  dLNext : FuncData
  LNext : Df K mg "_law_next" sNext ["_law_h", "_law_limit"] aLNext dLNext
  aLAlike : Addr
  dLAlike : FuncData
  LAlike : Df K mg "_law_alike" sAlike ["_law_found", "_law_due"] aLAlike dLAlike
  aLError : Addr
  dLError : FuncData
  LError : Df K mg "_law_error" sError ["_law_call"] aLError dLError
  aLPlan : Addr
  dLPlan : FuncData
  LPlan : Df K mg "_law_plan" sPlan ["_law_h", "_law_shelves", "_law_carriers"] aLPlan dLPlan
  aLState : Addr
  dLState : FuncData
  LState : Df K mg "_law_state" sState ["_law_h", "_law_plan_here"] aLState dLState
  aLMixed : Addr
  dLMixed : FuncData
  LMixed : Df K mg "_law_mixed" sMixed ["_law_h", "_law_row", "_law_changes"] aLMixed dLMixed
  aLLawWheels : Addr
  dLLawWheels : FuncData
  LLawWheels : Df K mg "_law_wheels" sLawWheels ["_law_one", "_law_other"] aLLawWheels dLLawWheels
  aLErrsRight : Addr
  dLErrsRight : FuncData
  LErrsRight : Df K mg "_law_errors_right" sErrsRight ["_law_plan_here", "_law_state_here", "_law_every", "_law_goal"] aLErrsRight dLErrsRight
  aLaw : Addr
  dLaw : FuncData
  Law : Df K mg "law" sLaw ["_law_script"] aLaw dLaw
end Sv
set_option maxHeartbeats 4000000
namespace Sv
open PySem PySem.Spec PyProof.Rows L2
def eV : Option Int → V
  | none => .non
  | some i => .int i
def rV (r : Ro) : List V := r.map eV
theorem rV_len (r : Ro) : (rV r).length = r.length := by unfold rV; simp
theorem rV_get {r : Ro} {i : Nat} {e : Option Int} (h : r[i]? = some e) : (rV r)[i]? = some (eV e) := by
  unfold rV
  rw [List.getElem?_map, h]
  rfl
theorem rV_lt {r : Ro} {i : Nat} {x : V} (h : (rV r)[i]? = some x) : ∃ e, r[i]? = some e ∧ x = eV e := by
  unfold rV at h
  rw [List.getElem?_map] at h
  cases e : r[i]? with
  | none => rw [e] at h; cases h
  | some y =>
    rw [e] at h
    exact ⟨y, rfl, (Option.some.inj h).symm⟩
theorem iV_lt {zs : List Int} {i : Nat} {x : V} (h : (zs.map V.int)[i]? = some x) : ∃ z, zs[i]? = some z ∧ x = .int z := by
  rw [List.getElem?_map] at h
  cases e : zs[i]? with
  | none => rw [e] at h; cases h
  | some y =>
    rw [e] at h
    exact ⟨y, rfl, (Option.some.inj h).symm⟩
theorem refs_lt {qs : List Addr} {i : Nat} {x : V} (h : (qs.map V.ref)[i]? = some x) : ∃ q, qs[i]? = some q ∧ x = .ref q := by
  rw [List.getElem?_map] at h
  cases e : qs[i]? with
  | none => rw [e] at h; cases h
  | some y =>
    rw [e] at h
    exact ⟨y, rfl, (Option.some.inj h).symm⟩
structure RtAt (K : PySem.W.Frag) (H : Hp) (b : Addr) (rs : List Ro) : Prop where
  ex : ∃ qs : List Addr, SqT K H b (qs.map V.ref) ∧ Paired (fun q r => SqT K H q (rV r)) qs rs
theorem paired_same {K : PySem.W.Frag} {H H' : Hp} (e : Same H H') : ∀ {qs : List Addr} {rs : List Ro}, Paired (fun q r => SqT K H q (rV r)) qs rs → Paired (fun q r => SqT K H' q (rV r)) qs rs
  | _, _, .nil => .nil
  | _, _, .cons h t => .cons (sqT_same e h) (paired_same e t)
theorem paired_len {K : PySem.W.Frag} {H : Hp} : ∀ {qs : List Addr} {rs : List Ro}, Paired (fun q r => SqT K H q (rV r)) qs rs → qs.length = rs.length
  | _, _, .nil => rfl
  | _, _, .cons _ t => congrArg Nat.succ (paired_len t)
theorem paired_at {K : PySem.W.Frag} {H : Hp} : ∀ {qs : List Addr} {rs : List Ro} {i : Nat} {q : Addr}, Paired (fun q r => SqT K H q (rV r)) qs rs → qs[i]? = some q → ∃ r, rs[i]? = some r ∧ SqT K H q (rV r)
  | _, _, i, q, .nil, e => by simp at e
  | _, _, 0, q, .cons h t, e => by
    obtain rfl := Option.some.inj e
    exact ⟨_, rfl, h⟩
  | _, _, i + 1, q, .cons h t, e => paired_at (i := i) t (by simpa using e)
theorem RtAt.same {K : PySem.W.Frag} {H H' : Hp} {b : Addr} {rs : List Ro} (x : RtAt K H b rs) (e : Same H H') : RtAt K H' b rs := by
  obtain ⟨qs, h1, h2⟩ := x.ex
  exact ⟨qs, sqT_same e h1, paired_same e h2⟩
/-- a plan in its place -/
structure PlanAt (K : PySem.W.Frag) (H : Hp) (p : Addr) (zs : List Int) (rs : List Ro) : Prop where
  ex : ∃ a b : Addr, SqT K H p [.ref a, .ref b] ∧ SqT K H a (zs.map V.int) ∧ RtAt K H b rs
theorem PlanAt.same {K : PySem.W.Frag} {H H' : Hp} {p : Addr} {zs : List Int} {rs : List Ro} (x : PlanAt K H p zs rs) (e : Same H H') : PlanAt K H' p zs rs := by
  obtain ⟨a, b, h1, h2, h3⟩ := x.ex
  exact ⟨a, b, sqT_same e h1, sqT_same e h2, h3.same e⟩
section
variable {P : Program} {w : World} {K : PySem.W.Frag} {mg : Str → Option Value} {base : Heap}
theorem scIsRoute : FnScope ["route", "shelves", "entry"] ["route", "shelves"] (defScope sIsRoute) := ⟨rfl, rfl, rfl, by decide +kernel, rfl, by decide +kernel, by decide +kernel⟩
def spIsRoute (K : PySem.W.Frag) : Sp := fun vs H Q _ => ∃ (q : Addr) (r : Ro) (n : Int), vs = [.ref q, .int n] ∧ SqT K H q (rV r) ∧ r.length ≤ 1000 ∧ Q (.bl (okR n r)) H
theorem okR_all {n : Int} {r : Ro} (h1 : 1 ≤ r.length ∧ r.length ≤ 6) (h : ∀ (j : Nat) (e : Option Int), r[j]? = some e → okE n e = true) : okR n r = true := by
  unfold okR
  rw [decide_eq_true h1, Bool.true_and]
  refine List.all_eq_true.mpr fun e he => ?_
  obtain ⟨j, hj⟩ := List.mem_iff_getElem?.mp he
  exact h j e hj
theorem okR_no {n : Int} {r : Ro} {j : Nat} {e : Option Int} (h : r[j]? = some e) (hb : okE n e = false) : okR n r = false := by
  unfold okR
  have : r.all (okE n) = false := by
    rw [List.all_eq_false]
    exact ⟨e, List.mem_of_getElem? h, by rw [hb]; decide⟩
  rw [this, Bool.and_false]
theorem ok_isRoute (T : Bd P K mg) : FnOk P w K mg base CX0 2 T.aIsRoute T.dIsRoute ["route", "shelves"] (spIsRoute K) := by
  have GW : FnOk P w K mg base CX0 1 T.aWithin T.dWithin ["number", "low", "high"] spWithin := ok_within T.Within.F T.bt.isinstance T.bt.bool T.bt.int
  obtain ⟨t4, h4⟩ := T.m4
  refine T.IsRoute.F.ok scIsRoute (fun vs H Q E h => ?_) (fun cdv A outer s H vs Q E hr h => ?_)
  · obtain ⟨q, r, n, rfl, _⟩ := h
    rfl
  · obtain ⟨q, r, n, rfl, hq, hl, hQ⟩ := h
    refine ⟨_, pss_cons (ps_if (pw_or (pt_not (pt_val (pe_callB call_isi (by rfl) T.bt.isinstance b_isinstance (pa_cons (pv 0) (pa_cons (pe_ty (by rfl) T.bt.tuple b_tuple) pa_nil)))))
        (pw_or1 (pt_not (pt_chain op_le op_le pe_int (pe_callB call_len_seq (by rfl) T.bt.len b_len (pa_cons (pv 0) pa_nil)) (pe_glob (v := .int 6) (by rfl) h4 ⟨_, rfl⟩))))).pt (pss_one (ps_ret pe_bl)) pss_nil)
      (pss_cons (ps_for PassesOwn.never rfl (pi_tup (pv 0)) (pg_name (i := 2) scIsRoute.nd rfl (Or.inl rfl))
        (pss_one (ps_if (pw_and (pt_cmpR op_notN (pv 2) pe_non (nomark _)) (pw_and1 (pt_not (pt_val (pe_call (E := E0) GW hr (by rfl) T.Within.g T.Within.F.kp T.Within.b .nil pass0 (pa_cons (pv 2) (pa_cons pe_int (pa_cons (pe_op op_sub (pv 1) pe_int) pa_nil)))))))).pt (pss_one (ps_ret pe_bl)) pss_nil)))
      (pss_one (ps_ret pe_bl))), ?_⟩
    refine ⟨.ref q, rfl, .ref q, .ty "tuple", _, _, true, rfl, .ty "tuple", tyx_tup hq, kit_ty (by decide +kernel), true, rfl, iteF ?_⟩
    refine ⟨.ref q, rfl, q, rV r, rfl, .inr hq, 1, _, rfl, rfl, _, rfl, ?_⟩
    rw [rV_len]
    have no : ∀ b, okR n r = b → b = false → Q (.bl false) H := fun b e1 e2 => by
      rw [e1, e2] at hQ
      exact hQ
    by_cases h1 : (1 : Int) ≤ (r.length : Nat)
    · rw [decide_eq_true h1]
      refine iteT ⟨_, _, rfl, rfl, _, rfl, ?_⟩
      by_cases h2 : ((r.length : Nat) : Int) ≤ 6
      · rw [decide_eq_true h2]
        refine iteF ?_
        have hlen : 1 ≤ r.length ∧ r.length ≤ 6 := ⟨by omega, by omega⟩
        refine ⟨.ref q, rfl, q, rfl, ⟨_, hq⟩, for_tup (xs := rV r) (fun i σ H' => (∃ y, σ = [some (.ref q), some (.int n), y]) ∧ H' = H ∧ ∀ j e, j < i → r[j]? = some e → okE n e = true) ⟨⟨none, rfl⟩, rfl, fun j e hj => by omega⟩ (fun i σ H' _ h => by rw [h.2.1]; exact hq)
          (fun i x σ H' hx ⟨⟨y, es⟩, eH, hok⟩ => ?_) (fun σ H' ⟨⟨y, es⟩, eH, hok⟩ => ?_)⟩
        · subst es
          subst eH
          obtain ⟨e, he, rfl⟩ := rV_lt hx
          have more : okE n e = true → ∀ j e', j < i + 1 → r[j]? = some e' → okE n e' = true := fun h j e' hj hh => by
            by_cases hji : j = i
            · rw [hji, he] at hh
              rw [← Option.some.inj hh]
              exact h
            · exact hok j e' (by omega) hh
          cases e with
          | none =>
            refine ⟨.non, rfl, rfl, false, rfl, iteF (iteF ⟨⟨_, rfl⟩, rfl, more rfl⟩)⟩
          | some z =>
            refine ⟨.int z, rfl, rfl, true, rfl, iteT ⟨.int z, rfl, .int n, rfl, n, 1, rfl, rfl, z, 0, n - 1, rfl, _, rfl, ?_⟩⟩
            by_cases hz : 0 ≤ z ∧ z ≤ n - 1
            · rw [decide_eq_true hz]
              exact iteF ⟨⟨_, rfl⟩, rfl, more (decide_eq_true hz)⟩
            · rw [decide_eq_false hz]
              exact iteT (no _ (okR_no he (decide_eq_false hz)) rfl)
        · subst es
          subst eH
          rw [rV_len] at hok
          have : okR n r = true := okR_all hlen fun j e he => hok j e (List.getElem?_eq_some_iff.mp he).1 he
          rw [this] at hQ
          exact hQ
      · rw [decide_eq_false h2]
        refine iteT (no _ ?_ rfl)
        unfold okR
        rw [decide_eq_false (fun z => h2 (by omega)), Bool.false_and]
    · rw [decide_eq_false h1]
      refine iteF ⟨false, rfl, iteT (no _ ?_ rfl)⟩
      unfold okR
      rw [decide_eq_false (fun z => h1 (by omega)), Bool.false_and]
end
end Sv
set_option maxHeartbeats 4000000
namespace Sv
open PySem PySem.Spec PyProof.Rows L2
section
variable {P : Program} {w : World} {K : PySem.W.Frag} {mg : Str → Option Value} {base : Heap}
theorem scCheckSizes : FnScope ["sizes", "index", "size"] ["sizes"] (defScope sCheckSizes) := ⟨rfl, rfl, rfl, by decide +kernel, rfl, by decide +kernel, by decide +kernel⟩
theorem scCheckRoutes : FnScope ["routes", "shelves", "index", "route"] ["routes", "shelves"] (defScope sCheckRoutes) := ⟨rfl, rfl, rfl, by decide +kernel, rfl, by decide +kernel, by decide +kernel⟩
theorem scCheckPlan : FnScope ["plan", "sizes", "routes"] ["plan"] (defScope sCheckPlan) := ⟨rfl, rfl, rfl, by decide +kernel, rfl, by decide +kernel, by decide +kernel⟩
theorem small_idx {i : Nat} (h : i ≤ 1000) : ((i : Nat) : Int).natAbs < 2 ^ 100 := Nat.lt_of_le_of_lt (by omega : ((i : Nat) : Int).natAbs ≤ 1000) (by decide)
def spCheckSizes (K : PySem.W.Frag) (C : Addr) : Sp := fun vs H Q E => ∃ (a : Addr) (zs : List Int), vs = [.ref a] ∧ SqT K H a (zs.map V.int) ∧ zs.length ≤ 1000 ∧ (badS zs = none → ∀ H', Same H H' → Q .non H') ∧ (∀ i, badS zs = some i → PlanE C H "sizes" i E)
theorem ok_checkSizes (T : Bd P K mg) : FnOk P w K mg base (L2.CX P w) 3 T.aCheckSizes T.dCheckSizes ["sizes"] (spCheckSizes K T.C) := by
  have GW : FnOk P w K mg base CX0 1 T.aWithin T.dWithin ["number", "low", "high"] spWithin := ok_within T.Within.F T.bt.isinstance T.bt.bool T.bt.int
  obtain ⟨t1, h1⟩ := T.m1
  obtain ⟨t2, h2⟩ := T.m2
  refine T.CheckSizes.F.okX scCheckSizes (fun vs H Q E h => ?_) (fun cdv A outer s H vs Q E hr h => ?_)
  · obtain ⟨a, zs, rfl, _⟩ := h
    rfl
  · obtain ⟨a, zs, rfl, hA, hl, q1, q2⟩ := h
    refine ⟨_, pss_cons (ps_if (pt_not (pt_chain op_le op_le pe_int (pe_callB call_len_seq (by rfl) T.bt.len b_len (pa_cons (pv 0) pa_nil)) (pe_glob (v := .int 12) (by rfl) h1 ⟨_, rfl⟩)))
        (pss_one (ps_raise rfl (takes_of rfl rfl rfl rfl) (pmk_plan T.pl hr (by rfl) pe_str (pe_un un_neg pe_int)))) pss_nil)
      (pss_one (ps_for (passes_of rfl) rfl (pi_enumT (by rfl) T.bt.enumerate (pa_cons (pv 0) pa_nil)) (pg_tup rfl (pgs_cons (pg_name (i := 1) scCheckSizes.nd rfl (.inl rfl)) (pgs_cons (pg_name (i := 2) scCheckSizes.nd rfl (.inl rfl)) pgs_nil)))
        (pss_one (ps_if (pt_not (pt_val (pe_call (E := E0) GW (hr.mono (by decide)) (by rfl) T.Within.g T.Within.F.kp T.Within.b .nil pass0 (pa_cons (pv 2) (pa_cons pe_int (pa_cons (pe_glob (v := .int 9) (by rfl) h2 ⟨_, rfl⟩) pa_nil))))))
          (pss_one (ps_raise rfl (takes_of rfl rfl rfl rfl) (pmk_plan T.pl hr (by rfl) pe_str (pv 1)))) pss_nil)))), ?_⟩
    have big : (-1 : Int).natAbs < 2 ^ 100 := by decide
    have lw : ("sizes" : Str).length ≤ 1000 := by decide
    have no : ¬ (1 ≤ zs.length ∧ zs.length ≤ 12) → PlanE T.C H "sizes" (-1) E := fun hz => q2 (-1) (by unfold badS; rw [if_neg hz])
    refine ⟨.ref a, rfl, a, _, rfl, .inr hA, 1, _, rfl, rfl, _, rfl, ?_⟩
    rw [List.length_map]
    by_cases c1 : (1 : Int) ≤ (zs.length : Nat)
    · rw [decide_eq_true c1]
      refine iteT ⟨_, _, rfl, rfl, _, rfl, ?_⟩
      by_cases c2 : ((zs.length : Nat) : Int) ≤ 12
      · rw [decide_eq_true c2]
        have hz : 1 ≤ zs.length ∧ zs.length ≤ 12 := ⟨by omega, by omega⟩
        have eb : badS zs = (fst okZ zs 0).map fun (k : Nat) => (k : Int) := by unfold badS; rw [if_pos hz]
        refine iteF ⟨.ref a, rfl, a, _, rfl, hA, for_enumT (xs := zs.map V.int) (fun i σ H' => (∃ y1 y2, σ = [some (.ref a), y1, y2]) ∧ Same H H' ∧ ∀ (j : Nat) (z : Int), j < i → zs[j]? = some z → okZ z = true) ⟨⟨none, none, rfl⟩, fun _ _ h => h, fun j z hj => by omega⟩
          (fun i σ H' _ h => sqT_same h.2.1 hA) (fun i x σ H' U hx ⟨⟨y1, y2, es⟩, sm, hok⟩ hU => ?_) (fun σ H' ⟨_, sm, hok⟩ => ?_)⟩
        · subst es
          obtain ⟨z, hz1, rfl⟩ := iV_lt hx
          have sm2 : Same H (upd H' U (.tup [.int (i : Nat), .int z])) := same_of sm (Same.free sm hU)
          refine ⟨U, [.int (i : Nat), .int z], rfl, .inl (.inl upd_same), rfl, _, _, rfl, _, _, rfl, rfl, ?_⟩
          refine ⟨.int z, rfl, z, 0, 9, rfl, _, rfl, ?_⟩
          by_cases hzz : 0 ≤ z ∧ z ≤ 9
          · rw [decide_eq_true hzz]
            refine iteF ⟨⟨_, _, rfl⟩, sm2, fun j z' hj hz' => ?_⟩
            by_cases hji : j = i
            · rw [hji, hz1] at hz'
              rw [← Option.some.inj hz']
              exact decide_eq_true hzz
            · exact hok j z' (by omega) hz'
          · rw [decide_eq_false hzz]
            have il : i < zs.length := (List.getElem?_eq_some_iff.mp hz1).1
            refine iteT ⟨.int (i : Nat), rfl, mk_go lw (small_idx (by omega)) ((q2 i ?_).imp sm2)⟩
            rw [eb, fst_some (i := i) (x := z) hok hz1 (decide_eq_false hzz)]
            rfl
        · rw [List.length_map] at hok
          refine q1 ?_ H' sm
          rw [eb, fst_none fun j z hz' => hok j z (List.getElem?_eq_some_iff.mp hz').1 hz']
          rfl
      · rw [decide_eq_false c2]
        exact iteT ⟨1, rfl, mk_go lw big (no fun z => c2 (by omega))⟩
    · rw [decide_eq_false c1]
      exact iteF ⟨false, rfl, iteT ⟨1, rfl, mk_go lw big (no fun z => c1 (by omega))⟩⟩
def spCheckRoutes (K : PySem.W.Frag) (C : Addr) : Sp := fun vs H Q E => ∃ (b : Addr) (rs : List Ro) (n : Int), vs = [.ref b, .int n] ∧ RtAt K H b rs ∧ rs.length ≤ 1000 ∧ (∀ r ∈ rs, r.length ≤ 1000) ∧ (badR n rs = none → ∀ H', Same H H' → Q .non H') ∧ (∀ i, badR n rs = some i → PlanE C H "routes" i E)
theorem ok_checkRoutes (T : Bd P K mg) : FnOk P w K mg base (L2.CX P w) 3 T.aCheckRoutes T.dCheckRoutes ["routes", "shelves"] (spCheckRoutes K T.C) := by
  have GT : FnOk P w K mg base CX0 2 T.aIsRoute T.dIsRoute ["route", "shelves"] (spIsRoute K) := ok_isRoute T
  obtain ⟨t3, h3⟩ := T.m3
  refine T.CheckRoutes.F.okX scCheckRoutes (fun vs H Q E h => ?_) (fun cdv A outer s H vs Q E hr h => ?_)
  · obtain ⟨b, rs, n, rfl, _⟩ := h
    rfl
  · obtain ⟨b, rs, n, rfl, hB, hl, hrl, q1, q2⟩ := h
    obtain ⟨qs, hA, hP⟩ := hB.ex
    have hql := paired_len hP
    refine ⟨_, pss_cons (ps_if (pt_not (pt_chain op_le op_le pe_int (pe_callB call_len_seq (by rfl) T.bt.len b_len (pa_cons (pv 0) pa_nil)) (pe_glob (v := .int 6) (by rfl) h3 ⟨_, rfl⟩)))
        (pss_one (ps_raise rfl (takes_of rfl rfl rfl rfl) (pmk_plan T.pl hr (by rfl) pe_str (pe_un un_neg pe_int)))) pss_nil)
      (pss_one (ps_for (passes_of rfl) rfl (pi_enumT (by rfl) T.bt.enumerate (pa_cons (pv 0) pa_nil)) (pg_tup rfl (pgs_cons (pg_name (i := 2) scCheckRoutes.nd rfl (.inl rfl)) (pgs_cons (pg_name (i := 3) scCheckRoutes.nd rfl (.inl rfl)) pgs_nil)))
        (pss_one (ps_if (pt_not (pt_val (pe_call (E := E0) GT hr (by rfl) T.IsRoute.g T.IsRoute.F.kp T.IsRoute.b .nil pass0 (pa_cons (pv 3) (pa_cons (pv 1) pa_nil)))))
          (pss_one (ps_raise rfl (takes_of rfl rfl rfl rfl) (pmk_plan T.pl hr (by rfl) pe_str (pv 2)))) pss_nil)))), ?_⟩
    have big : (-1 : Int).natAbs < 2 ^ 100 := by decide
    have lw : ("routes" : Str).length ≤ 1000 := by decide
    have no : ¬ (1 ≤ rs.length ∧ rs.length ≤ 6) → PlanE T.C H "routes" (-1) E := fun hz => q2 (-1) (by unfold badR; rw [if_neg hz])
    refine ⟨.ref b, rfl, b, _, rfl, .inr hA, 1, _, rfl, rfl, _, rfl, ?_⟩
    rw [List.length_map, hql]
    by_cases c1 : (1 : Int) ≤ (rs.length : Nat)
    · rw [decide_eq_true c1]
      refine iteT ⟨_, _, rfl, rfl, _, rfl, ?_⟩
      by_cases c2 : ((rs.length : Nat) : Int) ≤ 6
      · rw [decide_eq_true c2]
        have hz : 1 ≤ rs.length ∧ rs.length ≤ 6 := ⟨by omega, by omega⟩
        have eb : badR n rs = (fst (okR n) rs 0).map fun (k : Nat) => (k : Int) := by unfold badR; rw [if_pos hz]
        refine iteF ⟨.ref b, rfl, b, _, rfl, hA, for_enumT (xs := qs.map V.ref) (fun i σ H' => (∃ y1 y2, σ = [some (.ref b), some (.int n), y1, y2]) ∧ Same H H' ∧ ∀ (j : Nat) (r : Ro), j < i → rs[j]? = some r → okR n r = true) ⟨⟨none, none, rfl⟩, fun _ _ h => h, fun j z hj => by omega⟩
          (fun i σ H' _ h => sqT_same h.2.1 hA) (fun i x σ H' U hx ⟨⟨y1, y2, es⟩, sm, hok⟩ hU => ?_) (fun σ H' ⟨_, sm, hok⟩ => ?_)⟩
        · subst es
          obtain ⟨qa, hqa, rfl⟩ := refs_lt hx
          obtain ⟨r, hr1, hqr⟩ := paired_at hP hqa
          have sm2 : Same H (upd H' U (.tup [.int (i : Nat), .ref qa])) := same_of sm (Same.free sm hU)
          refine ⟨U, [.int (i : Nat), .ref qa], rfl, .inl (.inl upd_same), rfl, _, _, rfl, _, _, rfl, rfl, ?_⟩
          refine ⟨.ref qa, rfl, .int n, rfl, qa, r, n, rfl, sqT_same sm2 hqr, hrl r (List.mem_of_getElem? hr1), _, rfl, ?_⟩
          by_cases hzz : okR n r = true
          · rw [hzz]
            refine iteF ⟨⟨_, _, rfl⟩, sm2, fun j z' hj hz' => ?_⟩
            by_cases hji : j = i
            · rw [hji, hr1] at hz'
              rw [← Option.some.inj hz']
              exact hzz
            · exact hok j z' (by omega) hz'
          · have hzf : okR n r = false := by simpa using hzz
            rw [hzf]
            have il : i < rs.length := (List.getElem?_eq_some_iff.mp hr1).1
            refine iteT ⟨.int (i : Nat), rfl, mk_go lw (small_idx (by omega)) ((q2 i ?_).imp sm2)⟩
            rw [eb, fst_some (i := i) (x := r) hok hr1 hzf]
            rfl
        · rw [List.length_map, hql] at hok
          refine q1 ?_ H' sm
          rw [eb, fst_none fun j z hz' => hok j z (List.getElem?_eq_some_iff.mp hz').1 hz']
          rfl
      · rw [decide_eq_false c2]
        exact iteT ⟨1, rfl, mk_go lw big (no fun z => c2 (by omega))⟩
    · rw [decide_eq_false c1]
      exact iteF ⟨false, rfl, iteT ⟨1, rfl, mk_go lw big (no fun z => c1 (by omega))⟩⟩
def spCheckPlan (K : PySem.W.Frag) (C : Addr) : Sp := fun vs H Q E => ∃ (p : Addr) (zs : List Int) (rs : List Ro), vs = [.ref p] ∧ PlanAt K H p zs rs ∧ Small zs rs ∧ (bad zs rs = none → ∀ H', Same H H' → Q .non H') ∧ (∀ part i, bad zs rs = some (part, i) → PlanE C H part i E)
theorem ok_checkPlan (T : Bd P K mg) : FnOk P w K mg base (L2.CX P w) 4 T.aCheckPlan T.dCheckPlan ["plan"] (spCheckPlan K T.C) := by
  have GS : FnOk P w K mg base (L2.CX P w) 3 T.aCheckSizes T.dCheckSizes ["sizes"] (spCheckSizes K T.C) := ok_checkSizes T
  have GR : FnOk P w K mg base (L2.CX P w) 3 T.aCheckRoutes T.dCheckRoutes ["routes", "shelves"] (spCheckRoutes K T.C) := ok_checkRoutes T
  refine T.CheckPlan.F.okX scCheckPlan (fun vs H Q E h => ?_) (fun cdv A outer s H vs Q E hr h => ?_)
  · obtain ⟨p, zs, rs, rfl, _⟩ := h
    rfl
  · obtain ⟨p, zs, rs, rfl, hp, ⟨l1, l2, l3⟩, q1, q2⟩ := h
    obtain ⟨a, b, hp1, ha, hb⟩ := hp.ex
    refine ⟨_, pss_cons (ps_asg (pv 0) (pg_tup rfl (pgs_cons (pg_name (i := 1) scCheckPlan.nd rfl (.inl rfl)) (pgs_cons (pg_name (i := 2) scCheckPlan.nd rfl (.inl rfl)) pgs_nil))))
      (pss_cons (ps_expr (pe_call (E := E) GS hr (by rfl) T.CheckSizes.g T.CheckSizes.F.kp T.CheckSizes.b .nil (passes_call (takes_of rfl rfl rfl rfl) fun _ _ _ _ h => h) (pa_cons (pv 1) pa_nil)))
      (pss_one (ps_expr (pe_call (E := E) GR hr (by rfl) T.CheckRoutes.g T.CheckRoutes.F.kp T.CheckRoutes.b .nil (passes_call (takes_of rfl rfl rfl rfl) fun _ _ _ _ h => h) (pa_cons (pv 2) (pa_cons (pe_callB call_len_seq (by rfl) T.bt.len b_len (pa_cons (pv 1) pa_nil)) pa_nil)))))), ?_⟩
    refine ⟨.ref p, rfl, p, [.ref a, .ref b], rfl, hp1, rfl, _, _, rfl, _, _, rfl, rfl, ?_⟩
    refine ⟨.ref a, rfl, a, zs, rfl, ha, l1, fun e1 H1 sm1 => ?_, fun i e1 => q2 _ i ?_⟩
    · refine ⟨.ref b, rfl, .ref a, rfl, a, _, rfl, .inr (sqT_same sm1 ha), b, rs, _, rfl, hb.same sm1, l2, l3, fun e2 H2 sm2 => q1 ?_ H2 (sm1.trans sm2), fun i e2 => (q2 "routes" i ?_).imp sm1⟩
      · unfold bad
        rw [e1]
        rw [List.length_map] at e2
        simp only [e2, Option.map_none]
      · unfold bad
        rw [e1]
        rw [List.length_map] at e2
        simp only [e2, Option.map_some]
    · unfold bad
      rw [e1]
end
end Sv
set_option maxHeartbeats 4000000
namespace Sv
open PySem PySem.Spec PyProof.Rows L2
abbrev TupsV (H : Hp) (ps : List Addr) (ts : List (List V)) : Prop := Paired (fun p t => H p = some (.tup t)) ps ts
theorem tupsV_imp {H H' : Hp} (e : ∀ b xs, H b = some (.tup xs) → H' b = some (.tup xs)) : ∀ {ps : List Addr} {ts : List (List V)}, TupsV H ps ts → TupsV H' ps ts
  | _, _, .nil => .nil
  | _, _, .cons h t => .cons (e _ _ h) (tupsV_imp e t)
theorem tupsV_same {H H' : Hp} (e : Same H H') {ps : List Addr} {ts : List (List V)} (h : TupsV H ps ts) : TupsV H' ps ts := tupsV_imp (fun b xs q => e _ _ q) h
theorem tupsV_len {H : Hp} : ∀ {ps : List Addr} {ts : List (List V)}, TupsV H ps ts → ps.length = ts.length
  | _, _, .nil => rfl
  | _, _, .cons _ t => congrArg Nat.succ (tupsV_len t)
theorem tupsV_app {H : Hp} : ∀ {ps qs : List Addr} {ts us : List (List V)}, TupsV H ps ts → TupsV H qs us → TupsV H (ps ++ qs) (ts ++ us)
  | _, _, _, _, .nil, h => h
  | _, _, _, _, .cons h t, h2 => .cons h (tupsV_app t h2)
theorem tupsV_snoc {H : Hp} {p : Addr} {t : List V} {ps : List Addr} {ts : List (List V)} (h : TupsV H ps ts) (hp : H p = some (.tup t)) : TupsV H (ps ++ [p]) (ts ++ [t]) := tupsV_app h (.cons hp .nil)
/-- at f a list of new tuples -/
structure TL (H : Hp) (f : Addr) (ts : List (List V)) : Prop where
  ex : ∃ ps : List Addr, H f = some (.lst (ps.map V.ref)) ∧ TupsV H ps ts
theorem TL.same {H H' : Hp} {f : Addr} {ts : List (List V)} (x : TL H f ts) (e : Same H H') : TL H' f ts := by
  obtain ⟨ps, h1, h2⟩ := x.ex
  exact ⟨ps, e _ _ h1, tupsV_same e h2⟩
/-- one more behind -/
theorem TL.push {H : Hp} {f p : Addr} {ts : List (List V)} {t : List V} {xs : List V} (x : TL H f ts) (hf : H f = some (.lst xs)) (hp : H p = some (.tup t)) : TL (upd H f (.lst (xs ++ [.ref p]))) f (ts ++ [t]) := by
  obtain ⟨ps, h1, h2⟩ := x.ex
  rw [hf] at h1
  obtain rfl := HO.lst.inj (Option.some.inj h1)
  refine ⟨ps ++ [p], by rw [upd_same, List.map_append]; rfl, tupsV_imp (fun b xs q => ?_) (tupsV_snoc h2 hp)⟩
  rw [upd_ne (fun z => by rw [z, hf] at q; cases q)]
  exact q
def NewTL (H : Hp) (ts : List (List V)) (Q : VK) : Prop := ∀ H' f, Same H H' → H f = none → TL H' f ts → Q (.ref f) H'
def pairV (c : Nat) (z : Int) : List V := [.int (c : Nat), .int z]
/-- the pairs of the first k carriers -/
def meetN (rs : List Ro) (m : Int) : Nat → List (List V)
  | 0 => []
  | k + 1 => meetN rs m k ++ (match rs[k]? with | some r => (match ent r m with | some z => [pairV k z] | none => []) | none => [])
def meets (rs : List Ro) (m : Int) : List (List V) := meetN rs m rs.length
theorem meetN_none {rs : List Ro} {m : Int} {k : Nat} {r : Ro} (h : rs[k]? = some r) (e : ent r m = none) : meetN rs m (k + 1) = meetN rs m k := by
  conv => lhs; unfold meetN
  rw [h]
  simp only [e, List.append_nil]
theorem meetN_some {rs : List Ro} {m : Int} {k : Nat} {r : Ro} {z : Int} (h : rs[k]? = some r) (e : ent r m = some z) : meetN rs m (k + 1) = meetN rs m k ++ [pairV k z] := by
  conv => lhs; unfold meetN
  rw [h]
  simp only [e]
theorem meetN_len (rs : List Ro) (m : Int) : ∀ k, (meetN rs m k).length ≤ k
  | 0 => Nat.le_refl _
  | k + 1 => by
    unfold meetN
    rw [List.length_append]
    have := meetN_len rs m k
    split
    · split
      · simp; omega
      · simp; omega
    · simp; omega
section
variable {P : Program} {w : World} {K : PySem.W.Frag} {mg : Str → Option Value} {base : Heap}
theorem scVisitsIn : FnScope ["routes", "number", "found", "carrier", "route", "shelf"] ["routes", "number"] (defScope sVisitsIn) := ⟨rfl, rfl, rfl, by decide +kernel, rfl, by decide +kernel, by decide +kernel⟩
def spVisitsIn (K : PySem.W.Frag) : Sp := fun vs H Q _ => ∃ (b : Addr) (rs : List Ro) (n : Int), vs = [.ref b, .int n] ∧ RtAt K H b rs ∧ rs.length ≤ 1000 ∧ (∀ r ∈ rs, r ≠ [] ∧ r.length ≤ 1000) ∧ NewTL H (meets rs (n - 1)) Q
theorem ok_visitsIn {f : Addr} {fd : FuncData} (F : Df K mg "visits_in_tick" sVisitsIn ["routes", "number"] f fd) (B : Bt mg) : FnOk P w K mg base CX0 1 f fd ["routes", "number"] (spVisitsIn K) := by
  refine F.F.ok scVisitsIn (fun vs H Q E h => ?_) (fun cdv A outer s H vs Q E hr h => ?_)
  · obtain ⟨b, rs, n, rfl, _⟩ := h
    rfl
  · obtain ⟨b, rs, n, rfl, hB, hl, hrs, q⟩ := h
    obtain ⟨qs, hA, hP⟩ := hB.ex
    have hql := paired_len hP
    refine ⟨_, pss_cons (ps_set (i := 2) scVisitsIn.nd rfl (Or.inl rfl) (pe_lst pa_nil))
      (pss_cons (ps_for PassesOwn.never rfl (pi_enumT (by rfl) B.enumerate (pa_cons (pv 0) pa_nil)) (pg_tup rfl (pgs_cons (pg_name (i := 3) scVisitsIn.nd rfl (.inl rfl)) (pgs_cons (pg_name (i := 4) scVisitsIn.nd rfl (.inl rfl)) pgs_nil)))
        (pss_cons (ps_set (i := 5) scVisitsIn.nd rfl (Or.inl rfl) (pe_ix ix_tup (pv 4) (pe_op op_mod (pe_op op_sub (pv 1) pe_int) (pe_callB call_len_seq (by rfl) B.len b_len (pa_cons (pv 4) pa_nil))) (fun _ _ => rfl)))
        (pss_one (ps_if (pt_cmpR op_notN (pv 5) pe_non (nomark _)) (pss_one (ps_expr (pe_bm PySem.F.plainAttrs_list PySem.F.slot_list_append PySem.F.type_list_append mt_append (pv 2) (pa_cons (pe_tup (pa_cons (pv 3) (pa_cons (pv 5) pa_nil))) pa_nil)))) pss_nil))))
      (pss_one (ps_ret (pv 2)))), ?_⟩
    refine ⟨Nat.zero_le _, fun f hf => ?_⟩
    have sm0 : Same H (upd H f (.lst [])) := same_upd hf
    refine ⟨.ref b, rfl, b, _, rfl, sqT_same sm0 hA, for_enumT (xs := qs.map V.ref) (fun i σ H' => (∃ y3 y4 y5, σ = [some (.ref b), some (.int n), some (.ref f), y3, y4, y5]) ∧ Same H H' ∧ TL H' f (meetN rs (n - 1) i)) ⟨⟨none, none, none, rfl⟩, sm0, [], upd_same, .nil⟩
      (fun i σ H' _ h => sqT_same h.2.1 hA) (fun i x σ H' U hx ⟨⟨y3, y4, y5, es⟩, sm, tl⟩ hU => ?_) (fun σ H' ⟨⟨y3, y4, y5, es⟩, sm, tl⟩ => ?_)⟩
    · subst es
      obtain ⟨qa, hqa, rfl⟩ := refs_lt hx
      obtain ⟨r, hr1, hqr⟩ := paired_at hP hqa
      have il : i < rs.length := (List.getElem?_eq_some_iff.mp hr1).1
      obtain ⟨rne, rl⟩ := hrs r (List.mem_of_getElem? hr1)
      obtain ⟨eg, em⟩ := ent_get rne (n - 1)
      have hrl : 0 < r.length := List.length_pos_iff.mpr rne
      have sm2 : Same H (upd H' U (.tup [.int (i : Nat), .ref qa])) := same_of sm (Same.free sm hU)
      have tl2 := tl.same (same_upd (o := .tup [.int (i : Nat), .ref qa]) hU)
      refine ⟨U, [.int (i : Nat), .ref qa], rfl, .inl (.inl upd_same), rfl, _, _, rfl, _, _, rfl, rfl, ?_⟩
      generalize upd H' U (.tup [.int (i : Nat), .ref qa]) = H2 at sm2 tl2 ⊢
      have hq2 := sqT_same sm2 hqr
      obtain ⟨ps, hff, htv⟩ := tl2.ex
      have pl : ps.length ≤ i := by rw [tupsV_len htv]; exact meetN_len _ _ _
      have eg2 : (rV r)[((n - 1) % (r.length : Int)).toNat]? = some (eV (ent r (n - 1))) := rV_get eg
      have hmod : (n - 1) % (((rV r).length : Nat) : Int) = (((n - 1) % (r.length : Int)).toNat : Nat) := by rw [rV_len]; exact em
      have hpos : (0 : Int) < (((rV r).length : Nat) : Int) := by rw [rV_len]; omega
      refine ⟨.ref qa, rfl, .int n, rfl, n, 1, rfl, rfl, .ref qa, rfl, qa, rV r, rfl, .inr hq2, n - 1, _, rfl, rfl, hpos, qa, rV r, _, eV (ent r (n - 1)), rfl, rfl, hq2, ?_, ?_⟩
      · show atI (rV r) ((n - 1) % (((rV r).length : Nat) : Int)) = _
        rw [hmod]
        exact atI_nat eg2
      cases he : ent r (n - 1) with
      | none =>
        refine ⟨.non, rfl, rfl, false, rfl, iteF ⟨⟨_, _, _, rfl⟩, sm2, ?_⟩⟩
        rw [meetN_none hr1 he]
        exact tl2
      | some z =>
        refine ⟨.int z, rfl, rfl, true, rfl, iteT ⟨.ref f, rfl, .inl ⟨rfl, _, .inl (.inl hff)⟩, .int (i : Nat), rfl, .int z, rfl, (by show 2 ≤ sizeLine; decide), fun p hp => ?_⟩⟩
        have fp : f ≠ p := ne_of_none hff hp
        have hf2 : (upd H2 p (.tup [.int (i : Nat), .int z])) f = some (.lst (ps.map V.ref)) := by rw [upd_ne fp]; exact hff
        refine ⟨f, _, _, rfl, rfl, hf2, ?_, ⟨_, _, _, rfl⟩, same_of (same_of sm2 (Same.free sm2 hp)) hf, ?_⟩
        · rw [List.length_map]
          exact small1000 (by omega)
        · rw [meetN_some hr1 he]
          exact (tl2.same (same_upd hp)).push hf2 upd_same
    · subst es
      rw [List.length_map, hql] at tl
      exact ⟨.ref f, rfl, q H' f sm hf tl⟩
end
end Sv
set_option maxHeartbeats 4000000
namespace Sv
open PySem PySem.Spec PyProof.Rows L2
/-- a test's reading, made to hold of more -/
def tMoT (t : TT) : TT := fun σ H Q => ∃ Q0 : Bool → Hp → Prop, t σ H Q0 ∧ ∀ b H1, Q0 b H1 → Q b H1
theorem pt_mo {X : Cx} {e : Expr} {t : TT} (h : PT X e t) : PT X e (tMoT t) := by
  refine ⟨fun pins s σ H Q I ⟨Q0, h0, h1⟩ => thn (h.run pins s σ H Q0 I h0) fun b s1 hb => ?_⟩
  obtain ⟨H1, J, q⟩ := hb
  exact ⟨H1, J, h1 _ _ q⟩
theorem mo_mono {t : TT} : ∀ (σ : L2.St) (H : Hp) (Q Q' : Bool → Hp → Prop), (∀ b H1, Q b H1 → Q' b H1) → tMoT t σ H Q → tMoT t σ H Q' := fun σ H Q Q' hq ⟨Q0, h0, h1⟩ => ⟨Q0, h0, fun b H1 q => hq _ _ (h1 _ _ q)⟩
theorem mo_go {t : TT} {σ : L2.St} {H : Hp} {Q : Bool → Hp → Prop} (h : t σ H Q) : tMoT t σ H Q := ⟨Q, h, fun _ _ q => q⟩
def dE : Option Int → PyData
  | none => .none
  | some i => .int i
def dRs (r : Ro) : List PyData := r.map dE
def dR (r : Ro) : PyData := .tuple (dRs r)
theorem dp_eV {K : PySem.W.Frag} {H : Hp} : ∀ e : Option Int, Dp K H (eV e) (dE e)
  | none => .non
  | some i => .int i
theorem dpAll_rV {K : PySem.W.Frag} {H : Hp} : ∀ r : Ro, DpAll K H (rV r) (dRs r)
  | [] => .nil
  | e :: r => .cons (dp_eV e) (dpAll_rV r)
theorem dp_rV {K : PySem.W.Frag} {H : Hp} {a : Addr} {r : Ro} (h : SqT K H a (rV r)) : Dp K H (.ref a) (dR r) := .tup h (dpAll_rV r)
theorem eqv_dE : ∀ a b : Option Int, PyData.eqv (dE a) (dE b) = decide (a = b)
  | none, none => by show PyData.eqv .none .none = _; rw [PyData.eqv]; rfl
  | none, some j => by show PyData.eqv .none (.int j) = _; rw [PyData.eqv]; rfl
  | some i, none => by show PyData.eqv (.int i) .none = _; rw [PyData.eqv]; rfl
  | some i, some j => by
    show PyData.eqv (.int i) (.int j) = _
    rw [PyData.eqv]
    by_cases h : i = j
    · subst h
      simp
    · rw [decide_eq_false (fun z => h (Option.some.inj z))]
      simpa using h
theorem eqv_dRs : ∀ a b : Ro, PyData.eqvAll (dRs a) (dRs b) = decide (a = b)
  | [], [] => by show PyData.eqvAll [] [] = _; rw [PyData.eqvAll]; rfl
  | [], y :: b => by show PyData.eqvAll [] (dE y :: dRs b) = _; rw [PyData.eqvAll]; rfl
  | x :: a, [] => by show PyData.eqvAll (dE x :: dRs a) [] = _; rw [PyData.eqvAll]; rfl
  | x :: a, y :: b => by
    show PyData.eqvAll (dE x :: dRs a) (dE y :: dRs b) = _
    rw [PyData.eqvAll, eqv_dE, eqv_dRs a b]
    by_cases h1 : x = y
    · subst h1
      by_cases h2 : a = b
      · subst h2
        simp
      · simp [h2]
    · simp [h1]
theorem eqv_dR (a b : Ro) : PyData.eqv (dR a) (dR b) = decide (a = b) := by
  show PyData.eqv (.tuple (dRs a)) (.tuple (dRs b)) = _
  rw [PyData.eqv]
  exact eqv_dRs a b
theorem can_dRs : ∀ r : Ro, PyData.canLayAll0 (dRs r) = true
  | [] => by show PyData.canLayAll0 [] = true; rw [PyData.canLayAll0]
  | e :: r => by
    show PyData.canLayAll0 (dE e :: dRs r) = true
    rw [PyData.canLayAll0, can_dRs r, Bool.and_true]
    cases e with
    | none => show PyData.canLay0 .none = true; rw [PyData.canLay0]
    | some i => show PyData.canLay0 (.int i) = true; rw [PyData.canLay0]
theorem dep_dRs : ∀ r : Ro, PyData.depthAll (dRs r) ≤ 1
  | [] => by show PyData.depthAll [] ≤ 1; rw [PyData.depthAll]; omega
  | e :: r => by
    show PyData.depthAll (dE e :: dRs r) ≤ 1
    rw [PyData.depthAll]
    have h1 := dep_dRs r
    have h2 : PyData.depth (dE e) ≤ 1 := by
      cases e with
      | none => show PyData.depth .none ≤ 1; simp only [PyData.depth]; omega
      | some i => show PyData.depth (.int i) ≤ 1; simp only [PyData.depth]; omega
    omega
theorem shaped_dR (r : Ro) : SeqAt.shaped (dR r) = true := by
  unfold SeqAt.shaped
  rw [Bool.and_eq_true]
  refine ⟨?_, decide_eq_true ?_⟩
  · show PyData.canLay0 (.tuple (dRs r)) = true
    rw [PyData.canLay0]
    exact can_dRs r
  · show PyData.depth (.tuple (dRs r)) ≤ 64
    have h := dep_dRs r
    rw [PyData.depth]
    omega
@[irreducible] def qSl (K : PySem.W.Frag) : V → Option Int → Option Int → Hp → VK → Prop := rSlA K
@[irreducible] def qCat (K : PySem.W.Frag) : R2 := rCatA K
@[irreducible] def qNe (K : PySem.W.Frag) : R2 := rNeD K
theorem sl_tupQ {X : Cx} : SlR X (qSl X.K) := by
  unfold qSl
  exact sl_tupA
theorem op_catQ {X : Cx} : OpR X (binaryOp .Add) (qCat X.K) := by
  unfold qCat
  exact op_catA
theorem op_neQ {X : Cx} (hu : X.A.units + 64 < cLine) : OpR X (compareOp .NotEq) (qNe X.K) := by
  unfold qNe
  exact op_neD hu
section
variable {K : PySem.W.Frag} {H : Hp} {a b : Addr} {xs ys : List V} {lo hi : Option Int} {Q : VK}
theorem sl_go (hA : SqT K H a xs) (q : ∀ H' p, Same H H' → SqT K H' p (cutV xs lo hi) → Q (.ref p) H') : qSl K (.ref a) lo hi H Q := by
  unfold qSl
  refine ⟨a, xs, rfl, hA, fun hw => ?_, fun _ p hp => q _ p (same_upd hp) (.inl (.inl upd_same))⟩
  refine q H a (fun _ _ h => h) ?_
  have e : cutV xs lo hi = xs := by
    unfold cutV
    rw [hw.1, hw.2, List.drop_zero, Nat.sub_zero]
    exact List.take_of_length_le (Nat.le_refl _)
  rw [e]
  exact hA
theorem cat_go (hA : SqT K H a xs) (hB : SqT K H b ys) (hl : xs.length + ys.length ≤ 1000) (q : ∀ H' p, Same H H' → SqT K H' p (xs ++ ys) → Q (.ref p) H') : qCat K (.ref a) (.ref b) H Q := by
  unfold qCat
  refine ⟨a, b, _, _, rfl, rfl, hA, hB, sz1000 hl, fun z => ?_, fun _ z => ?_, fun _ _ p hp => q _ p (same_upd hp) (.inl (.inl upd_same))⟩
  · subst z
    exact q H b (fun _ _ h => h) hB
  · subst z
    exact q H a (fun _ _ h => h) (by rw [List.append_nil]; exact hA)
theorem neR_go {r t : Ro} (hA : SqT K H a (rV r)) (hB : SqT K H b (rV t)) (q : Q (.bl (!decide (r = t))) H) : qNe K (.ref a) (.ref b) H Q := by
  unfold qNe
  exact ⟨dR r, dR t, dp_rV hA, dp_rV hB, shaped_dR r, shaped_dR t, by rw [eqv_dR]; exact q⟩
theorem cut_from {xs : List V} {k : Nat} : cutV xs (some (k : Int)) none = xs.drop k := by
  unfold cutV
  rw [HT.sIx_nat, HT.sIx_none]
  by_cases h : k ≤ xs.length
  · rw [Nat.min_eq_left h]
    exact List.take_of_length_le (by rw [List.length_drop]; omega)
  · rw [Nat.min_eq_right (by omega), List.drop_of_length_le (Nat.le_refl _), List.drop_of_length_le (by omega), List.take_nil]
theorem cut_to {xs : List V} {k : Nat} : cutV xs none (some (k : Int)) = xs.take k := by
  unfold cutV
  rw [HT.sIx_nat, HT.sIx_none, List.drop_zero, Nat.sub_zero]
  by_cases h : k ≤ xs.length
  · rw [Nat.min_eq_left h]
  · rw [Nat.min_eq_right (by omega), List.take_of_length_le (Nat.le_refl _), List.take_of_length_le (by omega)]
end
section
variable {P : Program} {w : World} {K : PySem.W.Frag} {mg : Str → Option Value} {base : Heap}
theorem scRoutePat : FnScope ["route", "steps"] ["route"] (defScope sRoutePat) := ⟨rfl, rfl, rfl, by decide +kernel, rfl, by decide +kernel, by decide +kernel⟩
theorem scCommon : FnScope ["routes", "length", "route"] ["routes"] (defScope sCommon) := ⟨rfl, rfl, rfl, by decide +kernel, rfl, by decide +kernel, by decide +kernel⟩
def spRoutePat (K : PySem.W.Frag) : Sp := fun vs H Q _ => ∃ (a : Addr) (r : Ro), vs = [.ref a] ∧ SqT K H a (rV r) ∧ r ≠ [] ∧ r.length ≤ 400 ∧ ∀ H', Same H H' → Q (.int (rtp r : Nat)) H'
theorem ok_routePat {f : Addr} {fd : FuncData} (F : Df K mg "route_pattern" sRoutePat ["route"] f fd) : FnOk P w K mg base CX0 1 f fd ["route"] (spRoutePat K) := by
  refine F.F.ok scRoutePat (fun vs H Q E h => ?_) (fun cdv A outer s H vs Q E hr h => ?_)
  · obtain ⟨a, r, rfl, _⟩ := h
    rfl
  · obtain ⟨a, r, rfl, hA, hne, hl, q⟩ := h
    obtain ⟨p1, p2, p3, p4⟩ := rtp_spec hne
    refine ⟨_, pss_cons (ps_set (i := 1) scRoutePat.nd rfl (Or.inl rfl) pe_int)
      (pss_cons (ps_while PassesOwn.never (pt_mo (pt_cmpR (op_neQ hr.units) (pe_op op_catQ (pe_slice sl_tupQ (pv 0) (po_some (pv 1)) po_none) (pe_slice sl_tupQ (pv 0) po_none (po_some (pv 1)))) (pv 0) (nomark _)))
        (pss_one (ps_aug (i := 1) scRoutePat.nd rfl (Or.inl rfl) pe_int ip_add)))
      (pss_one (ps_ret (pv 1)))), ?_⟩
    refine while_by (fun σ H' => ∃ k, 1 ≤ k ∧ k ≤ rtp r ∧ σ = [some (.ref a), some (.int (k : Nat))] ∧ Same H H') (fun σ H' => match σ with | [_, some (.int z)] => rtp r + 1 - z.toNat | _ => 0)
      ⟨1, Nat.le_refl _, p1, rfl, fun _ _ h => h⟩ (fun σ H' ⟨k, k1, k2, es, sm⟩ => ?_) mo_mono
    subst es
    refine mo_go ?_
    have hA1 := sqT_same sm hA
    refine ⟨.ref a, rfl, .int (k : Nat), rfl, k, rfl, sl_go hA1 fun H1 b1 s1 h1 => ⟨.ref a, rfl, .int (k : Nat), rfl, k, rfl, sl_go (sqT_same s1 hA1) fun H2 b2 s2 h2 => ?_⟩⟩
    rw [cut_from] at h1
    rw [cut_to] at h2
    have hlen : ((rV r).drop k).length + ((rV r).take k).length ≤ 1000 := by
      rw [List.length_drop, List.length_take, rV_len]
      omega
    refine cat_go (sqT_same s2 h1) h2 hlen fun H3 b3 s3 h3 => ⟨.ref a, rfl, ?_⟩
    have e3 : (rV r).drop k ++ (rV r).take k = rV (rot r k) := by
      unfold rot rV
      rw [List.map_append, List.map_drop, List.map_take]
    rw [e3] at h3
    have sm3 := ((sm.trans s1).trans s2).trans s3
    refine neR_go h3 (sqT_same sm3 hA) ⟨_, rfl, ?_⟩
    by_cases hk : rot r k = r
    · rw [decide_eq_true hk]
      refine iteF ⟨.int (k : Nat), rfl, ?_⟩
      have : k = rtp r := by
        by_cases h : k = rtp r
        · exact h
        · exact absurd hk (p3 k k1 (by omega))
      rw [this]
      exact q _ sm3
    · rw [decide_eq_false hk]
      have hlt : k < rtp r := by
        by_cases h : k = rtp r
        · rw [h] at hk
          exact absurd p2 hk
        · omega
      refine iteT ⟨.int (k : Nat), rfl, k, 1, rfl, rfl, ⟨k + 1, by omega, by omega, rfl, sm3⟩, ?_⟩
      show rtp r + 1 - ((k : Int) + 1).toNat < rtp r + 1 - (k : Int).toNat
      omega
end
end Sv
set_option maxHeartbeats 4000000
namespace Sv
open PySem PySem.Spec PyProof.Rows L2
section
variable {P : Program} {w : World} {K : PySem.W.Frag} {mg : Str → Option Value} {base : Heap}
def spCommon (K : PySem.W.Frag) : Sp := fun vs H Q _ => ∃ (b : Addr) (rs : List Ro), vs = [.ref b] ∧ RtAt K H b rs ∧ (∀ r ∈ rs, 1 ≤ r.length ∧ r.length ≤ 6) ∧ ∀ H', Same H H' → Q (.int (lc rs : Nat)) H'
theorem ok_common (T : Bd P K mg) : FnOk P w K mg base CX0 2 T.aCommon T.dCommon ["routes"] (spCommon K) := by
  have GR : FnOk P w K mg base CX0 1 T.aRoutePat T.dRoutePat ["route"] (spRoutePat K) := ok_routePat T.RoutePat
  refine T.Common.F.ok scCommon (fun vs H Q E h => ?_) (fun cdv A outer s H vs Q E hr h => ?_)
  · obtain ⟨b, rs, rfl, _⟩ := h
    rfl
  · obtain ⟨b, rs, rfl, hB, hrs, q⟩ := h
    obtain ⟨qs, hA, hP⟩ := hB.ex
    have hql := paired_len hP
    refine ⟨_, pss_cons (ps_set (i := 1) scCommon.nd rfl (Or.inl rfl) pe_int)
      (pss_cons (ps_for PassesOwn.never rfl (pi_tup (pv 0)) (pg_name (i := 2) scCommon.nd rfl (Or.inl rfl))
        (pss_one (ps_set (i := 1) scCommon.nd rfl (Or.inl rfl) (pe_callBfun cr_lcm (by rfl) T.lcm (pa_cons (pv 1) (pa_cons (pe_call (E := E0) GR hr (by rfl) T.RoutePat.g T.RoutePat.F.kp T.RoutePat.b .nil pass0 (pa_cons (pv 2) pa_nil)) pa_nil))))))
      (pss_one (ps_ret (pv 1)))), ?_⟩
    refine ⟨.ref b, rfl, b, rfl, ⟨_, hA⟩, for_tup (xs := qs.map V.ref) (fun i σ H' => (∃ y2, σ = [some (.ref b), some (.int (lc (rs.take i) : Nat)), y2]) ∧ Same H H') ⟨⟨none, rfl⟩, fun _ _ h => h⟩ (fun i σ H' _ h => sqT_same h.2 hA) (fun i x σ H' hx ⟨⟨y2, es⟩, sm⟩ => ?_) (fun σ H' ⟨⟨y2, es⟩, sm⟩ => ?_)⟩
    · subst es
      obtain ⟨qa, hqa, rfl⟩ := refs_lt hx
      obtain ⟨r, hr1, hqr⟩ := paired_at hP hqa
      have hm := List.mem_of_getElem? hr1
      obtain ⟨l1, l2⟩ := hrs r hm
      have rne : r ≠ [] := fun z => by rw [z] at l1; simp at l1
      have b1 := (lc_le (rs := rs.take i) fun x hx => hrs x (List.mem_of_mem_take hx)).2
      have b2 := (rtp_spec rne).2.2.2
      have p64 : (1000 : Nat) < 2 ^ 64 := by decide
      refine ⟨.int (lc (rs.take i) : Nat), rfl, .ref qa, rfl, qa, r, rfl, sqT_same sm hqr, rne, by omega, fun H1 sm1 => ⟨lc (rs.take i), rtp r, rfl, by omega, by omega, ⟨some (.ref qa), ?_⟩, sm.trans sm1⟩⟩
      rw [List.take_add_one, hr1]
      show _ = [some (V.ref b), some (V.int (lc (rs.take i ++ [r]) : Nat)), some (V.ref qa)]
      rw [lc_snoc]
      rfl
    · subst es
      rw [List.length_map, hql, List.take_length]
      exact ⟨.int (lc rs : Nat), rfl, q _ sm⟩
/-- what a function of a plan does where the plan is wrong -/
abbrev BadE (C : Addr) (zs : List Int) (rs : List Ro) (H : Hp) (E : XK) : Prop := ∀ part i, bad zs rs = some (part, i) → PlanE C H part i E
theorem NewTL.imp {H H1 : Hp} {ts : List (List V)} {Q : VK} (h : NewTL H ts Q) (e : Same H H1) : NewTL H1 ts Q := fun H' f sm hf tl => h H' f (e.trans sm) (Same.free e hf) tl
end
end Sv
set_option maxHeartbeats 4000000
namespace Sv
open PySem PySem.Spec PyProof.Rows L2
theorem TL.ext2 {H : Hp} {f g : Addr} {ts us : List (List V)} {xs ys : List V} (x : TL H f ts) (y : TL H g us) (hf : H f = some (.lst xs)) (hg : H g = some (.lst ys)) : TL (upd H f (.lst (xs ++ ys))) f (ts ++ us) := by
  obtain ⟨ps, h1, h2⟩ := x.ex
  obtain ⟨qs, g1, g2⟩ := y.ex
  rw [hf] at h1
  rw [hg] at g1
  obtain rfl := HO.lst.inj (Option.some.inj h1)
  obtain rfl := HO.lst.inj (Option.some.inj g1)
  refine ⟨ps ++ qs, by rw [upd_same, List.map_append], tupsV_imp (fun b xs q => ?_) (tupsV_app h2 g2)⟩
  rw [upd_ne (fun z => by rw [z, hf] at q; cases q)]
  exact q
theorem TL.len {H : Hp} {f : Addr} {ts : List (List V)} {xs : List V} (x : TL H f ts) (hf : H f = some (.lst xs)) : xs.length = ts.length := by
  obtain ⟨ps, h1, h2⟩ := x.ex
  rw [hf] at h1
  obtain rfl := HO.lst.inj (Option.some.inj h1)
  rw [List.length_map, tupsV_len h2]
def carV (n : Nat) : List (List V) := (List.range n).map fun c => [V.str "carrier", V.int (c : Nat)]
def posV (s n : Nat) : List (List V) := (List.range n).map fun p => [V.str "shelf", V.int (s : Nat), V.int (p : Nat)]
def shN (zs : List Int) : Nat → List (List V)
  | 0 => []
  | k + 1 => shN zs k ++ posV k (zs.getD k 0).toNat
def placesV (zs : List Int) (n : Nat) : List (List V) := carV n ++ shN zs zs.length
theorem carV_succ (n : Nat) : carV (n + 1) = carV n ++ [[V.str "carrier", V.int (n : Nat)]] := by
  unfold carV
  rw [List.range_succ, List.map_append]
  rfl
theorem posV_succ (s n : Nat) : posV s (n + 1) = posV s n ++ [[V.str "shelf", V.int (s : Nat), V.int (n : Nat)]] := by
  unfold posV
  rw [List.range_succ, List.map_append]
  rfl
theorem carV_len (n : Nat) : (carV n).length = n := by unfold carV; simp
theorem posV_len (s n : Nat) : (posV s n).length = n := by unfold posV; simp
theorem shN_len {zs : List Int} (h : ∀ z ∈ zs, 0 ≤ z ∧ z ≤ 9) : ∀ k, k ≤ zs.length → (shN zs k).length ≤ 9 * k
  | 0, _ => Nat.le_refl _
  | k + 1, hk => by
    unfold shN
    rw [List.length_append, posV_len]
    have h1 := shN_len h k (by omega)
    have e : zs.getD k 0 = zs[k] := by rw [List.getD_eq_getElem?_getD, List.getElem?_eq_getElem (by omega)]; rfl
    have h2 := h zs[k] (List.getElem_mem (by omega))
    rw [e]
    omega
section
variable {P : Program} {w : World} {K : PySem.W.Frag} {mg : Str → Option Value} {base : Heap}
def nPl : List Str := ["plan", "sizes", "routes", "found", "shelf", "size", "carrier", "position"]
theorem scPlacesOf : FnScope nPl ["plan"] (defScope sPlacesOf) := ⟨rfl, rfl, rfl, by decide +kernel, rfl, by decide +kernel, by decide +kernel⟩
def spPlacesOf (K : PySem.W.Frag) : Sp := fun vs H Q E => ∃ (p : Addr) (zs : List Int) (rs : List Ro), vs = [.ref p] ∧ PlanAt K H p zs rs ∧ Good zs rs ∧ NewTL H (placesV zs rs.length) Q
theorem ok_placesOf (T : Bd P K mg) : FnOk P w K mg base CX0 1 T.aPlacesOf T.dPlacesOf ["plan"] (spPlacesOf K) := by
  refine T.PlacesOf.F.ok scPlacesOf (fun vs H Q E h => ?_) (fun cdv A outer s H vs Q E hr h => ?_)
  · obtain ⟨p, zs, rs, rfl, _⟩ := h
    rfl
  · obtain ⟨p, zs, rs, rfl, hp, gd, q1⟩ := h
    obtain ⟨a, b, hp1, ha, hb⟩ := hp.ex
    refine ⟨_, pss_cons (ps_asg (pv 0) (pg_tup rfl (pgs_cons (pg_name (i := 1) scPlacesOf.nd rfl (.inl rfl)) (pgs_cons (pg_name (i := 2) scPlacesOf.nd rfl (.inl rfl)) pgs_nil))))
      (pss_cons (ps_setLc (i := 3) (own := [("carrier", 6)]) (g := gName 6) rfl scPlacesOf.nd rfl rfl (sw_true rfl rfl rfl (by decide +kernel)) (pi_range1 (by rfl) T.bt.range (pa_cons (pe_callB call_len_seq (by rfl) T.bt.len b_len (pa_cons (pv 2) pa_nil)) pa_nil)) (blkOk_by (N := nPl) (sc := defScope sPlacesOf) (by decide +kernel))
          (fun _ _ _ _ _ => pg_name (i := 6) scPlacesOf.nd rfl (Or.inl rfl)) (fun _ _ _ _ _ => pts_nil) (fun _ _ _ _ _ => pe_tup (pa_cons pe_str (pa_cons (pv 6) pa_nil))))
      (pss_cons (ps_for PassesOwn.never rfl (pi_enumT (by rfl) T.bt.enumerate (pa_cons (pv 1) pa_nil)) (pg_tup rfl (pgs_cons (pg_name (i := 4) scPlacesOf.nd rfl (.inr rfl)) (pgs_cons (pg_name (i := 5) scPlacesOf.nd rfl (.inl rfl)) pgs_nil)))
        (pss_one (ps_expr (pe_bm PySem.F.plainAttrs_list PySem.F.slot_list_extend PySem.F.type_list_extend mt_extend (pv 3) <| pa_cons
          (pe_lc (own := [("position", 7)]) (g := gName 7) rfl scPlacesOf.nd (pi_range1 (by rfl) T.bt.range (pa_cons (pv 5) pa_nil)) (blkOk_by (N := nPl) (sc := defScope sPlacesOf) (by decide +kernel))
            (fun _ _ _ _ _ => pg_name (i := 7) scPlacesOf.nd rfl (Or.inl rfl)) (fun _ _ _ _ _ => pts_nil) (fun _ _ _ _ _ => pe_tup (pa_cons pe_str (pa_cons (pv 4) (pa_cons (pv 7) pa_nil))))) pa_nil))))
      (pss_one (ps_ret (pv 3))))), ?_⟩
    have sm1 := Same.refl H
    obtain ⟨qs, hA, hP⟩ := hb.ex
    have hql := paired_len hP
    have hp2 := sqT_same sm1 hp1
    refine ⟨.ref p, rfl, p, [.ref a, .ref b], rfl, hp2, rfl, _, _, rfl, _, _, rfl, rfl, ?_⟩
    have b62 : (1000 : Int) < 2 ^ 62 := by decide
    refine ⟨.ref b, rfl, b, _, rfl, .inr (sqT_same sm1 hA), ((qs.map V.ref).length : Nat), rfl, by omega, by rw [List.length_map, hql]; have := gd.r1; omega, fun f hf => ?_⟩
    rw [List.length_map, hql]
    have nf : H f = none := Same.free sm1 hf
    refine lc_range (lo := 0) (n := ((rs.length : Nat) : Int).toNat) (fun i H' => Same H H' ∧ TL H' f (carV i)) ⟨same_upd hf, [], upd_same, .nil⟩ (fun i H' hi ⟨sm, tl⟩ => ?_) (fun H' ⟨sm, tl⟩ => ?_)
    · have hi2 : i < rs.length := by
        rw [Int.toNat_natCast] at hi
        exact hi
      have ei : (0 : Int) + (i : Nat) = (i : Nat) := by omega
      rw [ei]
      obtain ⟨ps, hff, htv⟩ := tl.ex
      refine ⟨rfl, yes_go ⟨.int (i : Nat), rfl, (by show 2 ≤ sizeLine; decide), fun t ht => ⟨ps.map V.ref, ?_, ?_, same_of (same_of sm (Same.free sm ht)) hf, ?_⟩⟩⟩
      · rw [upd_ne (ne_of_none hff ht)]
        exact hff
      · rw [tl.len hff, carV_len]
        exact small1000 (by have := gd.r1; omega)
      · rw [carV_succ]
        exact (tl.same (same_upd ht)).push (by rw [upd_ne (ne_of_none hff ht)]; exact hff) upd_same
    rw [Int.toNat_natCast] at tl
    have smf : Same H H' := sm1.trans sm
    -- the shelves
    refine ⟨.ref a, rfl, a, _, rfl, sqT_same smf ha, for_enumT (xs := zs.map V.int) (fun i σ H2 => (∃ y4 y5, σ = [some (.ref p), some (.ref a), some (.ref b), some (.ref f), y4, y5, none, none]) ∧ Same H H2 ∧ TL H2 f (carV rs.length ++ shN zs i)) ⟨⟨none, none, rfl⟩, smf, by rw [show shN zs 0 = [] from rfl, List.append_nil]; exact tl⟩
      (fun i σ H2 _ h => sqT_same h.2.1 ha) (fun i x σ H2 U hx ⟨⟨y4, y5, es⟩, sm2, tl2⟩ hU => ?_) (fun σ H2 ⟨⟨y4, y5, es⟩, sm2, tl2⟩ => ?_)⟩
    · subst es
      obtain ⟨z, hz1, rfl⟩ := iV_lt hx
      have hz := gd.z2 z (List.mem_of_getElem? hz1)
      have il : i < zs.length := (List.getElem?_eq_some_iff.mp hz1).1
      have zd : zs.getD i 0 = z := by rw [List.getD_eq_getElem?_getD, hz1]; rfl
      have sm3 : Same H (upd H2 U (.tup [.int (i : Nat), .int z])) := same_of sm2 (Same.free sm2 hU)
      have tl3 := tl2.same (same_upd (o := .tup [.int (i : Nat), .int z]) hU)
      refine ⟨U, [.int (i : Nat), .int z], rfl, .inl (.inl upd_same), rfl, _, _, rfl, _, _, rfl, rfl, ?_⟩
      generalize upd H2 U (.tup [.int (i : Nat), .int z]) = H3 at sm3 tl3 ⊢
      obtain ⟨ps, hff, htv⟩ := tl3.ex
      refine ⟨.ref f, rfl, .inl ⟨rfl, _, .inl (.inl hff)⟩, .int z, rfl, z, rfl, by omega, by omega, fun D hD => ?_⟩
      have fD : f ≠ D := ne_of_none hff hD
      refine lc_range (lo := 0) (n := z.toNat) (fun j H' => Same H3 H' ∧ TL H' D (posV i j)) ⟨same_upd hD, [], upd_same, .nil⟩ (fun j H' hj ⟨sm4, tl4⟩ => ?_) (fun H' ⟨sm4, tl4⟩ => ?_)
      · have ej : (0 : Int) + (j : Nat) = (j : Nat) := by omega
        rw [ej]
        obtain ⟨ps2, hdd, htv2⟩ := tl4.ex
        refine ⟨rfl, yes_go ⟨.int (i : Nat), rfl, .int (j : Nat), rfl, (by show 3 ≤ sizeLine; decide), fun t ht => ⟨ps2.map V.ref, ?_, ?_, same_of (same_of sm4 (Same.free sm4 ht)) hD, ?_⟩⟩⟩
        · rw [upd_ne (ne_of_none hdd ht)]
          exact hdd
        · rw [tl4.len hdd, posV_len]
          exact small1000 (by omega)
        · rw [posV_succ]
          exact (tl4.same (same_upd ht)).push (by rw [upd_ne (ne_of_none hdd ht)]; exact hdd) upd_same
      · obtain ⟨ps2, hdd, htv2⟩ := tl4.ex
        have hf4 := sm4 _ _ hff
        have tl5 := tl3.same sm4
        have l1 := tl5.len hf4
        have l2 := tl4.len hdd
        have l3 := shN_len gd.z2 i (by omega)
        refine ⟨f, D, _, _, rfl, rfl, hf4, hdd, ?_, ⟨_, _, rfl⟩, same_of (sm3.trans sm4) nf, ?_⟩
        · rw [l1, l2, List.length_append, carV_len, posV_len]
          exact sz1000 (by have := gd.r1; have := gd.z1; omega)
        · have e : carV rs.length ++ shN zs (i + 1) = (carV rs.length ++ shN zs i) ++ posV i z.toNat := by
            conv => lhs; unfold shN
            rw [zd, List.append_assoc]
          rw [e]
          exact tl5.ext2 tl4 hf4 hdd
    · subst es
      rw [List.length_map] at tl2
      exact ⟨.ref f, rfl, q1 H2 f sm2 nf tl2⟩
theorem scPlaces : FnScope ["plan"] ["plan"] (defScope sPlaces) := ⟨rfl, rfl, rfl, by decide +kernel, rfl, by decide +kernel, by decide +kernel⟩
def spPlaces (K : PySem.W.Frag) (C : Addr) : Sp := fun vs H Q E => ∃ (p : Addr) (zs : List Int) (rs : List Ro), vs = [.ref p] ∧ PlanAt K H p zs rs ∧ Small zs rs ∧ (bad zs rs = none → NewTL H (placesV zs rs.length) Q) ∧ BadE C zs rs H E
theorem ok_places (T : Bd P K mg) : FnOk P w K mg base (L2.CX P w) 5 T.aPlaces T.dPlaces ["plan"] (spPlaces K T.C) := by
  have GP : FnOk P w K mg base (L2.CX P w) 4 T.aCheckPlan T.dCheckPlan ["plan"] (spCheckPlan K T.C) := ok_checkPlan T
  have GO : FnOk P w K mg base CX0 1 T.aPlacesOf T.dPlacesOf ["plan"] (spPlacesOf K) := ok_placesOf T
  refine T.Places.F.okX scPlaces (fun vs H Q E h => ?_) (fun cdv A outer s H vs Q E hr h => ?_)
  · obtain ⟨p, zs, rs, rfl, _⟩ := h
    rfl
  · obtain ⟨p, zs, rs, rfl, hp, hs, q1, q2⟩ := h
    refine ⟨_, pss_cons (ps_expr (pe_call (E := E) GP hr (by rfl) T.CheckPlan.g T.CheckPlan.F.kp T.CheckPlan.b .nil (passes_call (takes_of rfl rfl rfl rfl) fun _ _ _ _ h => h) (pa_cons (pv 0) pa_nil)))
      (pss_one (ps_ret (pe_call (E := E0) GO (hr.mono (by decide)) (by rfl) T.PlacesOf.g T.PlacesOf.F.kp T.PlacesOf.b .nil pass0 (pa_cons (pv 0) pa_nil)))), ?_⟩
    exact ⟨.ref p, rfl, p, zs, rs, rfl, hp, hs, fun e1 H1 sm1 => ⟨.ref p, rfl, p, zs, rs, rfl, hp.same sm1, good_of e1, fun H2 f sm2 nf tl => q1 e1 H2 f (sm1.trans sm2) (Same.free sm1 nf) tl⟩, q2⟩
end
end Sv
set_option maxHeartbeats 4000000
namespace Sv
open PySem PySem.Spec PyProof.Rows L2
def rSumT (K : PySem.W.Frag) : List V → Hp → VK → Prop := fun vs H Q => ∃ (a : Addr) (ns : List Int), vs = [V.ref a] ∧ SqT K H a (ns.map V.int) ∧ Q (.int ns.sum) H
theorem cr_sumT {X : Cx} (hc : X.calm = true) : CallR X (.builtin "sum") (rSumT X.K) := by
  intro pins s σ H vs us Q I r h
  obtain ⟨a, ns, rfl, hs, q⟩ := h
  obtain ⟨its, rv, hl, _⟩ := I.tuple hs
  rw [Vals.ref1 r]
  have hi := rv.ints
  obtain ⟨xs, e⟩ := hi.allInts.items
  have hn : numsOf (intItems xs).toList = ns := by rw [← e]; exact hi.numsOf
  rw [nums_intItems] at hn
  rw [e] at hl
  refine PySem.W.ktm_sumG (I.ok.hd hc) hl fun h' tk t' hk => ?_
  rw [preSum_eq, List.take_of_length_le (by simp), hn]
  exact ⟨.int ns.sum, H, I.kept hk, ⟨_, rfl⟩, q⟩
abbrev SegV (H : Hp) (qs : List Addr) (ss : List (List Int)) : Prop := Paired (fun q seg => H q = some (.tup (seg.map V.int))) qs ss
theorem segV_imp {H H' : Hp} (e : ∀ b xs, H b = some (.tup xs) → H' b = some (.tup xs)) : ∀ {ps : List Addr} {ts : List (List Int)}, SegV H ps ts → SegV H' ps ts
  | _, _, .nil => .nil
  | _, _, .cons h t => .cons (e _ _ h) (segV_imp e t)
theorem segV_len {H : Hp} : ∀ {ps : List Addr} {ts : List (List Int)}, SegV H ps ts → ps.length = ts.length
  | _, _, .nil => rfl
  | _, _, .cons _ t => congrArg Nat.succ (segV_len t)
theorem segV_snoc {H : Hp} {p : Addr} {t : List Int} (hp : H p = some (.tup (t.map V.int))) : ∀ {ps : List Addr} {ts : List (List Int)}, SegV H ps ts → SegV H (ps ++ [p]) (ts ++ [t])
  | _, _, .nil => .cons hp .nil
  | _, _, .cons h r => .cons h (segV_snoc hp r)
/-- a layout: who is carried, who lies where -/
structure LayAt (H : Hp) (ca sh : Addr) (cs : List Int) (ss : List (List Int)) : Prop where
  c : H ca = some (.tup (cs.map V.int))
  s : ∃ qs : List Addr, H sh = some (.tup (qs.map V.ref)) ∧ SegV H qs ss
theorem LayAt.same {H H' : Hp} {ca sh : Addr} {cs : List Int} {ss : List (List Int)} (x : LayAt H ca sh cs ss) (e : Same H H') : LayAt H' ca sh cs ss := by
  obtain ⟨qs, h1, h2⟩ := x.s
  exact ⟨e _ _ x.c, qs, e _ _ h1, segV_imp (fun b xs q => e _ _ q) h2⟩
theorem cut_seg {xs : List V} {st k : Nat} : cutV xs (some (st : Int)) (some (((st : Nat) : Int) + (k : Nat))) = (xs.drop st).take k := by
  have e : ((st : Nat) : Int) + (k : Nat) = ((st + k : Nat) : Int) := by omega
  unfold cutV
  rw [e, HT.sIx_nat, HT.sIx_nat]
  by_cases h1 : st + k ≤ xs.length
  · rw [Nat.min_eq_left h1, Nat.min_eq_left (by omega)]
    congr 1
    omega
  · by_cases h2 : st ≤ xs.length
    · rw [Nat.min_eq_right (by omega), Nat.min_eq_left h2, List.take_of_length_le (by rw [List.length_drop]; omega), List.take_of_length_le (by rw [List.length_drop]; omega)]
    · rw [Nat.min_eq_right (by omega), Nat.min_eq_right (by omega), List.drop_of_length_le (by omega : xs.length ≤ st), List.drop_of_length_le (Nat.le_refl _), List.take_nil, List.take_nil]
section
variable {P : Program} {w : World} {K : PySem.W.Frag} {mg : Str → Option Value} {base : Heap}
theorem scNum : FnScope ["plan", "sizes", "routes"] ["plan"] (defScope sNumPlaces) := ⟨rfl, rfl, rfl, by decide +kernel, rfl, by decide +kernel, by decide +kernel⟩
theorem scSplit : FnScope ["plan", "contents", "sizes", "routes", "start", "carried", "shelves", "size"] ["plan", "contents"] (defScope sSplit) := ⟨rfl, rfl, rfl, by decide +kernel, rfl, by decide +kernel, by decide +kernel⟩
def spNum (K : PySem.W.Frag) : Sp := fun vs H Q _ => ∃ (p : Addr) (zs : List Int) (rs : List Ro), vs = [.ref p] ∧ PlanAt K H p zs rs ∧ (∀ z ∈ zs, 0 ≤ z) ∧ Q (.int (rs.length + sumN zs : Nat)) H
theorem ok_num (T : Bd P K mg) : FnOk P w K mg base CX0 1 T.aNumPlaces T.dNumPlaces ["plan"] (spNum K) := by
  refine T.NumPlaces.F.ok scNum (fun vs H Q E h => ?_) (fun cdv A outer s H vs Q E hr h => ?_)
  · obtain ⟨p, zs, rs, rfl, _⟩ := h
    rfl
  · obtain ⟨p, zs, rs, rfl, hp, hz, q⟩ := h
    obtain ⟨a, b, hp1, ha, hb⟩ := hp.ex
    obtain ⟨qs, hA, hP⟩ := hb.ex
    have hql := paired_len hP
    refine ⟨_, pss_cons (ps_asg (pv 0) (pg_tup rfl (pgs_cons (pg_name (i := 1) scNum.nd rfl (.inl rfl)) (pgs_cons (pg_name (i := 2) scNum.nd rfl (.inl rfl)) pgs_nil))))
      (pss_one (ps_ret (pe_op op_add (pe_callB call_len_seq (by rfl) T.bt.len b_len (pa_cons (pv 2) pa_nil)) (pe_callB (cr_sumT rfl) (by rfl) T.bt.sum b_sum (pa_cons (pv 1) pa_nil))))), ?_⟩
    refine ⟨.ref p, rfl, p, [.ref a, .ref b], rfl, hp1, rfl, _, _, rfl, _, _, rfl, rfl, ?_⟩
    refine ⟨.ref b, rfl, b, _, rfl, .inr hA, .ref a, rfl, a, zs, rfl, ha, _, _, rfl, rfl, ?_⟩
    rw [List.length_map, hql, sum_int hz]
    exact q
def spSplit (K : PySem.W.Frag) : Sp := fun vs H Q _ => ∃ (p c : Addr) (zs : List Int) (rs : List Ro) (cs : List Int), vs = [.ref p, .ref c] ∧ PlanAt K H p zs rs ∧ SqL K H c (cs.map V.int) ∧ (∀ z ∈ zs, 0 ≤ z ∧ z ≤ 9) ∧ zs.length ≤ 12 ∧ rs.length ≤ 6 ∧ cs.length ≤ 1000 ∧
  ∀ H' t ca sh, Same H H' → H' t = some (.tup [.ref ca, .ref sh]) → LayAt H' ca sh (cs.take rs.length) (segs cs rs.length zs) → Q (.ref t) H'
theorem ok_split (T : Bd P K mg) : FnOk P w K mg base CX0 1 T.aSplit T.dSplit ["plan", "contents"] (spSplit K) := by
  refine T.Split.F.ok scSplit (fun vs H Q E h => ?_) (fun cdv A outer s H vs Q E hr h => ?_)
  · obtain ⟨p, c, zs, rs, cs, rfl, _⟩ := h
    rfl
  · obtain ⟨p, c, zs, rs, cs, rfl, hp, hc, hz, lz, lr, lc, q⟩ := h
    obtain ⟨a, b, hp1, ha, hb⟩ := hp.ex
    obtain ⟨qs, hA, hP⟩ := hb.ex
    have hql := paired_len hP
    refine ⟨_, pss_cons (ps_asg (pv 0) (pg_tup rfl (pgs_cons (pg_name (i := 2) scSplit.nd rfl (.inl rfl)) (pgs_cons (pg_name (i := 3) scSplit.nd rfl (.inl rfl)) pgs_nil))))
      (pss_cons (ps_set (i := 4) scSplit.nd rfl (Or.inl rfl) (pe_callB call_len_seq (by rfl) T.bt.len b_len (pa_cons (pv 3) pa_nil)))
      (pss_cons (ps_set (i := 5) scSplit.nd rfl (Or.inl rfl) (pe_callTy call_tuple_of (by rfl) T.bt.tuple b_tuple (pa_cons (pe_slice sl_list (pv 1) po_none (po_some (pv 4))) pa_nil)))
      (pss_cons (ps_set (i := 6) scSplit.nd rfl (Or.inl rfl) (pe_lst pa_nil))
      (pss_cons (ps_for PassesOwn.never rfl (pi_tup (pv 2)) (pg_name (i := 7) scSplit.nd rfl (Or.inl rfl))
        (pss_cons (ps_expr (pe_bm PySem.F.plainAttrs_list PySem.F.slot_list_append PySem.F.type_list_append mt_append (pv 6) (pa_cons (pe_callTy call_tuple_of (by rfl) T.bt.tuple b_tuple (pa_cons (pe_slice sl_list (pv 1) (po_some (pv 4)) (po_some (pe_op op_add (pv 4) (pv 7)))) pa_nil)) pa_nil)))
        (pss_one (ps_aug (i := 4) scSplit.nd rfl (Or.inl rfl) (pv 7) ip_add))))
      (pss_one (ps_ret (pe_tup (pa_cons (pv 5) (pa_cons (pe_callTy call_tuple_of (by rfl) T.bt.tuple b_tuple (pa_cons (pv 6) pa_nil)) pa_nil))))))))), ?_⟩
    refine ⟨.ref p, rfl, p, [.ref a, .ref b], rfl, hp1, rfl, _, _, rfl, _, _, rfl, rfl, ?_⟩
    refine ⟨.ref b, rfl, b, _, rfl, .inr hA, ?_⟩
    rw [List.length_map, hql]
    refine ⟨.ref c, rfl, .int (rs.length : Nat), rfl, (rs.length : Nat), rfl, c, _, rfl, hc, fun p1 hp1 => ?_⟩
    rw [cut_to, ← List.map_take]
    have m1 : Same H (upd H p1 (.lst ((cs.take rs.length).map V.int))) := same_upd hp1
    refine ⟨p1, _, rfl, .inl ⟨.inl (.inl upd_same), fun ca hca => ?_⟩⟩
    have m2 := m1.trans (same_upd (o := .tup ((cs.take rs.length).map V.int)) hca)
    have kca : (upd (upd H p1 (.lst ((cs.take rs.length).map V.int))) ca (.tup ((cs.take rs.length).map V.int))) ca = some (.tup ((cs.take rs.length).map V.int)) := upd_same
    generalize upd (upd H p1 (.lst ((cs.take rs.length).map V.int))) ca (.tup ((cs.take rs.length).map V.int)) = H2 at m2 kca ⊢
    refine ⟨Nat.zero_le _, fun f hf => ?_⟩
    have nf : H f = none := Same.free m2 hf
    have m3 : Same H (upd H2 f (.lst [])) := m2.trans (same_upd hf)
    have kca3 : (upd H2 f (.lst [])) ca = some (.tup ((cs.take rs.length).map V.int)) := by rw [upd_ne (ne_of_none kca hf)]; exact kca
    refine ⟨.ref a, rfl, a, rfl, ⟨_, sqT_same m3 ha⟩, for_tup (xs := zs.map V.int) (fun i σ H' => (∃ y7, σ = [some (.ref p), some (.ref c), some (.ref a), some (.ref b), some (.int (rs.length + sumN (zs.take i) : Nat)), some (.ref ca), some (.ref f), y7]) ∧ Same H H' ∧ H' ca = some (.tup ((cs.take rs.length).map V.int)) ∧
        ∃ qs : List Addr, H' f = some (.lst (qs.map V.ref)) ∧ SegV H' qs (segs cs rs.length (zs.take i))) ⟨⟨none, rfl⟩, m3, kca3, [], upd_same, .nil⟩ (fun i σ H' _ h => sqT_same h.2.1 ha) (fun i x σ H' hx ⟨⟨y7, es⟩, sm, kc, qs2, kf, sv⟩ => ?_) (fun σ H' ⟨⟨y7, es⟩, sm, kc, qs2, kf, sv⟩ => ?_)⟩
    · subst es
      obtain ⟨z, hz1, rfl⟩ := iV_lt hx
      have hzz := hz z (List.mem_of_getElem? hz1)
      have il : i < zs.length := (List.getElem?_eq_some_iff.mp hz1).1
      have ez : z = (z.toNat : Nat) := (Int.toNat_of_nonneg hzz.1).symm
      refine ⟨.ref f, rfl, .inl ⟨rfl, _, .inl (.inl kf)⟩, .ref c, rfl, .int (rs.length + sumN (zs.take i) : Nat), rfl, (rs.length + sumN (zs.take i) : Nat), rfl, .int (rs.length + sumN (zs.take i) : Nat), rfl, .int z, rfl, (rs.length + sumN (zs.take i) : Nat), z, rfl, rfl, _, rfl, c, _, rfl, Same.seq sm hc, fun p4 hp4 => ?_⟩
      have ecut : cutV (cs.map V.int) (some ((rs.length + sumN (zs.take i) : Nat) : Int)) (some (((rs.length + sumN (zs.take i) : Nat) : Int) + z)) = ((cs.drop (rs.length + sumN (zs.take i))).take z.toNat).map V.int := by
        rw [show (((rs.length + sumN (zs.take i) : Nat) : Int) + z) = ((rs.length + sumN (zs.take i) : Nat) : Int) + (z.toNat : Nat) by omega, cut_seg, ← List.map_drop, ← List.map_take]
      rw [ecut]
      have m4 : Same H' (upd H' p4 (.lst (((cs.drop (rs.length + sumN (zs.take i))).take z.toNat).map V.int))) := same_upd hp4
      refine ⟨p4, _, rfl, .inl ⟨.inl (.inl upd_same), fun p5 hp5 => ?_⟩⟩
      have m5 := m4.trans (same_upd (o := .tup (((cs.drop (rs.length + sumN (zs.take i))).take z.toNat).map V.int)) hp5)
      have k5 : (upd (upd H' p4 (.lst (((cs.drop (rs.length + sumN (zs.take i))).take z.toNat).map V.int))) p5 (.tup (((cs.drop (rs.length + sumN (zs.take i))).take z.toNat).map V.int))) p5 = some (.tup (((cs.drop (rs.length + sumN (zs.take i))).take z.toNat).map V.int)) := upd_same
      generalize upd (upd H' p4 (.lst (((cs.drop (rs.length + sumN (zs.take i))).take z.toNat).map V.int))) p5 (.tup (((cs.drop (rs.length + sumN (zs.take i))).take z.toNat).map V.int)) = H5 at m5 k5 ⊢
      have kf5 := m5 _ _ kf
      have hql2 : qs2.length = i := by
        rw [segV_len sv, segs_len, List.length_take]
        omega
      have ek : zs.take (i + 1) = zs.take i ++ [z] := by rw [List.take_add_one, hz1]; rfl
      refine ⟨f, _, _, rfl, rfl, kf5, ?_, .int (rs.length + sumN (zs.take i) : Nat), rfl, .int z, rfl, (rs.length + sumN (zs.take i) : Nat), z, rfl, rfl, ⟨some (.int z), ?_⟩, same_of (sm.trans m5) nf, ?_, qs2 ++ [p5], ?_, ?_⟩
      · rw [List.length_map]
        exact small1000 (by omega)
      · rw [ek, sumN_snoc]
        have : (((rs.length + sumN (zs.take i) : Nat) : Int) + z) = ((rs.length + (sumN (zs.take i) + z.toNat) : Nat) : Int) := by omega
        show [_, _, _, _, some (V.int (((rs.length + sumN (zs.take i) : Nat) : Int) + z)), _, _, _] = _
        rw [this]
      · rw [upd_ne (fun e => by rw [e, kf] at kc; cases kc)]
        exact m5 _ _ kc
      · rw [upd_same, List.map_append]
        rfl
      · rw [ek, segs_snoc]
        refine segV_imp (fun b xs hb => ?_) (segV_snoc k5 (segV_imp (fun b xs hb => m5 _ _ hb) sv))
        rw [upd_ne (fun e => by rw [e, kf5] at hb; cases hb)]
        exact hb
    · subst es
      rw [List.length_map, List.take_length] at sv
      refine ⟨.ref ca, rfl, .ref f, rfl, f, _, rfl, .inl ⟨.inl (.inl kf), fun sh hsh => ⟨(by show 2 ≤ sizeLine; decide), fun t ht => ?_⟩⟩⟩
      have m6 : Same H' (upd (upd H' sh (.tup (qs2.map V.ref))) t (.tup [.ref ca, .ref sh])) := (same_upd hsh).trans (same_upd ht)
      refine q _ t ca sh (sm.trans m6) upd_same ⟨m6 _ _ kc, qs2, ?_, segV_imp (fun b xs hb => m6 _ _ hb) sv⟩
      have : (upd H' sh (.tup (qs2.map V.ref))) sh = some (.tup (qs2.map V.ref)) := upd_same
      rw [upd_ne (ne_of_none this ht)]
      exact this
theorem sumN_le {zs : List Int} (h : ∀ z ∈ zs, 0 ≤ z ∧ z ≤ 9) : sumN zs ≤ 9 * zs.length := by
  unfold sumN
  induction zs with
  | nil => exact Nat.le_refl _
  | cons z zs ih =>
    have h1 := h z (List.mem_cons_self ..)
    have h2 := ih fun x hx => h x (List.mem_cons_of_mem _ hx)
    rw [List.map_cons, List.sum_cons, List.length_cons]
    omega
end
end Sv
set_option maxHeartbeats 8000000
namespace Sv
open PySem PySem.Spec PyProof.Rows L2 LamX NdefX
section
variable {P : Program} {w : World} {K : PySem.W.Frag} {mg : Str → Option Value} {base : Heap}
theorem scAlike : FnScope ["_law_found", "_law_due", "_law_k"] ["_law_found", "_law_due"] (defScope sAlike) := ⟨rfl, rfl, rfl, by decide +kernel, rfl, by decide +kernel, by decide +kernel⟩
theorem tyx_lst {H : Hp} {a : Addr} {xs : List V} (h : SqL K H a xs) : TyX K H (.ref a) (.type "list") := by
  rcases h with (h | ⟨o, h⟩) | ⟨o, its, n, h1, h2, _⟩
  · exact .base (.lst h)
  · exact .base (.frz h)
  · exact .kList h1 h2
mutual
theorem dp_same {H H' : Hp} (e : Same H H') : ∀ (d : PyData) (v : V), Dp K H v d → Dp K H' v d
  | .none, _, h => by cases h; exact .non
  | .bool b, _, h => by cases h; exact .bl b
  | .int i, _, h => by cases h; exact .int i
  | .str x, _, h => by cases h; exact .str x
  | .list ds, _, h => by
    cases h with
    | lst hs ha => exact .lst (e.seq hs) (dpAll_same e ds _ ha)
  | .tuple ds, _, h => by
    cases h with
    | tup hs ha => exact .tup (sqT_same e hs) (dpAll_same e ds _ ha)
  | .dict _, _, h => by cases h
theorem dpAll_same {H H' : Hp} (e : Same H H') : ∀ (ds : List PyData) (vs : List V), DpAll K H vs ds → DpAll K H' vs ds
  | [], _, h => by cases h; exact .nil
  | d :: ds, _, h => by
    cases h with
    | cons h1 h2 => exact .cons (dp_same e d _ h1) (dpAll_same e ds _ h2)
end
theorem dpAll_len {H : Hp} : ∀ {vs : List V} {ds : List PyData}, DpAll K H vs ds → vs.length = ds.length
  | [], _, h => by cases h; rfl
  | v :: vs, _, h => by
    cases h with
    | cons h1 h2 => exact congrArg Nat.succ (dpAll_len h2)
theorem dpAll_at {H : Hp} : ∀ {vs : List V} {ds : List PyData} {i : Nat} {d : PyData}, DpAll K H vs ds → ds[i]? = some d → ∃ v, vs[i]? = some v ∧ Dp K H v d
  | [], _, i, d, h, e => by cases h; simp at e
  | v :: vs, _, 0, d, h, e => by
    cases h with
    | cons h1 h2 =>
      obtain rfl := Option.some.inj e
      exact ⟨v, rfl, h1⟩
  | v :: vs, _, i + 1, d, h, e => by
    cases h with
    | cons h1 h2 =>
      obtain ⟨x, h3, h4⟩ := dpAll_at (vs := vs) (i := i) h2 (by simpa using e)
      exact ⟨x, by simpa using h3, h4⟩
mutual
/-- how deep, and no list too long -/
def okD : Nat → PyData → Bool
  | 0, .list _ => false
  | 0, .tuple _ => false
  | n + 1, .list ds => decide (ds.length ≤ 1000) && okDs n ds
  | n + 1, .tuple ds => decide (ds.length ≤ 1000) && okDs n ds
  | _, .dict _ => false
  | _, _ => true
def okDs : Nat → List PyData → Bool
  | _, [] => true
  | n, d :: ds => okD n d && okDs n ds
end
theorem okDs_at : ∀ {n : Nat} {ds : List PyData} {i : Nat} {d : PyData}, okDs n ds = true → ds[i]? = some d → okD n d = true
  | n, [], i, d, _, e => by simp at e
  | n, x :: ds, 0, d, h, e => by
    obtain rfl := Option.some.inj e
    rw [okDs, Bool.and_eq_true] at h
    exact h.1
  | n, x :: ds, i + 1, d, h, e => by
    rw [okDs, Bool.and_eq_true] at h
    exact okDs_at (n := n) (ds := ds) (i := i) h.2 e
def spAlike (K : PySem.W.Frag) (n : Nat) : Sp := fun vs H Q _ => ∃ (v1 v2 : V) (d : PyData), vs = [v1, v2] ∧ Dp K H v1 d ∧ Dp K H v2 d ∧ okD n d = true ∧ ∀ H', Same H H' → Q (.bl true) H'
theorem alike_step {f : Addr} {fd : FuncData} (F : Df K mg "_law_alike" sAlike ["_law_found", "_law_due"] f fd) (B : Bt mg) (n : Nat) (spS : Sp) (GS : FnOk P w K mg base CX0 n f fd ["_law_found", "_law_due"] spS)
    (hS : ∀ m, n = m + 1 → ∀ vs H Q E, spAlike K m vs H Q E → spS vs H Q E) : FnOk P w K mg base CX0 (n + 1) f fd ["_law_found", "_law_due"] (spAlike K n) := by
  refine F.F.ok scAlike (fun vs H Q E h => ?_) (fun cdv A outer s H vs Q E hr h => ?_)
  · obtain ⟨v1, v2, d, rfl, _⟩ := h
    rfl
  · obtain ⟨v1, v2, d, rfl, h1, h2, hok, q⟩ := h
    refine ⟨_, pss_cons (ps_if (pt_val (pe_callB call_isi (by rfl) B.isinstance b_isinstance (pa_cons (pv 1) (pa_cons (pe_ty (by rfl) B.dict b_dict) pa_nil)))) pss_never pss_nil)
      (pss_cons (ps_if (pt_val (pe_callB call_isiT (by rfl) B.isinstance b_isinstance (pa_cons (pv 1) (pa_cons (pe_tup (pa_cons (pe_ty (by rfl) B.tuple b_tuple) (pa_cons (pe_ty (by rfl) B.list b_list) pa_nil))) pa_nil))))
        (pss_cons (ps_if (pw_or (pt_not (pt_val (pe_callB call_isiT (by rfl) B.isinstance b_isinstance (pa_cons (pv 0) (pa_cons (pe_tup (pa_cons (pe_ty (by rfl) B.tuple b_tuple) (pa_cons (pe_ty (by rfl) B.list b_list) pa_nil))) pa_nil)))))
            (pw_or1 (pt_cmpR op_ne (pe_callB call_isi (by rfl) B.isinstance b_isinstance (pa_cons (pv 0) (pa_cons (pe_ty (by rfl) B.list b_list) pa_nil))) (pe_callB call_isi (by rfl) B.isinstance b_isinstance (pa_cons (pv 1) (pa_cons (pe_ty (by rfl) B.list b_list) pa_nil))) (nomark _)))).pt pss_never pss_nil)
        (pss_cons (ps_if (pt_cmpR op_ne (pe_callB call_len_seq (by rfl) B.len b_len (pa_cons (pv 0) pa_nil)) (pe_callB call_len_seq (by rfl) B.len b_len (pa_cons (pv 1) pa_nil)) (nomark _)) pss_never pss_nil)
        (pss_one (ps_ret (pe_cmpR (op_eqD hr.units)
          (pe_lc (own := [("_law_k", 2)]) (g := gName 2) (tt := tNot (tB (tCall spS [] E0 (tCons (tOp (rIx K) (tVar 0) (tVar 2)) (tCons (tOp (rIx K) (tVar 1) (tVar 2)) tNil))))) (te := tVar 2) rfl scAlike.nd
            (pi_range1 (by rfl) B.range (pa_cons (pe_callB call_len_seq (by rfl) B.len b_len (pa_cons (pv 1) pa_nil)) pa_nil)) (blkOk_by (N := ["_law_found", "_law_due", "_law_k"]) (sc := defScope sAlike) (by decide +kernel))
            (fun _ _ _ _ _ => pg_name (i := 2) scAlike.nd rfl (Or.inl rfl))
            (fun _ _ _ _ _ => pts_one (pt_not (pt_val (pe_call GS hr (by rfl) F.g F.F.kp F.b .nil pass0 (pa_cons (pe_ix ix_seq (pv 0) (pv 2) (fun _ _ => rfl)) (pa_cons (pe_ix ix_seq (pv 1) (pv 2) (fun _ _ => rfl)) pa_nil))))))
            (fun _ _ _ _ _ => pv 2)) (pe_lst pa_nil) (nomark _)))))) pss_nil)
      (pss_cons (ps_if (pw_or (pt_cmpR op_isN (pv 1) pe_non (nomark _)) (pw_or1 (pt_val (pe_callB call_isi (by rfl) B.isinstance b_isinstance (pa_cons (pv 1) (pa_cons (pe_ty (by rfl) B.str b_str) pa_nil)))))).pt
        (pss_one (ps_ret (pe_and (pe_cmpR op_eq (pv 0) (pv 1) (nomark _)) (pe_one (pe_cmpR op_eq (pe_callB call_isi (by rfl) B.isinstance b_isinstance (pa_cons (pv 0) (pa_cons (pe_ty (by rfl) B.str b_str) pa_nil))) (pe_callB call_isi (by rfl) B.isinstance b_isinstance (pa_cons (pv 1) (pa_cons (pe_ty (by rfl) B.str b_str) pa_nil))) (nomark _)))))) pss_nil)
      (pss_one (ps_ret (pe_and (pe_callB call_isi (by rfl) B.isinstance b_isinstance (pa_cons (pv 0) (pa_cons (pe_ty (by rfl) B.int b_int) pa_nil))) (pe_and (pe_cmpR op_eq (pe_callB call_isi (by rfl) B.isinstance b_isinstance (pa_cons (pv 0) (pa_cons (pe_ty (by rfl) B.bool b_bool) pa_nil))) (pe_callB call_isi (by rfl) B.isinstance b_isinstance (pa_cons (pv 1) (pa_cons (pe_ty (by rfl) B.bool b_bool) pa_nil))) (nomark _)) (pe_one (pe_cmpR op_eq (pv 0) (pv 1) (nomark _))))))))), ?_⟩
    have tupcs : Paired ClsV [V.ty "tuple", V.ty "list"] [Value.type "tuple", Value.type "list"] := .cons (.ty "tuple") (.cons (.ty "list") .nil)
    cases d with
    | none =>
      cases h1
      cases h2
      refine ⟨.non, rfl, .non, .ty "dict", _, _, false, rfl, .ty "dict", .base .non, kit_ty (by decide +kernel), false, rfl, iteF ?_⟩
      refine ⟨.non, rfl, (by show 2 ≤ sizeLine; decide), fun p hp => ?_⟩
      refine ⟨.non, p, _, _, _, false, rfl, upd_same, tupcs, .base .non, kitAny_cons (b := false) (kit_ty (by decide +kernel)) (fun _ => kitAny_cons (b := false) (kit_ty (by decide +kernel)) (fun _ => kitAny_nil) (fun z => by cases z)) (fun z => by cases z), false, rfl, iteF ?_⟩
      refine ⟨.non, rfl, rfl, _, rfl, iteT (iteT ?_)⟩
      refine ⟨.non, rfl, .non, rfl, rfl, true, (by rw [decide_eq_true rfl]), iteT ?_⟩
      refine ⟨.non, rfl, .non, .ty "str", _, _, false, rfl, .ty "str", .base .non, kit_ty (by decide +kernel), ?_⟩
      refine ⟨.non, rfl, .non, .ty "str", _, _, false, rfl, .ty "str", .base .non, kit_ty (by decide +kernel), rfl, ?_⟩
      exact q _ (same_upd hp)
    | bool b =>
      cases h1
      cases h2
      refine ⟨.bl b, rfl, .bl b, .ty "dict", _, _, false, rfl, .ty "dict", .base (.bl b), kit_ty (by decide +kernel), false, rfl, iteF ?_⟩
      refine ⟨.bl b, rfl, (by show 2 ≤ sizeLine; decide), fun p hp => ?_⟩
      refine ⟨.bl b, p, _, _, _, false, rfl, upd_same, tupcs, .base (.bl b), kitAny_cons (b := false) (kit_ty (by decide +kernel)) (fun _ => kitAny_cons (b := false) (kit_ty (by decide +kernel)) (fun _ => kitAny_nil) (fun z => by cases z)) (fun z => by cases z), false, rfl, iteF ?_⟩
      refine ⟨.bl b, rfl, rfl, _, rfl, iteF ?_⟩
      refine ⟨.bl b, rfl, .bl b, .ty "str", _, _, false, rfl, .ty "str", .base (.bl b), kit_ty (by decide +kernel), _, rfl, iteF ?_⟩
      refine ⟨.bl b, rfl, .bl b, .ty "int", _, _, true, rfl, .ty "int", .base (.bl b), kit_ty (by decide +kernel), true, rfl, iteT ?_⟩
      refine ⟨.bl b, rfl, .bl b, .ty "bool", _, _, true, rfl, .ty "bool", .base (.bl b), kit_ty (by decide +kernel), ?_⟩
      refine ⟨.bl b, rfl, .bl b, .ty "bool", _, _, true, rfl, .ty "bool", .base (.bl b), kit_ty (by decide +kernel), rfl, true, rfl, iteT ?_⟩
      refine ⟨.bl b, rfl, .bl b, rfl, rfl, ?_⟩
      show Q (.bl (decide (V.bl b = V.bl b))) _
      rw [decide_eq_true rfl]
      exact q _ (same_upd hp)
    | int i =>
      cases h1
      cases h2
      refine ⟨.int i, rfl, .int i, .ty "dict", _, _, false, rfl, .ty "dict", .base (.int i), kit_ty (by decide +kernel), false, rfl, iteF ?_⟩
      refine ⟨.int i, rfl, (by show 2 ≤ sizeLine; decide), fun p hp => ?_⟩
      refine ⟨.int i, p, _, _, _, false, rfl, upd_same, tupcs, .base (.int i), kitAny_cons (b := false) (kit_ty (by decide +kernel)) (fun _ => kitAny_cons (b := false) (kit_ty (by decide +kernel)) (fun _ => kitAny_nil) (fun z => by cases z)) (fun z => by cases z), false, rfl, iteF ?_⟩
      refine ⟨.int i, rfl, rfl, _, rfl, iteF ?_⟩
      refine ⟨.int i, rfl, .int i, .ty "str", _, _, false, rfl, .ty "str", .base (.int i), kit_ty (by decide +kernel), _, rfl, iteF ?_⟩
      refine ⟨.int i, rfl, .int i, .ty "int", _, _, true, rfl, .ty "int", .base (.int i), kit_ty (by decide +kernel), true, rfl, iteT ?_⟩
      refine ⟨.int i, rfl, .int i, .ty "bool", _, _, false, rfl, .ty "bool", .base (.int i), kit_ty (by decide +kernel), ?_⟩
      refine ⟨.int i, rfl, .int i, .ty "bool", _, _, false, rfl, .ty "bool", .base (.int i), kit_ty (by decide +kernel), rfl, true, rfl, iteT ?_⟩
      refine ⟨.int i, rfl, .int i, rfl, rfl, ?_⟩
      show Q (.bl (decide (V.int i = V.int i))) _
      rw [decide_eq_true rfl]
      exact q _ (same_upd hp)
    | str x =>
      cases h1
      cases h2
      refine ⟨.str x, rfl, .str x, .ty "dict", _, _, false, rfl, .ty "dict", .base (.str x), kit_ty (by decide +kernel), false, rfl, iteF ?_⟩
      refine ⟨.str x, rfl, (by show 2 ≤ sizeLine; decide), fun p hp => ?_⟩
      refine ⟨.str x, p, _, _, _, false, rfl, upd_same, tupcs, .base (.str x), kitAny_cons (b := false) (kit_ty (by decide +kernel)) (fun _ => kitAny_cons (b := false) (kit_ty (by decide +kernel)) (fun _ => kitAny_nil) (fun z => by cases z)) (fun z => by cases z), false, rfl, iteF ?_⟩
      refine ⟨.str x, rfl, rfl, _, rfl, iteF ?_⟩
      refine ⟨.str x, rfl, .str x, .ty "str", _, _, true, rfl, .ty "str", .base (.str x), kit_ty (by decide +kernel), _, rfl, iteT ?_⟩
      refine ⟨.str x, rfl, .str x, rfl, rfl, true, (by rw [decide_eq_true rfl]), iteT ?_⟩
      refine ⟨.str x, rfl, .str x, .ty "str", _, _, true, rfl, .ty "str", .base (.str x), kit_ty (by decide +kernel), ?_⟩
      refine ⟨.str x, rfl, .str x, .ty "str", _, _, true, rfl, .ty "str", .base (.str x), kit_ty (by decide +kernel), rfl, ?_⟩
      exact q _ (same_upd hp)
    | list ds =>
      cases n with
      | zero => rw [okD] at hok; cases hok
      | succ m =>
      rw [okD, Bool.and_eq_true] at hok
      have hdl : ds.length ≤ 1000 := of_decide_eq_true hok.1
      cases h1 with
      | @lst a1 xs1 _ hs1 ha1 =>
      cases h2 with
      | @lst a2 xs2 _ hs2 ha2 =>
      have l1 := dpAll_len ha1
      have l2 := dpAll_len ha2
      refine ⟨.ref a2, rfl, .ref a2, .ty "dict", _, _, false, rfl, .ty "dict", tyx_lst hs2, kit_ty (by decide +kernel), false, rfl, iteF ?_⟩
      refine ⟨.ref a2, rfl, (by show 2 ≤ sizeLine; decide), fun p hp => ?_⟩
      have sm1 : Same H (upd H p (.tup [V.ty "tuple", V.ty "list"])) := same_upd hp
      refine ⟨.ref a2, p, _, _, _, true, rfl, upd_same, tupcs, tyx_lst (Same.seq sm1 hs2), kitAny_cons (b := false) (kit_ty (by decide +kernel)) (fun _ => kitAny_cons (b := true) (kit_ty (by decide +kernel)) (fun z => by cases z) (fun _ => rfl)) (fun z => by cases z), true, rfl, iteT ?_⟩
      refine ⟨.ref a1, rfl, (by show 2 ≤ sizeLine; decide), fun p2 hp2 => ?_⟩
      have sm2 : Same H (upd (upd H p (.tup [V.ty "tuple", V.ty "list"])) p2 (.tup [V.ty "tuple", V.ty "list"])) := same_of sm1 (Same.free sm1 hp2)
      refine ⟨.ref a1, p2, _, _, _, true, rfl, upd_same, tupcs, tyx_lst (Same.seq sm2 hs1), kitAny_cons (b := false) (kit_ty (by decide +kernel)) (fun _ => kitAny_cons (b := true) (kit_ty (by decide +kernel)) (fun z => by cases z) (fun _ => rfl)) (fun z => by cases z), true, rfl, iteF ?_⟩
      refine ⟨.ref a1, rfl, .ref a1, .ty "list", _, _, true, rfl, .ty "list", tyx_lst (Same.seq sm2 hs1), kit_ty (by decide +kernel), ?_⟩
      refine ⟨.ref a2, rfl, .ref a2, .ty "list", _, _, true, rfl, .ty "list", tyx_lst (Same.seq sm2 hs2), kit_ty (by decide +kernel), rfl, false, rfl, iteF ?_⟩
      refine ⟨.ref a1, rfl, a1, xs1, rfl, .inl (Same.seq sm2 hs1), .ref a2, rfl, a2, xs2, rfl, .inl (Same.seq sm2 hs2), rfl, _, rfl, ?_⟩
      rw [l1, l2, decide_eq_true rfl]
      refine iteF ?_
      have b62 : (1000 : Int) < 2 ^ 62 := by decide
      refine ⟨.ref a2, rfl, a2, xs2, rfl, .inl (Same.seq sm2 hs2), (xs2.length : Nat), rfl, by omega, by omega, fun D hD => ?_⟩
      have smD : Same H (upd (upd (upd H p (.tup [V.ty "tuple", V.ty "list"])) p2 (.tup [V.ty "tuple", V.ty "list"])) D (.lst [])) := same_of sm2 (Same.free sm2 hD)
      refine lc_range (lo := 0) (n := (xs2.length : Int).toNat) (fun i H' => Same H H' ∧ H' D = some (.lst [])) ⟨smD, upd_same⟩ (fun i H' hi ⟨sm, hd⟩ => ?_) (fun H' ⟨sm, hd⟩ => ?_)
      · have hi2 : i < ds.length := by
          rw [Int.toNat_natCast] at hi
          omega
        obtain ⟨w1, g1, e1⟩ := dpAll_at ha1 (List.getElem?_eq_getElem hi2)
        obtain ⟨w2, g2, e2⟩ := dpAll_at ha2 (List.getElem?_eq_getElem hi2)
        have ei : (0 : Int) + (i : Nat) = (i : Nat) := by omega
        rw [ei]
        refine ⟨rfl, .ref a1, rfl, .int (i : Nat), rfl, .inl ⟨a1, xs1, (i : Nat), w1, rfl, rfl, (Same.seq sm hs1), atI_nat g1, ?_⟩⟩
        refine ⟨.ref a2, rfl, .int (i : Nat), rfl, .inl ⟨a2, xs2, (i : Nat), w2, rfl, rfl, (Same.seq sm hs2), atI_nat g2, ?_⟩⟩
        refine hS m rfl _ _ _ _ ⟨w1, w2, _, rfl, dp_same sm _ _ e1, dp_same sm _ _ e2, okDs_at hok.2 (List.getElem?_eq_getElem hi2), fun H3 sm3 => ⟨true, rfl, iteF ⟨sm.trans sm3, sm3 _ _ hd⟩⟩⟩
      · refine ⟨Nat.zero_le _, fun z hz => ?_⟩
        refine ⟨.list [], .list [], .lst (.inl (.inl ?_)) .nil, .lst (.inl (.inl upd_same)) .nil, rfl, rfl, q _ (same_of sm (Same.free sm hz))⟩
        rw [upd_ne (ne_of_none hd hz)]
        exact hd
    | tuple ds =>
      cases n with
      | zero => rw [okD] at hok; cases hok
      | succ m =>
      rw [okD, Bool.and_eq_true] at hok
      have hdl : ds.length ≤ 1000 := of_decide_eq_true hok.1
      cases h1 with
      | @tup a1 xs1 _ hs1 ha1 =>
      cases h2 with
      | @tup a2 xs2 _ hs2 ha2 =>
      have l1 := dpAll_len ha1
      have l2 := dpAll_len ha2
      refine ⟨.ref a2, rfl, .ref a2, .ty "dict", _, _, false, rfl, .ty "dict", tyx_tup hs2, kit_ty (by decide +kernel), false, rfl, iteF ?_⟩
      refine ⟨.ref a2, rfl, (by show 2 ≤ sizeLine; decide), fun p hp => ?_⟩
      have sm1 : Same H (upd H p (.tup [V.ty "tuple", V.ty "list"])) := same_upd hp
      refine ⟨.ref a2, p, _, _, _, true, rfl, upd_same, tupcs, tyx_tup (sqT_same sm1 hs2), kitAny_cons (b := true) (kit_ty (by decide +kernel)) (fun z => by cases z) (fun _ => rfl), true, rfl, iteT ?_⟩
      refine ⟨.ref a1, rfl, (by show 2 ≤ sizeLine; decide), fun p2 hp2 => ?_⟩
      have sm2 : Same H (upd (upd H p (.tup [V.ty "tuple", V.ty "list"])) p2 (.tup [V.ty "tuple", V.ty "list"])) := same_of sm1 (Same.free sm1 hp2)
      refine ⟨.ref a1, p2, _, _, _, true, rfl, upd_same, tupcs, tyx_tup (sqT_same sm2 hs1), kitAny_cons (b := true) (kit_ty (by decide +kernel)) (fun z => by cases z) (fun _ => rfl), true, rfl, iteF ?_⟩
      refine ⟨.ref a1, rfl, .ref a1, .ty "list", _, _, false, rfl, .ty "list", tyx_tup (sqT_same sm2 hs1), kit_ty (by decide +kernel), ?_⟩
      refine ⟨.ref a2, rfl, .ref a2, .ty "list", _, _, false, rfl, .ty "list", tyx_tup (sqT_same sm2 hs2), kit_ty (by decide +kernel), rfl, false, rfl, iteF ?_⟩
      refine ⟨.ref a1, rfl, a1, xs1, rfl, .inr (sqT_same sm2 hs1), .ref a2, rfl, a2, xs2, rfl, .inr (sqT_same sm2 hs2), rfl, _, rfl, ?_⟩
      rw [l1, l2, decide_eq_true rfl]
      refine iteF ?_
      have b62 : (1000 : Int) < 2 ^ 62 := by decide
      refine ⟨.ref a2, rfl, a2, xs2, rfl, .inr (sqT_same sm2 hs2), (xs2.length : Nat), rfl, by omega, by omega, fun D hD => ?_⟩
      have smD : Same H (upd (upd (upd H p (.tup [V.ty "tuple", V.ty "list"])) p2 (.tup [V.ty "tuple", V.ty "list"])) D (.lst [])) := same_of sm2 (Same.free sm2 hD)
      refine lc_range (lo := 0) (n := (xs2.length : Int).toNat) (fun i H' => Same H H' ∧ H' D = some (.lst [])) ⟨smD, upd_same⟩ (fun i H' hi ⟨sm, hd⟩ => ?_) (fun H' ⟨sm, hd⟩ => ?_)
      · have hi2 : i < ds.length := by
          rw [Int.toNat_natCast] at hi
          omega
        obtain ⟨w1, g1, e1⟩ := dpAll_at ha1 (List.getElem?_eq_getElem hi2)
        obtain ⟨w2, g2, e2⟩ := dpAll_at ha2 (List.getElem?_eq_getElem hi2)
        have ei : (0 : Int) + (i : Nat) = (i : Nat) := by omega
        rw [ei]
        refine ⟨rfl, .ref a1, rfl, .int (i : Nat), rfl, .inr <| .inl ⟨a1, xs1, (i : Nat), w1, rfl, rfl, (sqT_same sm hs1), atI_nat g1, ?_⟩⟩
        refine ⟨.ref a2, rfl, .int (i : Nat), rfl, .inr <| .inl ⟨a2, xs2, (i : Nat), w2, rfl, rfl, (sqT_same sm hs2), atI_nat g2, ?_⟩⟩
        refine hS m rfl _ _ _ _ ⟨w1, w2, _, rfl, dp_same sm _ _ e1, dp_same sm _ _ e2, okDs_at hok.2 (List.getElem?_eq_getElem hi2), fun H3 sm3 => ⟨true, rfl, iteF ⟨sm.trans sm3, sm3 _ _ hd⟩⟩⟩
      · refine ⟨Nat.zero_le _, fun z hz => ?_⟩
        refine ⟨.list [], .list [], .lst (.inl (.inl ?_)) .nil, .lst (.inl (.inl upd_same)) .nil, rfl, rfl, q _ (same_of sm (Same.free sm hz))⟩
        rw [upd_ne (ne_of_none hd hz)]
        exact hd
    | dict _ => cases h1
theorem ok_alike {f : Addr} {fd : FuncData} (F : Df K mg "_law_alike" sAlike ["_law_found", "_law_due"] f fd) (B : Bt mg) : ∀ n, FnOk P w K mg base CX0 (n + 1) f fd ["_law_found", "_law_due"] (spAlike K n)
  | 0 => alike_step F B 0 (fun _ _ _ _ => False) ⟨fun _ _ _ _ h => h.elim, fun _ _ _ _ _ _ _ _ _ _ _ _ _ h => h.elim⟩ (fun m e => by omega)
  | n + 1 => alike_step F B (n + 1) (spAlike K n) (ok_alike F B n) (fun m e vs H Q E h => by
    have : m = n := by omega
    subst this
    exact h)
end
end Sv
set_option maxHeartbeats 8000000
namespace Sv
open PySem PySem.Spec PyProof.Rows L2 LamX NdefX
/-- the exception's dict, if there is one -/
def Dd (d : Option Addr) (H : Hp) : Prop := d = none ∨ ∃ (dd : Addr) (fs : List (Str × V)), d = some dd ∧ H dd = some (.xd fs)
theorem Dd.same {d : Option Addr} {H H' : Hp} (h : Dd d H) (e : Same H H') : Dd d H' := by
  rcases h with h | ⟨dd, fs, h1, h2⟩
  · exact .inl h
  · exact .inr ⟨dd, fs, h1, e _ _ h2⟩
def rIsD (K : PySem.W.Frag) (D a : Addr) (d : Option Addr) : List V → Hp → VK → Prop := fun xs H Q => ∃ (c : V) (cv : Value) (b : Bool), xs = [.ref a, c] ∧ (∀ u, RelV c u → u = cv) ∧ PySem.W.kitOne K (.ref D) cv = some b ∧ Dd d H ∧ Q (.bl b) H
theorem call_isD {X : Cx} {a D : Addr} {d : Option Addr} {oe : Obj} {pn : List (Addr × Obj)} (C : ExcC X.K D) (hz : Zc (.ref D) d oe) (hf : ∃ vs, oe.data = .fields vs) : CallR (X.suite a ((a, oe) :: pn)) (.builtin "isinstance") (rIsD X.K D a d) := by
  intro pins s σ H xs us Q I r h
  obtain ⟨c, cv, b, rfl, hcv, e, hd, q⟩ := h
  cases r with
  | cons rx rr =>
    cases rr with
    | cons rt rr =>
      cases rr
      cases rx
      have ec := hcv _ rt
      subst ec
      obtain ⟨hget, _⟩ := I.pin (a, oe) (List.mem_append.mpr (.inl List.mem_cons_self))
      obtain ⟨vs, hv⟩ := hf
      have hcl : (PySem.W.clsIn X.K D).isSome = true := by
        obtain ⟨cdD, hcD, _⟩ := PySem.W.any_some C.hd
        rw [hcD]
        rfl
      obtain ⟨od, J⟩ : ∃ od, PySem.W.InstAt s.heap a oe D od := by
        rcases hd with rfl | ⟨dd, fs, rfl, hdd⟩
        · refine ⟨none, hget, hz.1, by unfold PySem.W.notCls; rw [hv] <;> rfl, by rw [hz.2]; trivial⟩
        · have hx : ObjOk X.prog X.w H s.heap dd (.xd fs) := I.hok dd _ hdd
          obtain ⟨mA, hns, hr⟩ := hx
          obtain ⟨od, ho, hl⟩ := lookIn_ns hns
          exact ⟨some od, hget, hz.1, by unfold PySem.W.notCls; rw [hv] <;> rfl, by rw [hz.2]; exact ho⟩
      exact PySem.W.kia_one (PySem.W.kitx_exc hcl C.hg C.hk C.hs C.ha C.hn C.ht C.hm) I.kIn J e (fun z => nomatch z) fun tk => ⟨.bl b, H, I.kept (t' := tk) fun _ _ z => z, rfl, q⟩
theorem scError : FnScope ["_law_call", "e", "_law_kinds", "_law_names", "_law_name"] ["_law_call"] (defScope sError) := ⟨rfl, rfl, rfl, by decide +kernel, rfl, by decide +kernel, by decide +kernel⟩
theorem b_VE : bootBuiltins "ValueError" = some (.type "ValueError") := by decide +kernel
theorem pa_one {X : Cx} {e : Expr} {te : TE} (h : PE X e te) (hs : starEach [e] X.env = (false, eval e X.env) :: starEach [] X.env := by rfl) : PA X [e] (tCons te tNil) := pa_cons h pa_nil hs
theorem pe_never {X : Cx} {e : Expr} : PE X e (fun _ _ _ => False) := ⟨fun _ _ _ _ _ _ h => h.elim⟩
/-- the classes' names at the top -/
structure ErG (mg : Str → Option Value) (CS C0 C1 C2 C3 C4 C5 C6 C7 C8 C9 C10 C11 C12 C13 C14 : Addr) : Prop where
  gS : mg "ShelfError" = some (.ref CS)
  g0 : mg "InvalidPlan" = some (.ref C0)
  g1 : mg "InvalidState" = some (.ref C1)
  g2 : mg "InvalidCount" = some (.ref C2)
  g3 : mg "UnknownPlace" = some (.ref C3)
  g4 : mg "UnknownParcel" = some (.ref C4)
  g5 : mg "UnknownShelf" = some (.ref C5)
  g6 : mg "UnknownCarrier" = some (.ref C6)
  g7 : mg "InvalidEffect" = some (.ref C7)
  g8 : mg "DifferentSizes" = some (.ref C8)
  g9 : mg "InvalidParcels" = some (.ref C9)
  g10 : mg "Contradiction" = some (.ref C10)
  g11 : mg "InvalidArrangement" = some (.ref C11)
  g12 : mg "ShelfFull" = some (.ref C12)
  g13 : mg "ParcelCarried" = some (.ref C13)
  g14 : mg "InvalidSwap" = some (.ref C14)
  gV : mg "ValueError" = none
def kl (b0 b1 b2 b3 b4 b5 b6 b7 b8 b9 b10 b11 b12 b13 b14 : Bool) : List V := [.bl b0, .bl b1, .bl b2, .bl b3, .bl b4, .bl b5, .bl b6, .bl b7, .bl b8, .bl b9, .bl b10, .bl b11, .bl b12, .bl b13, .bl b14]
def nmL : List V := [.str "plan", .str "state", .str "count", .str "place", .str "parcel", .str "shelf", .str "carrier", .str "effect", .str "sizes", .str "parcels", .str "contradiction", .str "arrangement", .str "full", .str "carried", .str "swap"]
/-- how the class D answers, and its name -/
structure ErK (K : PySem.W.Frag) (CS C0 C1 C2 C3 C4 C5 C6 C7 C8 C9 C10 C11 C12 C13 C14 D : Addr) (nm : Str) (b0 b1 b2 b3 b4 b5 b6 b7 b8 b9 b10 b11 b12 b13 b14 : Bool) (j : Nat) : Prop where
  exc : ExcC K D
  ex : PySem.W.exmOne K (.ref D) (.ref CS) = some true
  ve : PySem.W.kitOne K (.ref D) (.type "ValueError") = some true
  k0 : PySem.W.kitOne K (.ref D) (.ref C0) = some b0
  k1 : PySem.W.kitOne K (.ref D) (.ref C1) = some b1
  k2 : PySem.W.kitOne K (.ref D) (.ref C2) = some b2
  k3 : PySem.W.kitOne K (.ref D) (.ref C3) = some b3
  k4 : PySem.W.kitOne K (.ref D) (.ref C4) = some b4
  k5 : PySem.W.kitOne K (.ref D) (.ref C5) = some b5
  k6 : PySem.W.kitOne K (.ref D) (.ref C6) = some b6
  k7 : PySem.W.kitOne K (.ref D) (.ref C7) = some b7
  k8 : PySem.W.kitOne K (.ref D) (.ref C8) = some b8
  k9 : PySem.W.kitOne K (.ref D) (.ref C9) = some b9
  k10 : PySem.W.kitOne K (.ref D) (.ref C10) = some b10
  k11 : PySem.W.kitOne K (.ref D) (.ref C11) = some b11
  k12 : PySem.W.kitOne K (.ref D) (.ref C12) = some b12
  k13 : PySem.W.kitOne K (.ref D) (.ref C13) = some b13
  k14 : PySem.W.kitOne K (.ref D) (.ref C14) = some b14
  cnt : ((kl b0 b1 b2 b3 b4 b5 b6 b7 b8 b9 b10 b11 b12 b13 b14).countP fun z => eqV z (.bl true)) = 1
  at_ : (kl b0 b1 b2 b3 b4 b5 b6 b7 b8 b9 b10 b11 b12 b13 b14)[j]? = some (.bl true)
  be : ∀ (m : Nat) (z : V), m < j → (kl b0 b1 b2 b3 b4 b5 b6 b7 b8 b9 b10 b11 b12 b13 b14)[m]? = some z → eqV z (.bl true) = false
  tag : nmL[j]? = some (.str nm)
def NewS (H : Hp) (t : List V) (Q : VK) : Prop := ∀ H' p, Same H H' → H p = none → H' p = some (.tup t) → Q (.ref p) H'
theorem NewS.imp {H H1 : Hp} {t : List V} {Q : VK} (h : NewS H t Q) (e : Same H H1) : NewS H1 t Q := fun H' p sm hp hq => h H' p (e.trans sm) (Same.free e hp) hq
/-- what is wanted of the errors and of the value -/
def ErrE (K : PySem.W.Frag) (CS C0 C1 C2 C3 C4 C5 C6 C7 C8 C9 C10 C11 C12 C13 C14 : Addr) (Q : VK) : XK := fun cls d H' => ∃ (D : Addr) (nm : Str) (b0 b1 b2 b3 b4 b5 b6 b7 b8 b9 b10 b11 b12 b13 b14 : Bool) (j : Nat), cls = .ref D ∧ Dd d H' ∧ ErK K CS C0 C1 C2 C3 C4 C5 C6 C7 C8 C9 C10 C11 C12 C13 C14 D nm b0 b1 b2 b3 b4 b5 b6 b7 b8 b9 b10 b11 b12 b13 b14 j ∧
  ((nm ≠ "plan" ∧ nm ≠ "swap" ∧ NewS H' [.str nm] Q) ∨ (nm = "plan" ∧ D = C0 ∧ ∃ (dd : Addr) (fs : List (Str × V)) (x y : V), d = some dd ∧ H' dd = some (.xd fs) ∧ fs.lookup ("part" : Str) = some x ∧ fs.lookup ("index" : Str) = some y ∧ NewS H' [.str "plan", x, y] Q) ∨ (nm = "swap" ∧ D = C14 ∧ XfC K C14 ∧ PySem.W.findIn K (.ref C14) "index" = some none ∧ ∃ (dd : Addr) (fs : List (Str × V)) (y : V), d = some dd ∧ H' dd = some (.xd fs) ∧ fs.lookup ("index" : Str) = some y ∧ NewS H' [.str "swap", y] Q))
def OkQ (Q : VK) : VK := fun _ H' => NewS H' [.str "none"] Q
def KnErr (P : Program) (w : World) (K : PySem.W.Frag) (mg : Str → Option Value) (base : Heap) (k : Nat) (CS C0 C1 C2 C3 C4 C5 C6 C7 C8 C9 C10 C11 C12 C13 C14 : Addr) : List Addr → Shared → Hp → V → VK → Prop := fun fs s H v Q =>
  ∃ (f : Addr) (L : LF) (fr : List Str) (dvs : List V) (ws : List (Option V)) (tl : List (Option V) → XK → Hp → VK → Prop), v = .ref f ∧ LamAt P w K mg base k fs s H f L fr dvs ws tl ∧ tl ws (ErrE K CS C0 C1 C2 C3 C4 C5 C6 C7 C8 C9 C10 C11 C12 C13 C14 Q) H (OkQ Q)
section
variable {P : Program} {w : World} {K : PySem.W.Frag} {mg : Str → Option Value} {base : Heap}
theorem ok_error {CS C0 C1 C2 C3 C4 C5 C6 C7 C8 C9 C10 C11 C12 C13 C14 : Addr} {f : Addr} {fd : FuncData} {k : Nat} (F : Df K mg "_law_error" sError ["_law_call"] f fd) (B : Bt mg) (G : ErG mg CS C0 C1 C2 C3 C4 C5 C6 C7 C8 C9 C10 C11 C12 C13 C14) (XF : XfC K C0) (xp : PySem.W.findIn K (.ref C0) "part" = some none) (xi : PySem.W.findIn K (.ref C0) "index" = some none) : FnSt P w K mg base (k + 1) f (KnErr P w K mg base k CS C0 C1 C2 C3 C4 C5 C6 C7 C8 C9 C10 C11 C12 C13 C14) := by
  refine fnst_of F.F scError F.b fun cdv A outer s H v Q hr e0 hK => ?_
  obtain ⟨fl, L, fr, dvs, ws, tl, rfl, LA, ht⟩ := hK
  refine ⟨_, pss_cons (ps_try_as (i := 1) (n := "e") (Wout := fun _ _ _ _ => False)
      (tb := fun W D σ H1 => σ[0]? = some (some (.ref fl)) ∧ H1 fl = some (LamO fl L) ∧ H1 L.c = some (CodeO L.c L.qual) ∧ DflAt H1 L.dV dvs ∧ ∃ (E' : XK) (Q' : VK), (∀ cls d H', E' cls d H' → W cls d σ H') ∧ (∀ v H', Q' v H' → D.nx σ H') ∧ tl ws E' H1 Q')
      (ts := fun a cls d D σ H1 => (∃ x0, σ = [some x0, some (.ref a), none, none, none]) ∧ ErrE K CS C0 C1 C2 C3 C4 C5 C6 C7 C8 C9 C10 C11 C12 C13 C14 D.rt cls d H1)
      rfl rfl scError.nd rfl rfl ⟨rfl, by decide, .inl G.gS⟩ L2.takes0 (fun W pn xe tk _ => ⟨fun pins s1 σ H1 D I h => ?_⟩) (fun a oe cls d pn hz hf => ⟨fun pins s1 σ H1 D I h => ?_⟩))
    (pss_one (ps_ret (pe_tup (pa_cons pe_str pa_nil)))), ?_⟩
  · -- the call
    refine (pss_one (ps_expr (pe_actL (CXg := CX0) (Eg := E0) (Ng := ["_law_call", "e", "_law_kinds", "_law_names", "_law_name"]) (qg := "_law_error") (sg := defScope sError) (g := f) (cdg := cdv) (pn := pn) (xe := xe) (i := 0) LA tk hr rfl (.inl rfl)))).run pins s1 σ H1 D I ?_
    obtain ⟨h1, h2, h3, h4, E', Q', h5, h6, h7⟩ := h
    exact ⟨h1, h2, h3, h4, E', Q', h5, h6, h7⟩
  · -- the suite
    obtain ⟨⟨x0, rfl⟩, D0, nm, b0, b1, b2, b3, b4, b5, b6, b7, b8, b9, b10, b11, b12, b13, b14, j, rfl, hDd, R, hQ⟩ := h
    rcases hQ with hQ | hQ | ⟨n1, eD, XS, xs, dd, fs, y, rfl, hx, li, hQ⟩
    · refine (pss_cons (ps_set (i := 2) scError.nd rfl (Or.inl rfl) (pe_lst (pa_cons (pe_callB (call_isD R.exc hz hf) (by rfl) B.isinstance b_isinstance (pa_cons (pv 1) (pa_cons (pe_glob (v := .ref C0) (by rfl) G.g0 rfl) pa_nil))) (pa_cons (pe_callB (call_isD R.exc hz hf) (by rfl) B.isinstance b_isinstance (pa_cons (pv 1) (pa_cons (pe_glob (v := .ref C1) (by rfl) G.g1 rfl) pa_nil))) (pa_cons (pe_callB (call_isD R.exc hz hf) (by rfl) B.isinstance b_isinstance (pa_cons (pv 1) (pa_cons (pe_glob (v := .ref C2) (by rfl) G.g2 rfl) pa_nil))) pa_nil)))))
        (pss_cons (ps_expr (pe_bm PySem.F.plainAttrs_list PySem.F.slot_list_extend PySem.F.type_list_extend mt_extend (pv 2) <| pa_one (pe_lst (pa_cons (pe_callB (call_isD R.exc hz hf) (by rfl) B.isinstance b_isinstance (pa_cons (pv 1) (pa_cons (pe_glob (v := .ref C3) (by rfl) G.g3 rfl) pa_nil))) (pa_cons (pe_callB (call_isD R.exc hz hf) (by rfl) B.isinstance b_isinstance (pa_cons (pv 1) (pa_cons (pe_glob (v := .ref C4) (by rfl) G.g4 rfl) pa_nil))) (pa_cons (pe_callB (call_isD R.exc hz hf) (by rfl) B.isinstance b_isinstance (pa_cons (pv 1) (pa_cons (pe_glob (v := .ref C5) (by rfl) G.g5 rfl) pa_nil))) pa_nil))))))
        (pss_cons (ps_expr (pe_bm PySem.F.plainAttrs_list PySem.F.slot_list_extend PySem.F.type_list_extend mt_extend (pv 2) <| pa_one (pe_lst (pa_cons (pe_callB (call_isD R.exc hz hf) (by rfl) B.isinstance b_isinstance (pa_cons (pv 1) (pa_cons (pe_glob (v := .ref C6) (by rfl) G.g6 rfl) pa_nil))) (pa_cons (pe_callB (call_isD R.exc hz hf) (by rfl) B.isinstance b_isinstance (pa_cons (pv 1) (pa_cons (pe_glob (v := .ref C7) (by rfl) G.g7 rfl) pa_nil))) (pa_cons (pe_callB (call_isD R.exc hz hf) (by rfl) B.isinstance b_isinstance (pa_cons (pv 1) (pa_cons (pe_glob (v := .ref C8) (by rfl) G.g8 rfl) pa_nil))) pa_nil))))))
        (pss_cons (ps_expr (pe_bm PySem.F.plainAttrs_list PySem.F.slot_list_extend PySem.F.type_list_extend mt_extend (pv 2) <| pa_one (pe_lst (pa_cons (pe_callB (call_isD R.exc hz hf) (by rfl) B.isinstance b_isinstance (pa_cons (pv 1) (pa_cons (pe_glob (v := .ref C9) (by rfl) G.g9 rfl) pa_nil))) (pa_cons (pe_callB (call_isD R.exc hz hf) (by rfl) B.isinstance b_isinstance (pa_cons (pv 1) (pa_cons (pe_glob (v := .ref C10) (by rfl) G.g10 rfl) pa_nil))) pa_nil)))))
        (pss_cons (ps_expr (pe_bm PySem.F.plainAttrs_list PySem.F.slot_list_extend PySem.F.type_list_extend mt_extend (pv 2) <| pa_one (pe_lst (pa_cons (pe_callB (call_isD R.exc hz hf) (by rfl) B.isinstance b_isinstance (pa_cons (pv 1) (pa_cons (pe_glob (v := .ref C11) (by rfl) G.g11 rfl) pa_nil))) (pa_cons (pe_callB (call_isD R.exc hz hf) (by rfl) B.isinstance b_isinstance (pa_cons (pv 1) (pa_cons (pe_glob (v := .ref C12) (by rfl) G.g12 rfl) pa_nil))) (pa_cons (pe_callB (call_isD R.exc hz hf) (by rfl) B.isinstance b_isinstance (pa_cons (pv 1) (pa_cons (pe_glob (v := .ref C13) (by rfl) G.g13 rfl) pa_nil))) pa_nil))))))
        (pss_cons (ps_expr (pe_bm PySem.F.plainAttrs_list PySem.F.slot_list_append PySem.F.type_list_append mt_append (pv 2) (pa_cons (pe_callB (call_isD R.exc hz hf) (by rfl) B.isinstance b_isinstance (pa_cons (pv 1) (pa_cons (pe_glob (v := .ref C14) (by rfl) G.g14 rfl) pa_nil))) pa_nil)))
        (pss_cons (ps_if (pw_or (pt_cmpR op_ne (pe_bm PySem.F.plainAttrs_list PySem.F.slot_list_count PySem.F.type_list_count mt_countV (pv 2) (pa_cons pe_bl pa_nil)) pe_int (nomark _))
            (pw_or1 (pt_not (pt_val (pe_callB (call_isD R.exc hz hf) (by rfl) B.isinstance b_isinstance (pa_cons (pv 1) (pa_cons (pe_ty (by rfl) G.gV b_VE) pa_nil))))))).pt pss_never pss_nil)
        (pss_cons (ps_set (i := 3) scError.nd rfl (Or.inl rfl) (pe_lst (pa_cons pe_str (pa_cons pe_str (pa_cons pe_str (pa_cons pe_str (pa_cons pe_str (pa_cons pe_str (pa_cons pe_str (pa_cons pe_str (pa_cons pe_str (pa_cons pe_str pa_nil))))))))))))
        (pss_cons (ps_set (i := 4) scError.nd rfl (Or.inl rfl) (pe_ix ix_list (pe_op op_cat (pv 3) (pe_lst (pa_cons pe_str (pa_cons pe_str (pa_cons pe_str (pa_cons pe_str (pa_cons pe_str pa_nil))))))) (pe_bm PySem.F.plainAttrs_list PySem.F.slot_list_index PySem.F.type_list_index mt_index (pv 2) (pa_cons pe_bl pa_nil)) (fun _ _ => rfl)))
        (pss_cons (ps_if (pt_cmpR op_eq (pv 4) pe_str (nomark _)) (pss_one (ps_ret (pe_tup (pa_cons (pv 4) (pa_cons (pe_xf XF xp hz hf (pv 1)) (pa_cons (pe_xf XF xi hz hf (pv 1)) pa_nil)))))) pss_nil)
        (pss_one (ps_ret (pe_ifExp (pt_cmpR op_eq (pv 4) pe_str (nomark _)) pe_never (pe_tup (pa_cons (pv 4) pa_nil))))))))))))))).run pins s1 _ H1 D I ?_
      refine ⟨.ref a, rfl, .ref C0, .ref C0, b0, rfl, fun u h => h, R.k0, hDd, .ref a, rfl, .ref C1, .ref C1, b1, rfl, fun u h => h, R.k1, hDd, .ref a, rfl, .ref C2, .ref C2, b2, rfl, fun u h => h, R.k2, hDd, (by show 3 ≤ sizeLine; decide), fun p hp => ?_⟩
      obtain ⟨H2, eH2⟩ : ∃ H', H' = upd H1 p (.lst [.bl b0, .bl b1, .bl b2]) := ⟨_, rfl⟩
      have sm2 : Same H1 H2 := by rw [eH2]; exact same_upd hp
      have hk2 : H2 p = some (.lst [.bl b0, .bl b1, .bl b2]) := by rw [eH2]; exact upd_same
      rw [← eH2]
      -- extend
      refine ⟨.ref p, rfl, .inl ⟨rfl, _, .inl (.inl hk2)⟩, .ref a, rfl, .ref C3, .ref C3, b3, rfl, fun u h => h, R.k3, (hDd.same sm2), .ref a, rfl, .ref C4, .ref C4, b4, rfl, fun u h => h, R.k4, (hDd.same sm2), .ref a, rfl, .ref C5, .ref C5, b5, rfl, fun u h => h, R.k5, (hDd.same sm2), (by show 3 ≤ sizeLine; decide), fun q2 hq2 => ?_⟩
      have pq2 : p ≠ q2 := ne_of_none hk2 hq2
      refine ⟨p, q2, _, _, rfl, rfl, by rw [upd_ne pq2]; exact hk2, upd_same, (by show 3 + 3 ≤ sizeLine; decide), ?_⟩
      obtain ⟨H3, eH3⟩ : ∃ H', H' = upd (upd H2 q2 (.lst [.bl b3, .bl b4, .bl b5])) p (.lst ([.bl b0, .bl b1, .bl b2] ++ [.bl b3, .bl b4, .bl b5])) := ⟨_, rfl⟩
      have sm3 : Same H1 H3 := by rw [eH3]; exact same_of (same_of sm2 (Same.free sm2 hq2)) hp
      have hk3 : H3 p = some (.lst [.bl b0, .bl b1, .bl b2, .bl b3, .bl b4, .bl b5]) := by rw [eH3]; exact upd_same
      rw [← eH3]
      -- extend
      refine ⟨.ref p, rfl, .inl ⟨rfl, _, .inl (.inl hk3)⟩, .ref a, rfl, .ref C6, .ref C6, b6, rfl, fun u h => h, R.k6, (hDd.same sm3), .ref a, rfl, .ref C7, .ref C7, b7, rfl, fun u h => h, R.k7, (hDd.same sm3), .ref a, rfl, .ref C8, .ref C8, b8, rfl, fun u h => h, R.k8, (hDd.same sm3), (by show 3 ≤ sizeLine; decide), fun q3 hq3 => ?_⟩
      have pq3 : p ≠ q3 := ne_of_none hk3 hq3
      refine ⟨p, q3, _, _, rfl, rfl, by rw [upd_ne pq3]; exact hk3, upd_same, (by show 6 + 3 ≤ sizeLine; decide), ?_⟩
      obtain ⟨H4, eH4⟩ : ∃ H', H' = upd (upd H3 q3 (.lst [.bl b6, .bl b7, .bl b8])) p (.lst ([.bl b0, .bl b1, .bl b2, .bl b3, .bl b4, .bl b5] ++ [.bl b6, .bl b7, .bl b8])) := ⟨_, rfl⟩
      have sm4 : Same H1 H4 := by rw [eH4]; exact same_of (same_of sm3 (Same.free sm3 hq3)) hp
      have hk4 : H4 p = some (.lst [.bl b0, .bl b1, .bl b2, .bl b3, .bl b4, .bl b5, .bl b6, .bl b7, .bl b8]) := by rw [eH4]; exact upd_same
      rw [← eH4]
      -- extend
      refine ⟨.ref p, rfl, .inl ⟨rfl, _, .inl (.inl hk4)⟩, .ref a, rfl, .ref C9, .ref C9, b9, rfl, fun u h => h, R.k9, (hDd.same sm4), .ref a, rfl, .ref C10, .ref C10, b10, rfl, fun u h => h, R.k10, (hDd.same sm4), (by show 2 ≤ sizeLine; decide), fun q4 hq4 => ?_⟩
      have pq4 : p ≠ q4 := ne_of_none hk4 hq4
      refine ⟨p, q4, _, _, rfl, rfl, by rw [upd_ne pq4]; exact hk4, upd_same, (by show 9 + 2 ≤ sizeLine; decide), ?_⟩
      obtain ⟨H5, eH5⟩ : ∃ H', H' = upd (upd H4 q4 (.lst [.bl b9, .bl b10])) p (.lst ([.bl b0, .bl b1, .bl b2, .bl b3, .bl b4, .bl b5, .bl b6, .bl b7, .bl b8] ++ [.bl b9, .bl b10])) := ⟨_, rfl⟩
      have sm5 : Same H1 H5 := by rw [eH5]; exact same_of (same_of sm4 (Same.free sm4 hq4)) hp
      have hk5 : H5 p = some (.lst [.bl b0, .bl b1, .bl b2, .bl b3, .bl b4, .bl b5, .bl b6, .bl b7, .bl b8, .bl b9, .bl b10]) := by rw [eH5]; exact upd_same
      rw [← eH5]
      -- extend
      refine ⟨.ref p, rfl, .inl ⟨rfl, _, .inl (.inl hk5)⟩, .ref a, rfl, .ref C11, .ref C11, b11, rfl, fun u h => h, R.k11, (hDd.same sm5), .ref a, rfl, .ref C12, .ref C12, b12, rfl, fun u h => h, R.k12, (hDd.same sm5), .ref a, rfl, .ref C13, .ref C13, b13, rfl, fun u h => h, R.k13, (hDd.same sm5), (by show 3 ≤ sizeLine; decide), fun q5 hq5 => ?_⟩
      have pq5 : p ≠ q5 := ne_of_none hk5 hq5
      refine ⟨p, q5, _, _, rfl, rfl, by rw [upd_ne pq5]; exact hk5, upd_same, (by show 11 + 3 ≤ sizeLine; decide), ?_⟩
      obtain ⟨H6, eH6⟩ : ∃ H', H' = upd (upd H5 q5 (.lst [.bl b11, .bl b12, .bl b13])) p (.lst ([.bl b0, .bl b1, .bl b2, .bl b3, .bl b4, .bl b5, .bl b6, .bl b7, .bl b8, .bl b9, .bl b10] ++ [.bl b11, .bl b12, .bl b13])) := ⟨_, rfl⟩
      have sm6 : Same H1 H6 := by rw [eH6]; exact same_of (same_of sm5 (Same.free sm5 hq5)) hp
      have hk6 : H6 p = some (.lst [.bl b0, .bl b1, .bl b2, .bl b3, .bl b4, .bl b5, .bl b6, .bl b7, .bl b8, .bl b9, .bl b10, .bl b11, .bl b12, .bl b13]) := by rw [eH6]; exact upd_same
      rw [← eH6]
      -- append
      refine ⟨.ref p, rfl, .inl ⟨rfl, _, .inl (.inl hk6)⟩, .ref a, rfl, .ref C14, .ref C14, b14, rfl, fun u h => h, R.k14, (hDd.same sm6), p, _, _, rfl, rfl, hk6, (by show 14 < sizeLine; decide), ?_⟩
      obtain ⟨H7, eH7⟩ : ∃ H', H' = upd H6 p (.lst ([.bl b0, .bl b1, .bl b2, .bl b3, .bl b4, .bl b5, .bl b6, .bl b7, .bl b8, .bl b9, .bl b10, .bl b11, .bl b12, .bl b13] ++ [.bl b14])) := ⟨_, rfl⟩
      have sm7 : Same H1 H7 := by rw [eH7]; exact same_of sm6 hp
      have hk7 : H7 p = some (.lst (kl b0 b1 b2 b3 b4 b5 b6 b7 b8 b9 b10 b11 b12 b13 b14)) := by rw [eH7]; exact upd_same
      rw [← eH7]
      -- the count
      refine ⟨.ref p, rfl, .inl ⟨rfl, _, .inl (.inl hk7)⟩, p, kl b0 b1 b2 b3 b4 b5 b6 b7 b8 b9 b10 b11 b12 b13 b14, .bl true, rfl, rfl, .inl (.inl hk7), rfl, rfl, rfl, _, rfl, ?_⟩
      rw [R.cnt]
      refine iteF ⟨.ref a, rfl, .ty "ValueError", .type "ValueError", true, rfl, fun u h => h, R.ve, (hDd.same sm7), true, rfl, iteF ?_⟩
      -- the names
      refine ⟨(by show 10 ≤ sizeLine; decide), fun q hq => ?_⟩
      refine ⟨.ref q, rfl, (by show 5 ≤ sizeLine; decide), fun r hr2 => ?_⟩
      have qr : q ≠ r := ne_of_none upd_same hr2
      refine ⟨q, r, _, _, rfl, rfl, by rw [upd_ne qr]; exact upd_same, upd_same, (by show 10 + 5 ≤ sizeLine; decide), fun u hu => ?_⟩
      obtain ⟨H8, eH8⟩ : ∃ H', H' = upd (upd (upd H7 q (.lst [V.str "plan", V.str "state", V.str "count", V.str "place", V.str "parcel", V.str "shelf", V.str "carrier", V.str "effect", V.str "sizes", V.str "parcels"])) r (.lst [V.str "contradiction", V.str "arrangement", V.str "full", V.str "carried", V.str "swap"])) u (.lst ([V.str "plan", V.str "state", V.str "count", V.str "place", V.str "parcel", V.str "shelf", V.str "carrier", V.str "effect", V.str "sizes", V.str "parcels"] ++ [V.str "contradiction", V.str "arrangement", V.str "full", V.str "carried", V.str "swap"])) := ⟨_, rfl⟩
      have sm8' : Same H7 H8 := by rw [eH8]; exact same_of (same_of (same_upd hq) (Same.free (same_upd hq) hr2)) (Same.free (same_of (same_upd hq) (Same.free (same_upd hq) hr2)) hu)
      have sm8 : Same H1 H8 := sm7.trans sm8'
      have hu8 : H8 u = some (.lst nmL) := by rw [eH8]; exact upd_same
      have hk8 := sm8' _ _ hk7
      rw [← eH8]
      refine ⟨.ref p, rfl, .inl ⟨rfl, _, .inl (.inl hk8)⟩, p, kl b0 b1 b2 b3 b4 b5 b6 b7 b8 b9 b10 b11 b12 b13 b14, .bl true, j, .bl true, rfl, rfl, .inl (.inl hk8), rfl, rfl, R.at_, rfl, R.be, u, nmL, (j : Nat), .str nm, rfl, rfl, .inl (.inl hu8), atI_nat R.tag, ?_⟩
      obtain ⟨n1, n2, hQ⟩ := hQ
      refine ⟨.str nm, rfl, rfl, _, rfl, ?_⟩
      rw [decide_eq_false fun z => n1 (V.str.inj z)]
      refine iteF ⟨.str nm, rfl, rfl, _, rfl, ?_⟩
      rw [decide_eq_false fun z => n2 (V.str.inj z)]
      exact iteF ⟨.str nm, rfl, (by show 1 ≤ sizeLine; decide), fun t ht => hQ _ t (same_of sm8 (Same.free sm8 ht)) (Same.free sm8 ht) upd_same⟩
    · refine (pss_cons (ps_set (i := 2) scError.nd rfl (Or.inl rfl) (pe_lst (pa_cons (pe_callB (call_isD R.exc hz hf) (by rfl) B.isinstance b_isinstance (pa_cons (pv 1) (pa_cons (pe_glob (v := .ref C0) (by rfl) G.g0 rfl) pa_nil))) (pa_cons (pe_callB (call_isD R.exc hz hf) (by rfl) B.isinstance b_isinstance (pa_cons (pv 1) (pa_cons (pe_glob (v := .ref C1) (by rfl) G.g1 rfl) pa_nil))) (pa_cons (pe_callB (call_isD R.exc hz hf) (by rfl) B.isinstance b_isinstance (pa_cons (pv 1) (pa_cons (pe_glob (v := .ref C2) (by rfl) G.g2 rfl) pa_nil))) pa_nil)))))
        (pss_cons (ps_expr (pe_bm PySem.F.plainAttrs_list PySem.F.slot_list_extend PySem.F.type_list_extend mt_extend (pv 2) <| pa_one (pe_lst (pa_cons (pe_callB (call_isD R.exc hz hf) (by rfl) B.isinstance b_isinstance (pa_cons (pv 1) (pa_cons (pe_glob (v := .ref C3) (by rfl) G.g3 rfl) pa_nil))) (pa_cons (pe_callB (call_isD R.exc hz hf) (by rfl) B.isinstance b_isinstance (pa_cons (pv 1) (pa_cons (pe_glob (v := .ref C4) (by rfl) G.g4 rfl) pa_nil))) (pa_cons (pe_callB (call_isD R.exc hz hf) (by rfl) B.isinstance b_isinstance (pa_cons (pv 1) (pa_cons (pe_glob (v := .ref C5) (by rfl) G.g5 rfl) pa_nil))) pa_nil))))))
        (pss_cons (ps_expr (pe_bm PySem.F.plainAttrs_list PySem.F.slot_list_extend PySem.F.type_list_extend mt_extend (pv 2) <| pa_one (pe_lst (pa_cons (pe_callB (call_isD R.exc hz hf) (by rfl) B.isinstance b_isinstance (pa_cons (pv 1) (pa_cons (pe_glob (v := .ref C6) (by rfl) G.g6 rfl) pa_nil))) (pa_cons (pe_callB (call_isD R.exc hz hf) (by rfl) B.isinstance b_isinstance (pa_cons (pv 1) (pa_cons (pe_glob (v := .ref C7) (by rfl) G.g7 rfl) pa_nil))) (pa_cons (pe_callB (call_isD R.exc hz hf) (by rfl) B.isinstance b_isinstance (pa_cons (pv 1) (pa_cons (pe_glob (v := .ref C8) (by rfl) G.g8 rfl) pa_nil))) pa_nil))))))
        (pss_cons (ps_expr (pe_bm PySem.F.plainAttrs_list PySem.F.slot_list_extend PySem.F.type_list_extend mt_extend (pv 2) <| pa_one (pe_lst (pa_cons (pe_callB (call_isD R.exc hz hf) (by rfl) B.isinstance b_isinstance (pa_cons (pv 1) (pa_cons (pe_glob (v := .ref C9) (by rfl) G.g9 rfl) pa_nil))) (pa_cons (pe_callB (call_isD R.exc hz hf) (by rfl) B.isinstance b_isinstance (pa_cons (pv 1) (pa_cons (pe_glob (v := .ref C10) (by rfl) G.g10 rfl) pa_nil))) pa_nil)))))
        (pss_cons (ps_expr (pe_bm PySem.F.plainAttrs_list PySem.F.slot_list_extend PySem.F.type_list_extend mt_extend (pv 2) <| pa_one (pe_lst (pa_cons (pe_callB (call_isD R.exc hz hf) (by rfl) B.isinstance b_isinstance (pa_cons (pv 1) (pa_cons (pe_glob (v := .ref C11) (by rfl) G.g11 rfl) pa_nil))) (pa_cons (pe_callB (call_isD R.exc hz hf) (by rfl) B.isinstance b_isinstance (pa_cons (pv 1) (pa_cons (pe_glob (v := .ref C12) (by rfl) G.g12 rfl) pa_nil))) (pa_cons (pe_callB (call_isD R.exc hz hf) (by rfl) B.isinstance b_isinstance (pa_cons (pv 1) (pa_cons (pe_glob (v := .ref C13) (by rfl) G.g13 rfl) pa_nil))) pa_nil))))))
        (pss_cons (ps_expr (pe_bm PySem.F.plainAttrs_list PySem.F.slot_list_append PySem.F.type_list_append mt_append (pv 2) (pa_cons (pe_callB (call_isD R.exc hz hf) (by rfl) B.isinstance b_isinstance (pa_cons (pv 1) (pa_cons (pe_glob (v := .ref C14) (by rfl) G.g14 rfl) pa_nil))) pa_nil)))
        (pss_cons (ps_if (pw_or (pt_cmpR op_ne (pe_bm PySem.F.plainAttrs_list PySem.F.slot_list_count PySem.F.type_list_count mt_countV (pv 2) (pa_cons pe_bl pa_nil)) pe_int (nomark _))
            (pw_or1 (pt_not (pt_val (pe_callB (call_isD R.exc hz hf) (by rfl) B.isinstance b_isinstance (pa_cons (pv 1) (pa_cons (pe_ty (by rfl) G.gV b_VE) pa_nil))))))).pt pss_never pss_nil)
        (pss_cons (ps_set (i := 3) scError.nd rfl (Or.inl rfl) (pe_lst (pa_cons pe_str (pa_cons pe_str (pa_cons pe_str (pa_cons pe_str (pa_cons pe_str (pa_cons pe_str (pa_cons pe_str (pa_cons pe_str (pa_cons pe_str (pa_cons pe_str pa_nil))))))))))))
        (pss_cons (ps_set (i := 4) scError.nd rfl (Or.inl rfl) (pe_ix ix_list (pe_op op_cat (pv 3) (pe_lst (pa_cons pe_str (pa_cons pe_str (pa_cons pe_str (pa_cons pe_str (pa_cons pe_str pa_nil))))))) (pe_bm PySem.F.plainAttrs_list PySem.F.slot_list_index PySem.F.type_list_index mt_index (pv 2) (pa_cons pe_bl pa_nil)) (fun _ _ => rfl)))
        (pss_cons (ps_if (pt_cmpR op_eq (pv 4) pe_str (nomark _)) (pss_one (ps_ret (pe_tup (pa_cons (pv 4) (pa_cons (pe_xf XF xp hz hf (pv 1)) (pa_cons (pe_xf XF xi hz hf (pv 1)) pa_nil)))))) pss_nil)
        (pss_one (ps_ret (pe_ifExp (pt_cmpR op_eq (pv 4) pe_str (nomark _)) pe_never (pe_tup (pa_cons (pv 4) pa_nil))))))))))))))).run pins s1 _ H1 D I ?_
      refine ⟨.ref a, rfl, .ref C0, .ref C0, b0, rfl, fun u h => h, R.k0, hDd, .ref a, rfl, .ref C1, .ref C1, b1, rfl, fun u h => h, R.k1, hDd, .ref a, rfl, .ref C2, .ref C2, b2, rfl, fun u h => h, R.k2, hDd, (by show 3 ≤ sizeLine; decide), fun p hp => ?_⟩
      obtain ⟨H2, eH2⟩ : ∃ H', H' = upd H1 p (.lst [.bl b0, .bl b1, .bl b2]) := ⟨_, rfl⟩
      have sm2 : Same H1 H2 := by rw [eH2]; exact same_upd hp
      have hk2 : H2 p = some (.lst [.bl b0, .bl b1, .bl b2]) := by rw [eH2]; exact upd_same
      rw [← eH2]
      -- extend
      refine ⟨.ref p, rfl, .inl ⟨rfl, _, .inl (.inl hk2)⟩, .ref a, rfl, .ref C3, .ref C3, b3, rfl, fun u h => h, R.k3, (hDd.same sm2), .ref a, rfl, .ref C4, .ref C4, b4, rfl, fun u h => h, R.k4, (hDd.same sm2), .ref a, rfl, .ref C5, .ref C5, b5, rfl, fun u h => h, R.k5, (hDd.same sm2), (by show 3 ≤ sizeLine; decide), fun q2 hq2 => ?_⟩
      have pq2 : p ≠ q2 := ne_of_none hk2 hq2
      refine ⟨p, q2, _, _, rfl, rfl, by rw [upd_ne pq2]; exact hk2, upd_same, (by show 3 + 3 ≤ sizeLine; decide), ?_⟩
      obtain ⟨H3, eH3⟩ : ∃ H', H' = upd (upd H2 q2 (.lst [.bl b3, .bl b4, .bl b5])) p (.lst ([.bl b0, .bl b1, .bl b2] ++ [.bl b3, .bl b4, .bl b5])) := ⟨_, rfl⟩
      have sm3 : Same H1 H3 := by rw [eH3]; exact same_of (same_of sm2 (Same.free sm2 hq2)) hp
      have hk3 : H3 p = some (.lst [.bl b0, .bl b1, .bl b2, .bl b3, .bl b4, .bl b5]) := by rw [eH3]; exact upd_same
      rw [← eH3]
      -- extend
      refine ⟨.ref p, rfl, .inl ⟨rfl, _, .inl (.inl hk3)⟩, .ref a, rfl, .ref C6, .ref C6, b6, rfl, fun u h => h, R.k6, (hDd.same sm3), .ref a, rfl, .ref C7, .ref C7, b7, rfl, fun u h => h, R.k7, (hDd.same sm3), .ref a, rfl, .ref C8, .ref C8, b8, rfl, fun u h => h, R.k8, (hDd.same sm3), (by show 3 ≤ sizeLine; decide), fun q3 hq3 => ?_⟩
      have pq3 : p ≠ q3 := ne_of_none hk3 hq3
      refine ⟨p, q3, _, _, rfl, rfl, by rw [upd_ne pq3]; exact hk3, upd_same, (by show 6 + 3 ≤ sizeLine; decide), ?_⟩
      obtain ⟨H4, eH4⟩ : ∃ H', H' = upd (upd H3 q3 (.lst [.bl b6, .bl b7, .bl b8])) p (.lst ([.bl b0, .bl b1, .bl b2, .bl b3, .bl b4, .bl b5] ++ [.bl b6, .bl b7, .bl b8])) := ⟨_, rfl⟩
      have sm4 : Same H1 H4 := by rw [eH4]; exact same_of (same_of sm3 (Same.free sm3 hq3)) hp
      have hk4 : H4 p = some (.lst [.bl b0, .bl b1, .bl b2, .bl b3, .bl b4, .bl b5, .bl b6, .bl b7, .bl b8]) := by rw [eH4]; exact upd_same
      rw [← eH4]
      -- extend
      refine ⟨.ref p, rfl, .inl ⟨rfl, _, .inl (.inl hk4)⟩, .ref a, rfl, .ref C9, .ref C9, b9, rfl, fun u h => h, R.k9, (hDd.same sm4), .ref a, rfl, .ref C10, .ref C10, b10, rfl, fun u h => h, R.k10, (hDd.same sm4), (by show 2 ≤ sizeLine; decide), fun q4 hq4 => ?_⟩
      have pq4 : p ≠ q4 := ne_of_none hk4 hq4
      refine ⟨p, q4, _, _, rfl, rfl, by rw [upd_ne pq4]; exact hk4, upd_same, (by show 9 + 2 ≤ sizeLine; decide), ?_⟩
      obtain ⟨H5, eH5⟩ : ∃ H', H' = upd (upd H4 q4 (.lst [.bl b9, .bl b10])) p (.lst ([.bl b0, .bl b1, .bl b2, .bl b3, .bl b4, .bl b5, .bl b6, .bl b7, .bl b8] ++ [.bl b9, .bl b10])) := ⟨_, rfl⟩
      have sm5 : Same H1 H5 := by rw [eH5]; exact same_of (same_of sm4 (Same.free sm4 hq4)) hp
      have hk5 : H5 p = some (.lst [.bl b0, .bl b1, .bl b2, .bl b3, .bl b4, .bl b5, .bl b6, .bl b7, .bl b8, .bl b9, .bl b10]) := by rw [eH5]; exact upd_same
      rw [← eH5]
      -- extend
      refine ⟨.ref p, rfl, .inl ⟨rfl, _, .inl (.inl hk5)⟩, .ref a, rfl, .ref C11, .ref C11, b11, rfl, fun u h => h, R.k11, (hDd.same sm5), .ref a, rfl, .ref C12, .ref C12, b12, rfl, fun u h => h, R.k12, (hDd.same sm5), .ref a, rfl, .ref C13, .ref C13, b13, rfl, fun u h => h, R.k13, (hDd.same sm5), (by show 3 ≤ sizeLine; decide), fun q5 hq5 => ?_⟩
      have pq5 : p ≠ q5 := ne_of_none hk5 hq5
      refine ⟨p, q5, _, _, rfl, rfl, by rw [upd_ne pq5]; exact hk5, upd_same, (by show 11 + 3 ≤ sizeLine; decide), ?_⟩
      obtain ⟨H6, eH6⟩ : ∃ H', H' = upd (upd H5 q5 (.lst [.bl b11, .bl b12, .bl b13])) p (.lst ([.bl b0, .bl b1, .bl b2, .bl b3, .bl b4, .bl b5, .bl b6, .bl b7, .bl b8, .bl b9, .bl b10] ++ [.bl b11, .bl b12, .bl b13])) := ⟨_, rfl⟩
      have sm6 : Same H1 H6 := by rw [eH6]; exact same_of (same_of sm5 (Same.free sm5 hq5)) hp
      have hk6 : H6 p = some (.lst [.bl b0, .bl b1, .bl b2, .bl b3, .bl b4, .bl b5, .bl b6, .bl b7, .bl b8, .bl b9, .bl b10, .bl b11, .bl b12, .bl b13]) := by rw [eH6]; exact upd_same
      rw [← eH6]
      -- append
      refine ⟨.ref p, rfl, .inl ⟨rfl, _, .inl (.inl hk6)⟩, .ref a, rfl, .ref C14, .ref C14, b14, rfl, fun u h => h, R.k14, (hDd.same sm6), p, _, _, rfl, rfl, hk6, (by show 14 < sizeLine; decide), ?_⟩
      obtain ⟨H7, eH7⟩ : ∃ H', H' = upd H6 p (.lst ([.bl b0, .bl b1, .bl b2, .bl b3, .bl b4, .bl b5, .bl b6, .bl b7, .bl b8, .bl b9, .bl b10, .bl b11, .bl b12, .bl b13] ++ [.bl b14])) := ⟨_, rfl⟩
      have sm7 : Same H1 H7 := by rw [eH7]; exact same_of sm6 hp
      have hk7 : H7 p = some (.lst (kl b0 b1 b2 b3 b4 b5 b6 b7 b8 b9 b10 b11 b12 b13 b14)) := by rw [eH7]; exact upd_same
      rw [← eH7]
      -- the count
      refine ⟨.ref p, rfl, .inl ⟨rfl, _, .inl (.inl hk7)⟩, p, kl b0 b1 b2 b3 b4 b5 b6 b7 b8 b9 b10 b11 b12 b13 b14, .bl true, rfl, rfl, .inl (.inl hk7), rfl, rfl, rfl, _, rfl, ?_⟩
      rw [R.cnt]
      refine iteF ⟨.ref a, rfl, .ty "ValueError", .type "ValueError", true, rfl, fun u h => h, R.ve, (hDd.same sm7), true, rfl, iteF ?_⟩
      -- the names
      refine ⟨(by show 10 ≤ sizeLine; decide), fun q hq => ?_⟩
      refine ⟨.ref q, rfl, (by show 5 ≤ sizeLine; decide), fun r hr2 => ?_⟩
      have qr : q ≠ r := ne_of_none upd_same hr2
      refine ⟨q, r, _, _, rfl, rfl, by rw [upd_ne qr]; exact upd_same, upd_same, (by show 10 + 5 ≤ sizeLine; decide), fun u hu => ?_⟩
      obtain ⟨H8, eH8⟩ : ∃ H', H' = upd (upd (upd H7 q (.lst [V.str "plan", V.str "state", V.str "count", V.str "place", V.str "parcel", V.str "shelf", V.str "carrier", V.str "effect", V.str "sizes", V.str "parcels"])) r (.lst [V.str "contradiction", V.str "arrangement", V.str "full", V.str "carried", V.str "swap"])) u (.lst ([V.str "plan", V.str "state", V.str "count", V.str "place", V.str "parcel", V.str "shelf", V.str "carrier", V.str "effect", V.str "sizes", V.str "parcels"] ++ [V.str "contradiction", V.str "arrangement", V.str "full", V.str "carried", V.str "swap"])) := ⟨_, rfl⟩
      have sm8' : Same H7 H8 := by rw [eH8]; exact same_of (same_of (same_upd hq) (Same.free (same_upd hq) hr2)) (Same.free (same_of (same_upd hq) (Same.free (same_upd hq) hr2)) hu)
      have sm8 : Same H1 H8 := sm7.trans sm8'
      have hu8 : H8 u = some (.lst nmL) := by rw [eH8]; exact upd_same
      have hk8 := sm8' _ _ hk7
      rw [← eH8]
      refine ⟨.ref p, rfl, .inl ⟨rfl, _, .inl (.inl hk8)⟩, p, kl b0 b1 b2 b3 b4 b5 b6 b7 b8 b9 b10 b11 b12 b13 b14, .bl true, j, .bl true, rfl, rfl, .inl (.inl hk8), rfl, rfl, R.at_, rfl, R.be, u, nmL, (j : Nat), .str nm, rfl, rfl, .inl (.inl hu8), atI_nat R.tag, ?_⟩
      obtain ⟨n1, rfl, dd, fs, x, y, rfl, hx, lp, li, hQ⟩ := hQ
      subst n1
      refine ⟨.str "plan", rfl, rfl, _, rfl, ?_⟩
      rw [decide_eq_true rfl]
      refine iteT ⟨.str "plan", rfl, .ref a, rfl, rfl, rfl, dd, fs, x, rfl, sm8 _ _ hx, lp, .ref a, rfl, rfl, rfl, dd, fs, y, rfl, sm8 _ _ hx, li, (by show 3 ≤ sizeLine; decide), fun t ht => hQ _ t (same_of sm8 (Same.free sm8 ht)) (Same.free sm8 ht) upd_same⟩
    · obtain rfl := eD.symm
      refine (pss_cons (ps_set (i := 2) scError.nd rfl (Or.inl rfl) (pe_lst (pa_cons (pe_callB (call_isD R.exc hz hf) (by rfl) B.isinstance b_isinstance (pa_cons (pv 1) (pa_cons (pe_glob (v := .ref C0) (by rfl) G.g0 rfl) pa_nil))) (pa_cons (pe_callB (call_isD R.exc hz hf) (by rfl) B.isinstance b_isinstance (pa_cons (pv 1) (pa_cons (pe_glob (v := .ref C1) (by rfl) G.g1 rfl) pa_nil))) (pa_cons (pe_callB (call_isD R.exc hz hf) (by rfl) B.isinstance b_isinstance (pa_cons (pv 1) (pa_cons (pe_glob (v := .ref C2) (by rfl) G.g2 rfl) pa_nil))) pa_nil)))))
        (pss_cons (ps_expr (pe_bm PySem.F.plainAttrs_list PySem.F.slot_list_extend PySem.F.type_list_extend mt_extend (pv 2) <| pa_one (pe_lst (pa_cons (pe_callB (call_isD R.exc hz hf) (by rfl) B.isinstance b_isinstance (pa_cons (pv 1) (pa_cons (pe_glob (v := .ref C3) (by rfl) G.g3 rfl) pa_nil))) (pa_cons (pe_callB (call_isD R.exc hz hf) (by rfl) B.isinstance b_isinstance (pa_cons (pv 1) (pa_cons (pe_glob (v := .ref C4) (by rfl) G.g4 rfl) pa_nil))) (pa_cons (pe_callB (call_isD R.exc hz hf) (by rfl) B.isinstance b_isinstance (pa_cons (pv 1) (pa_cons (pe_glob (v := .ref C5) (by rfl) G.g5 rfl) pa_nil))) pa_nil))))))
        (pss_cons (ps_expr (pe_bm PySem.F.plainAttrs_list PySem.F.slot_list_extend PySem.F.type_list_extend mt_extend (pv 2) <| pa_one (pe_lst (pa_cons (pe_callB (call_isD R.exc hz hf) (by rfl) B.isinstance b_isinstance (pa_cons (pv 1) (pa_cons (pe_glob (v := .ref C6) (by rfl) G.g6 rfl) pa_nil))) (pa_cons (pe_callB (call_isD R.exc hz hf) (by rfl) B.isinstance b_isinstance (pa_cons (pv 1) (pa_cons (pe_glob (v := .ref C7) (by rfl) G.g7 rfl) pa_nil))) (pa_cons (pe_callB (call_isD R.exc hz hf) (by rfl) B.isinstance b_isinstance (pa_cons (pv 1) (pa_cons (pe_glob (v := .ref C8) (by rfl) G.g8 rfl) pa_nil))) pa_nil))))))
        (pss_cons (ps_expr (pe_bm PySem.F.plainAttrs_list PySem.F.slot_list_extend PySem.F.type_list_extend mt_extend (pv 2) <| pa_one (pe_lst (pa_cons (pe_callB (call_isD R.exc hz hf) (by rfl) B.isinstance b_isinstance (pa_cons (pv 1) (pa_cons (pe_glob (v := .ref C9) (by rfl) G.g9 rfl) pa_nil))) (pa_cons (pe_callB (call_isD R.exc hz hf) (by rfl) B.isinstance b_isinstance (pa_cons (pv 1) (pa_cons (pe_glob (v := .ref C10) (by rfl) G.g10 rfl) pa_nil))) pa_nil)))))
        (pss_cons (ps_expr (pe_bm PySem.F.plainAttrs_list PySem.F.slot_list_extend PySem.F.type_list_extend mt_extend (pv 2) <| pa_one (pe_lst (pa_cons (pe_callB (call_isD R.exc hz hf) (by rfl) B.isinstance b_isinstance (pa_cons (pv 1) (pa_cons (pe_glob (v := .ref C11) (by rfl) G.g11 rfl) pa_nil))) (pa_cons (pe_callB (call_isD R.exc hz hf) (by rfl) B.isinstance b_isinstance (pa_cons (pv 1) (pa_cons (pe_glob (v := .ref C12) (by rfl) G.g12 rfl) pa_nil))) (pa_cons (pe_callB (call_isD R.exc hz hf) (by rfl) B.isinstance b_isinstance (pa_cons (pv 1) (pa_cons (pe_glob (v := .ref C13) (by rfl) G.g13 rfl) pa_nil))) pa_nil))))))
        (pss_cons (ps_expr (pe_bm PySem.F.plainAttrs_list PySem.F.slot_list_append PySem.F.type_list_append mt_append (pv 2) (pa_cons (pe_callB (call_isD R.exc hz hf) (by rfl) B.isinstance b_isinstance (pa_cons (pv 1) (pa_cons (pe_glob (v := .ref C14) (by rfl) G.g14 rfl) pa_nil))) pa_nil)))
        (pss_cons (ps_if (pw_or (pt_cmpR op_ne (pe_bm PySem.F.plainAttrs_list PySem.F.slot_list_count PySem.F.type_list_count mt_countV (pv 2) (pa_cons pe_bl pa_nil)) pe_int (nomark _))
            (pw_or1 (pt_not (pt_val (pe_callB (call_isD R.exc hz hf) (by rfl) B.isinstance b_isinstance (pa_cons (pv 1) (pa_cons (pe_ty (by rfl) G.gV b_VE) pa_nil))))))).pt pss_never pss_nil)
        (pss_cons (ps_set (i := 3) scError.nd rfl (Or.inl rfl) (pe_lst (pa_cons pe_str (pa_cons pe_str (pa_cons pe_str (pa_cons pe_str (pa_cons pe_str (pa_cons pe_str (pa_cons pe_str (pa_cons pe_str (pa_cons pe_str (pa_cons pe_str pa_nil))))))))))))
        (pss_cons (ps_set (i := 4) scError.nd rfl (Or.inl rfl) (pe_ix ix_list (pe_op op_cat (pv 3) (pe_lst (pa_cons pe_str (pa_cons pe_str (pa_cons pe_str (pa_cons pe_str (pa_cons pe_str pa_nil))))))) (pe_bm PySem.F.plainAttrs_list PySem.F.slot_list_index PySem.F.type_list_index mt_index (pv 2) (pa_cons pe_bl pa_nil)) (fun _ _ => rfl)))
        (pss_cons (ps_if (pt_cmpR op_eq (pv 4) pe_str (nomark _)) (pss_one (ps_ret (pe_tup (pa_cons (pv 4) (pa_cons (pe_xf XF xp hz hf (pv 1)) (pa_cons (pe_xf XF xi hz hf (pv 1)) pa_nil)))))) pss_nil)
        (pss_one (ps_ret (pe_ifExp (pt_cmpR op_eq (pv 4) pe_str (nomark _)) (pe_tup (pa_cons (pv 4) (pa_cons (pe_xf XS xs hz hf (pv 1)) pa_nil))) (pe_tup (pa_cons (pv 4) pa_nil))))))))))))))).run pins s1 _ H1 D I ?_
      refine ⟨.ref a, rfl, .ref C0, .ref C0, b0, rfl, fun u h => h, R.k0, hDd, .ref a, rfl, .ref C1, .ref C1, b1, rfl, fun u h => h, R.k1, hDd, .ref a, rfl, .ref C2, .ref C2, b2, rfl, fun u h => h, R.k2, hDd, (by show 3 ≤ sizeLine; decide), fun p hp => ?_⟩
      obtain ⟨H2, eH2⟩ : ∃ H', H' = upd H1 p (.lst [.bl b0, .bl b1, .bl b2]) := ⟨_, rfl⟩
      have sm2 : Same H1 H2 := by rw [eH2]; exact same_upd hp
      have hk2 : H2 p = some (.lst [.bl b0, .bl b1, .bl b2]) := by rw [eH2]; exact upd_same
      rw [← eH2]
      -- extend
      refine ⟨.ref p, rfl, .inl ⟨rfl, _, .inl (.inl hk2)⟩, .ref a, rfl, .ref C3, .ref C3, b3, rfl, fun u h => h, R.k3, (hDd.same sm2), .ref a, rfl, .ref C4, .ref C4, b4, rfl, fun u h => h, R.k4, (hDd.same sm2), .ref a, rfl, .ref C5, .ref C5, b5, rfl, fun u h => h, R.k5, (hDd.same sm2), (by show 3 ≤ sizeLine; decide), fun q2 hq2 => ?_⟩
      have pq2 : p ≠ q2 := ne_of_none hk2 hq2
      refine ⟨p, q2, _, _, rfl, rfl, by rw [upd_ne pq2]; exact hk2, upd_same, (by show 3 + 3 ≤ sizeLine; decide), ?_⟩
      obtain ⟨H3, eH3⟩ : ∃ H', H' = upd (upd H2 q2 (.lst [.bl b3, .bl b4, .bl b5])) p (.lst ([.bl b0, .bl b1, .bl b2] ++ [.bl b3, .bl b4, .bl b5])) := ⟨_, rfl⟩
      have sm3 : Same H1 H3 := by rw [eH3]; exact same_of (same_of sm2 (Same.free sm2 hq2)) hp
      have hk3 : H3 p = some (.lst [.bl b0, .bl b1, .bl b2, .bl b3, .bl b4, .bl b5]) := by rw [eH3]; exact upd_same
      rw [← eH3]
      -- extend
      refine ⟨.ref p, rfl, .inl ⟨rfl, _, .inl (.inl hk3)⟩, .ref a, rfl, .ref C6, .ref C6, b6, rfl, fun u h => h, R.k6, (hDd.same sm3), .ref a, rfl, .ref C7, .ref C7, b7, rfl, fun u h => h, R.k7, (hDd.same sm3), .ref a, rfl, .ref C8, .ref C8, b8, rfl, fun u h => h, R.k8, (hDd.same sm3), (by show 3 ≤ sizeLine; decide), fun q3 hq3 => ?_⟩
      have pq3 : p ≠ q3 := ne_of_none hk3 hq3
      refine ⟨p, q3, _, _, rfl, rfl, by rw [upd_ne pq3]; exact hk3, upd_same, (by show 6 + 3 ≤ sizeLine; decide), ?_⟩
      obtain ⟨H4, eH4⟩ : ∃ H', H' = upd (upd H3 q3 (.lst [.bl b6, .bl b7, .bl b8])) p (.lst ([.bl b0, .bl b1, .bl b2, .bl b3, .bl b4, .bl b5] ++ [.bl b6, .bl b7, .bl b8])) := ⟨_, rfl⟩
      have sm4 : Same H1 H4 := by rw [eH4]; exact same_of (same_of sm3 (Same.free sm3 hq3)) hp
      have hk4 : H4 p = some (.lst [.bl b0, .bl b1, .bl b2, .bl b3, .bl b4, .bl b5, .bl b6, .bl b7, .bl b8]) := by rw [eH4]; exact upd_same
      rw [← eH4]
      -- extend
      refine ⟨.ref p, rfl, .inl ⟨rfl, _, .inl (.inl hk4)⟩, .ref a, rfl, .ref C9, .ref C9, b9, rfl, fun u h => h, R.k9, (hDd.same sm4), .ref a, rfl, .ref C10, .ref C10, b10, rfl, fun u h => h, R.k10, (hDd.same sm4), (by show 2 ≤ sizeLine; decide), fun q4 hq4 => ?_⟩
      have pq4 : p ≠ q4 := ne_of_none hk4 hq4
      refine ⟨p, q4, _, _, rfl, rfl, by rw [upd_ne pq4]; exact hk4, upd_same, (by show 9 + 2 ≤ sizeLine; decide), ?_⟩
      obtain ⟨H5, eH5⟩ : ∃ H', H' = upd (upd H4 q4 (.lst [.bl b9, .bl b10])) p (.lst ([.bl b0, .bl b1, .bl b2, .bl b3, .bl b4, .bl b5, .bl b6, .bl b7, .bl b8] ++ [.bl b9, .bl b10])) := ⟨_, rfl⟩
      have sm5 : Same H1 H5 := by rw [eH5]; exact same_of (same_of sm4 (Same.free sm4 hq4)) hp
      have hk5 : H5 p = some (.lst [.bl b0, .bl b1, .bl b2, .bl b3, .bl b4, .bl b5, .bl b6, .bl b7, .bl b8, .bl b9, .bl b10]) := by rw [eH5]; exact upd_same
      rw [← eH5]
      -- extend
      refine ⟨.ref p, rfl, .inl ⟨rfl, _, .inl (.inl hk5)⟩, .ref a, rfl, .ref C11, .ref C11, b11, rfl, fun u h => h, R.k11, (hDd.same sm5), .ref a, rfl, .ref C12, .ref C12, b12, rfl, fun u h => h, R.k12, (hDd.same sm5), .ref a, rfl, .ref C13, .ref C13, b13, rfl, fun u h => h, R.k13, (hDd.same sm5), (by show 3 ≤ sizeLine; decide), fun q5 hq5 => ?_⟩
      have pq5 : p ≠ q5 := ne_of_none hk5 hq5
      refine ⟨p, q5, _, _, rfl, rfl, by rw [upd_ne pq5]; exact hk5, upd_same, (by show 11 + 3 ≤ sizeLine; decide), ?_⟩
      obtain ⟨H6, eH6⟩ : ∃ H', H' = upd (upd H5 q5 (.lst [.bl b11, .bl b12, .bl b13])) p (.lst ([.bl b0, .bl b1, .bl b2, .bl b3, .bl b4, .bl b5, .bl b6, .bl b7, .bl b8, .bl b9, .bl b10] ++ [.bl b11, .bl b12, .bl b13])) := ⟨_, rfl⟩
      have sm6 : Same H1 H6 := by rw [eH6]; exact same_of (same_of sm5 (Same.free sm5 hq5)) hp
      have hk6 : H6 p = some (.lst [.bl b0, .bl b1, .bl b2, .bl b3, .bl b4, .bl b5, .bl b6, .bl b7, .bl b8, .bl b9, .bl b10, .bl b11, .bl b12, .bl b13]) := by rw [eH6]; exact upd_same
      rw [← eH6]
      -- append
      refine ⟨.ref p, rfl, .inl ⟨rfl, _, .inl (.inl hk6)⟩, .ref a, rfl, .ref C14, .ref C14, b14, rfl, fun u h => h, R.k14, (hDd.same sm6), p, _, _, rfl, rfl, hk6, (by show 14 < sizeLine; decide), ?_⟩
      obtain ⟨H7, eH7⟩ : ∃ H', H' = upd H6 p (.lst ([.bl b0, .bl b1, .bl b2, .bl b3, .bl b4, .bl b5, .bl b6, .bl b7, .bl b8, .bl b9, .bl b10, .bl b11, .bl b12, .bl b13] ++ [.bl b14])) := ⟨_, rfl⟩
      have sm7 : Same H1 H7 := by rw [eH7]; exact same_of sm6 hp
      have hk7 : H7 p = some (.lst (kl b0 b1 b2 b3 b4 b5 b6 b7 b8 b9 b10 b11 b12 b13 b14)) := by rw [eH7]; exact upd_same
      rw [← eH7]
      -- the count
      refine ⟨.ref p, rfl, .inl ⟨rfl, _, .inl (.inl hk7)⟩, p, kl b0 b1 b2 b3 b4 b5 b6 b7 b8 b9 b10 b11 b12 b13 b14, .bl true, rfl, rfl, .inl (.inl hk7), rfl, rfl, rfl, _, rfl, ?_⟩
      rw [R.cnt]
      refine iteF ⟨.ref a, rfl, .ty "ValueError", .type "ValueError", true, rfl, fun u h => h, R.ve, (hDd.same sm7), true, rfl, iteF ?_⟩
      -- the names
      refine ⟨(by show 10 ≤ sizeLine; decide), fun q hq => ?_⟩
      refine ⟨.ref q, rfl, (by show 5 ≤ sizeLine; decide), fun r hr2 => ?_⟩
      have qr : q ≠ r := ne_of_none upd_same hr2
      refine ⟨q, r, _, _, rfl, rfl, by rw [upd_ne qr]; exact upd_same, upd_same, (by show 10 + 5 ≤ sizeLine; decide), fun u hu => ?_⟩
      obtain ⟨H8, eH8⟩ : ∃ H', H' = upd (upd (upd H7 q (.lst [V.str "plan", V.str "state", V.str "count", V.str "place", V.str "parcel", V.str "shelf", V.str "carrier", V.str "effect", V.str "sizes", V.str "parcels"])) r (.lst [V.str "contradiction", V.str "arrangement", V.str "full", V.str "carried", V.str "swap"])) u (.lst ([V.str "plan", V.str "state", V.str "count", V.str "place", V.str "parcel", V.str "shelf", V.str "carrier", V.str "effect", V.str "sizes", V.str "parcels"] ++ [V.str "contradiction", V.str "arrangement", V.str "full", V.str "carried", V.str "swap"])) := ⟨_, rfl⟩
      have sm8' : Same H7 H8 := by rw [eH8]; exact same_of (same_of (same_upd hq) (Same.free (same_upd hq) hr2)) (Same.free (same_of (same_upd hq) (Same.free (same_upd hq) hr2)) hu)
      have sm8 : Same H1 H8 := sm7.trans sm8'
      have hu8 : H8 u = some (.lst nmL) := by rw [eH8]; exact upd_same
      have hk8 := sm8' _ _ hk7
      rw [← eH8]
      refine ⟨.ref p, rfl, .inl ⟨rfl, _, .inl (.inl hk8)⟩, p, kl b0 b1 b2 b3 b4 b5 b6 b7 b8 b9 b10 b11 b12 b13 b14, .bl true, j, .bl true, rfl, rfl, .inl (.inl hk8), rfl, rfl, R.at_, rfl, R.be, u, nmL, (j : Nat), .str nm, rfl, rfl, .inl (.inl hu8), atI_nat R.tag, ?_⟩
      subst n1
      refine ⟨.str "swap", rfl, rfl, _, rfl, ?_⟩
      rw [decide_eq_false (by decide)]
      refine iteF ⟨.str "swap", rfl, rfl, _, rfl, ?_⟩
      rw [decide_eq_true rfl]
      exact iteT ⟨.str "swap", rfl, .ref a, rfl, rfl, rfl, dd, fs, y, rfl, sm8 _ _ hx, li, (by show 2 ≤ sizeLine; decide), fun t ht => hQ _ t (same_of sm8 (Same.free sm8 ht)) (Same.free sm8 ht) upd_same⟩
  · refine ⟨rfl, LA.fn, LA.code, LA.dfl, _, _, fun cls d H' h => ?_, fun v H' h => ?_, ht⟩
    · obtain ⟨D0, nm, b0, b1, b2, b3, b4, b5, b6, b7, b8, b9, b10, b11, b12, b13, b14, j, rfl, hd, R, hq⟩ := h
      exact ⟨true, R.ex, fun _ a _ => ⟨⟨_, rfl⟩, D0, nm, b0, b1, b2, b3, b4, b5, b6, b7, b8, b9, b10, b11, b12, b13, b14, j, rfl, hd, R, hq⟩, fun z => by cases z⟩
    · exact ⟨(by show 1 ≤ sizeLine; decide), fun t ht2 => h _ t (same_upd ht2) ht2 upd_same⟩
end
end Sv
set_option maxHeartbeats 8000000
namespace Sv
open PySem PySem.Spec PyProof.Rows L2
@[irreducible] def qNext : Sp := spNext
theorem go_next {H : Hp} {h l : Addr} {lim : Int} {Q : VK} {E : XK} (LH : LawH H h l) (p1 : 0 < lim) (p2 : lim < 2 ^ 64) (q : ∀ (r : Nat) H', (r : Int) < lim → LawH H' h l → SameX h l H H' → Q (.int (r : Nat)) H') : qNext [.ref h, .int lim] H Q E := by
  unfold qNext
  exact ⟨h, l, lim, rfl, LH, p1, p2, fun r H' r0 r1 L k => by
    obtain ⟨n, rfl⟩ : ∃ n : Nat, r = (n : Int) := ⟨r.toNat, (Int.toNat_of_nonneg r0).symm⟩
    exact q n H' r1 L k⟩
/-- h and l stand, what was tracked but them is kept, and x is kept, too -/
structure St (h l : Addr) (H H' : Hp) : Prop where
  law : LawH H' h l
  k : SameX h l H H'
theorem St.next {h l : Addr} {H H1 H2 : Hp} (a : St h l H H1) (L : LawH H2 h l) (x : SameX h l H1 H2) : St h l H H2 := ⟨L, a.k.trans x⟩
theorem St.same {h l : Addr} {H H1 H2 : Hp} (a : St h l H H1) (e : Same H1 H2) : St h l H H2 := ⟨a.law.same e, fun b o h1 h2 q => e b o (a.k b o h1 h2 q)⟩
theorem LawH.nh {H : Hp} {h l f : Addr} (x : LawH H h l) (hf : H f = none) : f ≠ h ∧ f ≠ l := by
  obtain ⟨m, i, cs, e1, e2, _⟩ := x.ex
  exact ⟨(ne_of_none e1 hf).symm, (ne_of_none e2 hf).symm⟩
theorem LawH.upd {H : Hp} {h l f : Addr} {o : HO} (x : LawH H h l) (h1 : f ≠ h) (h2 : f ≠ l) : LawH (L2.upd H f o) h l := by
  obtain ⟨m, i, cs, e1, e2, e3⟩ := x.ex
  exact ⟨m, i, cs, by rw [upd_ne (Ne.symm h1)]; exact e1, by rw [upd_ne (Ne.symm h2)]; exact e2, e3⟩
theorem St.upd {h l f : Addr} {H H1 : Hp} {o : HO} (a : St h l H H1) (hf : H f = none) (h1 : f ≠ h) (h2 : f ≠ l) : St h l H (L2.upd H1 f o) := by
  refine ⟨a.law.upd h1 h2, fun b u b1 b2 q => ?_⟩
  rw [upd_ne (ne_of_none q hf)]
  exact a.k b u b1 b2 q
theorem St.none {h l f : Addr} {H H1 : Hp} (a : St h l H H1) (hf : H1 f = Option.none) : H f = Option.none := by
  cases q : H f with
  | none => rfl
  | some o =>
    obtain ⟨n1, n2⟩ := a.law.nh hf
    rw [a.k f o n1 n2 q] at hf
    cases hf
theorem St.trans {h l : Addr} {H H1 H2 : Hp} (a : St h l H H1) (b : St h l H1 H2) : St h l H H2 := ⟨b.law, a.k.trans b.k⟩
theorem St.refl {h l : Addr} {H : Hp} (x : LawH H h l) : St h l H H := ⟨x, fun _ _ _ _ q => q⟩
theorem sqT_x {K : PySem.W.Frag} {H H1 : Hp} {h l a : Addr} {xs : List V} (L : LawH H h l) (e : SameX h l H H1) (s : SqT K H a xs) : SqT K H1 a xs := by
  obtain ⟨m, i, cs, e1, e2, _⟩ := L.ex
  rcases s with (s | ⟨o, s⟩) | s
  · exact .inl (.inl (e _ _ (fun z => by rw [z, e1] at s; cases s) (fun z => by rw [z, e2] at s; cases s) s))
  · exact .inl (.inr ⟨o, e _ _ (fun z => by rw [z, e1] at s; cases s) (fun z => by rw [z, e2] at s; cases s) s⟩)
  · exact .inr s
theorem paired_x {K : PySem.W.Frag} {H H' : Hp} {h l : Addr} (L : LawH H h l) (e : SameX h l H H') : ∀ {qs : List Addr} {rs : List Ro}, Paired (fun q r => SqT K H q (rV r)) qs rs → Paired (fun q r => SqT K H' q (rV r)) qs rs
  | _, _, .nil => .nil
  | _, _, .cons h t => .cons (sqT_x L e h) (paired_x L e t)
theorem RtAt.x {K : PySem.W.Frag} {H H' : Hp} {h l b : Addr} {rs : List Ro} (x : RtAt K H b rs) (L : LawH H h l) (e : SameX h l H H') : RtAt K H' b rs := by
  obtain ⟨qs, h1, h2⟩ := x.ex
  exact ⟨qs, sqT_x L e h1, paired_x L e h2⟩
theorem PlanAt.x {K : PySem.W.Frag} {H H' : Hp} {h l p : Addr} {zs : List Int} {rs : List Ro} (x : PlanAt K H p zs rs) (L : LawH H h l) (e : SameX h l H H') : PlanAt K H' p zs rs := by
  obtain ⟨a, b, h1, h2, h3⟩ := x.ex
  exact ⟨a, b, sqT_x L e h1, sqT_x L e h2, h3.x L e⟩
theorem paired_imp {K : PySem.W.Frag} {H H' : Hp} (e : ∀ a xs, SqT K H a xs → SqT K H' a xs) : ∀ {qs : List Addr} {rs : List Ro}, Paired (fun q r => SqT K H q (rV r)) qs rs → Paired (fun q r => SqT K H' q (rV r)) qs rs
  | _, _, .nil => .nil
  | _, _, .cons h t => .cons (e _ _ h) (paired_imp e t)
theorem paired_snoc {K : PySem.W.Frag} {H : Hp} {q : Addr} {r : Ro} (h : SqT K H q (rV r)) : ∀ {qs : List Addr} {rs : List Ro}, Paired (fun q r => SqT K H q (rV r)) qs rs → Paired (fun q r => SqT K H q (rV r)) (qs ++ [q]) (rs ++ [r])
  | _, _, .nil => .cons h .nil
  | _, _, .cons g t => .cons g (paired_snoc h t)
theorem sqT_lst {K : PySem.W.Frag} {H : Hp} {f a : Addr} {xs ys : List V} {o : HO} (hf : H f = some (.lst ys)) (s : SqT K H a xs) : SqT K (upd H f o) a xs := by
  rcases s with (s | ⟨u, s⟩) | s
  · exact .inl (.inl (by rw [upd_ne (fun z => by rw [z, hf] at s; cases s)]; exact s))
  · exact .inl (.inr ⟨u, by rw [upd_ne (fun z => by rw [z, hf] at s; cases s)]; exact s⟩)
  · exact .inr s
section
variable {P : Program} {w : World} {K : PySem.W.Frag} {mg : Str → Option Value} {base : Heap}
def nPla : List Str := ["_law_h", "_law_shelves", "_law_carriers", "_law_sizes", "_law_shelf", "_law_routes", "_law_carrier", "_law_entries", "_law_k"]
theorem scPlan : FnScope nPla ["_law_h", "_law_shelves", "_law_carriers"] (defScope sPlan) := ⟨rfl, rfl, rfl, by decide +kernel, rfl, by decide +kernel, by decide +kernel⟩
end
end Sv
set_option maxHeartbeats 4000000
namespace Sv
open PySem PySem.Spec PyProof.Rows L2
theorem scCheckCount : FnScope ["count"] ["count"] (defScope sCheckCount) := ⟨rfl, rfl, rfl, by decide +kernel, rfl, by decide +kernel, by decide +kernel⟩
theorem scCheckBetween : FnScope ["number", "low", "high"] ["number", "low", "high"] (defScope sCheckBetween) := ⟨rfl, rfl, rfl, by decide +kernel, rfl, by decide +kernel, by decide +kernel⟩
section
variable {P : Program} {w : World} {K : PySem.W.Frag} {mg : Str → Option Value} {base : Heap}
def vN (e : List Nat) : List V := e.map fun (n : Nat) => V.int (n : Int)
theorem vN_len (e : List Nat) : (vN e).length = e.length := by unfold vN; simp
theorem vN_get {e : List Nat} {i : Nat} (h : i < e.length) : (vN e)[i]? = some (.int (ap e i : Nat)) := by
  unfold vN
  rw [List.getElem?_map, ap_at h]
  rfl
end
end Sv
set_option maxHeartbeats 4000000
namespace Sv
open PySem PySem.Spec PyProof.Rows L2
section
variable {P : Program} {w : World} {K : PySem.W.Frag} {mg : Str → Option Value} {base : Heap}
abbrev CtOk (n : Int) : Prop := -1000000000000000000 ≤ n ∧ n ≤ 1000000000000000000
def spCheckCount (CC : Addr) : Sp := fun vs H Q E => ∃ n : Int, vs = [.int n] ∧ (CtOk n → Q .non H) ∧ (¬ CtOk n → E (.ref CC) none H)
def spCheckBetween (CC : Addr) : Sp := fun vs H Q E => ∃ n lo hi : Int, vs = [.int n, .int lo, .int hi] ∧ ((lo ≤ n ∧ n ≤ hi) → Q .non H) ∧ (¬ (lo ≤ n ∧ n ≤ hi) → E (.ref CC) none H)
theorem ok_checkBetween (T : Bd P K mg) : FnOk P w K mg base (L2.CX P w) 2 T.aCheckBetween T.dCheckBetween ["number", "low", "high"] (spCheckBetween T.CC) := by
  have GW : FnOk P w K mg base CX0 1 T.aWithin T.dWithin ["number", "low", "high"] spWithin := ok_within T.Within.F T.bt.isinstance T.bt.bool T.bt.int
  refine T.CheckBetween.F.okX scCheckBetween (fun vs H Q E h => ?_) (fun cdv A outer s H vs Q E hr h => ?_)
  · obtain ⟨n, lo, hi, rfl, _⟩ := h
    rfl
  · obtain ⟨n, lo, hi, rfl, q1, q2⟩ := h
    refine ⟨_, pss_one (ps_if (pt_not (pt_val (pe_call GW hr (by rfl) T.Within.g T.Within.F.kp T.Within.b .nil pass0 (pa_cons (pv 0) (pa_cons (pv 1) (pa_cons (pv 2) pa_nil))))))
      (pss_one (ps_raise rfl (takes_of rfl rfl rfl rfl) (pmk_own PySem.F.excBase_ValueError T.cc.x T.cc.g T.cc.k (raises_own T.cc.b T.cc.t) rfl))) pss_nil), ?_⟩
    refine ⟨.int n, rfl, .int lo, rfl, .int hi, rfl, n, lo, hi, rfl, _, rfl, ?_⟩
    by_cases h : lo ≤ n ∧ n ≤ hi
    · rw [decide_eq_true h]
      exact iteF (q1 h)
    · rw [decide_eq_false h]
      exact iteT (q2 h)
theorem ok_checkCount (T : Bd P K mg) : FnOk P w K mg base (L2.CX P w) 3 T.aCheckCount T.dCheckCount ["count"] (spCheckCount T.CC) := by
  have GB : FnOk P w K mg base (L2.CX P w) 2 T.aCheckBetween T.dCheckBetween ["number", "low", "high"] (spCheckBetween T.CC) := ok_checkBetween T
  obtain ⟨tl, hlim⟩ := T.lim
  refine T.CheckCount.F.okX scCheckCount (fun vs H Q E h => ?_) (fun cdv A outer s H vs Q E hr h => ?_)
  · obtain ⟨n, rfl, _⟩ := h
    rfl
  · obtain ⟨n, rfl, q1, q2⟩ := h
    exact ⟨_, pss_one (ps_expr (pe_call (E := E) GB hr (by rfl) T.CheckBetween.g T.CheckBetween.F.kp T.CheckBetween.b .nil (passes_call (takes_of rfl rfl rfl rfl) fun _ _ _ _ h => h) (pa_cons (pv 0) (pa_cons (pe_un un_neg (pe_glob (v := .int 1000000000000000000) (by rfl) hlim ⟨_, rfl⟩)) (pa_cons (pe_glob (v := .int 1000000000000000000) (by rfl) hlim ⟨_, rfl⟩) pa_nil))))),
      .int n, rfl, _, rfl, n, -1000000000000000000, 1000000000000000000, rfl, q1, q2⟩
theorem vN_snoc {e : List Nat} {i : Nat} (h : i < e.length) : vN (e.take (i + 1)) = vN (e.take i) ++ [.int (ap e i : Nat)] := by
  unfold vN
  rw [List.take_add_one, ap_at h, List.map_append]
  rfl
theorem vN_lt {e : List Nat} {i : Nat} {x : V} (h : (vN e)[i]? = some x) : i < e.length ∧ x = .int (ap e i : Nat) := by
  have h1 := (List.getElem?_eq_some_iff.mp h).1
  rw [vN_len] at h1
  rw [vN_get h1] at h
  exact ⟨h1, (Option.some.inj h).symm⟩
/-- hands back a new tuple of the numbers g -/
def NewT (H : Hp) (g : List Nat) (Q : VK) : Prop := ∀ H' p, Same H H' → H p = none → H' p = some (.tup (vN g)) → Q (.ref p) H'
theorem rep_one_list (n : Nat) (v : V) : (List.replicate n [v]).flatten = List.replicate n v := by
  induction n with
  | zero => rfl
  | succ n ih => rw [List.replicate_succ, List.flatten_cons, ih]; rfl
theorem vN_set (e : List Nat) (i y : Nat) : (vN e).set i (.int (y : Int)) = vN (e.set i y) := by
  unfold vN
  rw [List.map_set]
end
end Sv
set_option maxHeartbeats 4000000
namespace Sv
open PySem PySem.Spec PyProof.Rows L2
section
variable {P : Program} {w : World} {K : PySem.W.Frag} {mg : Str → Option Value} {base : Heap}
theorem scCycleFrom : FnScope ["effect", "start", "cycle", "place"] ["effect", "start"] (defScope sCycleFrom) := ⟨rfl, rfl, rfl, by decide +kernel, rfl, by decide +kernel, by decide +kernel⟩
def spCycleFrom (K : PySem.W.Frag) : Sp := fun vs H Q _ => ∃ (a : Addr) (e : List Nat) (s : Nat), vs = [.ref a, .int (s : Nat)] ∧ SqT K H a (vN e) ∧ Eff e ∧ s < e.length ∧ e.length ≤ 1000 ∧ NewT H (cyc e s) Q
theorem vN_app (a b : List Nat) : vN (a ++ b) = vN a ++ vN b := by unfold vN; rw [List.map_append]
/-- the first k places of a walk from s -/
def walkL (e : List Nat) (s k : Nat) : List Nat := (List.range k).map fun j => it e j s
theorem walkL_succ (e : List Nat) (s k : Nat) : walkL e s (k + 1) = walkL e s k ++ [it e k s] := by
  unfold walkL
  rw [List.range_succ, List.map_append]
  rfl
theorem walkL_len (e : List Nat) (s k : Nat) : (walkL e s k).length = k := by unfold walkL; simp
theorem ok_cycleFrom (T : Bd P K mg) : FnOk P w K mg base CX0 1 T.aCycleFrom T.dCycleFrom ["effect", "start"] (spCycleFrom K) := by
  refine T.CycleFrom.F.ok scCycleFrom (fun vs H Q E h => ?_) (fun cdv A outer s H vs Q E hr h => ?_)
  · obtain ⟨a, e, s, rfl, _⟩ := h
    rfl
  · obtain ⟨a, e, s0, rfl, hA, he, hs, hl, q⟩ := h
    refine ⟨_, pss_cons (ps_set (i := 2) scCycleFrom.nd rfl (Or.inl rfl) (pe_lst (pa_cons (pv 1) pa_nil)))
      (pss_cons (ps_set (i := 3) scCycleFrom.nd rfl (Or.inl rfl) (pe_ix ix_tup (pv 0) (pv 1) (fun _ _ => rfl)))
      (pss_cons (ps_while PassesOwn.never (pt_cmpR op_ne (pv 3) (pv 1) (nomark _))
        (pss_cons (ps_expr (pe_bm PySem.F.plainAttrs_list PySem.F.slot_list_append PySem.F.type_list_append mt_append (pv 2) (pa_cons (pv 3) pa_nil)))
        (pss_one (ps_set (i := 3) scCycleFrom.nd rfl (Or.inl rfl) (pe_ix ix_tup (pv 0) (pv 3) (fun _ _ => rfl))))))
      (pss_one (ps_ret (pe_callTy call_tuple_of (by rfl) T.bt.tuple b_tuple (pa_cons (pv 2) pa_nil)))))), ?_⟩
    obtain ⟨p1, p2, p3, p4⟩ := per_spec he hs
    refine ⟨.int s0, rfl, (by show 1 ≤ sizeLine; decide), fun c hc => ?_⟩
    have sm0 : Same H (upd H c (.lst [.int s0])) := same_upd hc
    refine ⟨.ref a, rfl, .int s0, rfl, a, vN e, _, _, rfl, rfl, sqT_same sm0 hA, atI_nat (vN_get hs), ?_⟩
    refine while_by (fun σ H' => ∃ k, 1 ≤ k ∧ k ≤ per e s0 ∧ σ = [some (.ref a), some (.int (s0 : Nat)), some (.ref c), some (.int (it e k s0 : Nat))] ∧ Same H H' ∧ H' c = some (.lst (vN (walkL e s0 k)))) (fun σ H' => match H' c with | some (.lst xs) => per e s0 + 1 - xs.length | _ => 0)
      ⟨1, Nat.le_refl _, p1, rfl, sm0, upd_same⟩ (fun σ H' hP => ?_) (fun σ H' Q1 Q2 mono h => ?_)
    · obtain ⟨k, h1, h2, rfl, sm, hd⟩ := hP
      have hm : (match H' c with | some (.lst xs) => per e s0 + 1 - xs.length | _ => 0) = per e s0 + 1 - k := by
        rw [hd]
        show per e s0 + 1 - (vN (walkL e s0 k)).length = _
        rw [vN_len, walkL_len]
      refine ⟨_, rfl, _, rfl, rfl, _, rfl, ?_⟩
      by_cases hk : it e k s0 = s0
      · rw [decide_eq_true (by rw [hk])]
        refine iteF ?_
        have ek : k = per e s0 := by
          by_cases h : k = per e s0
          · exact h
          · exact absurd hk (p3 k h1 (by omega))
        rw [ek] at hd
        exact ⟨.ref c, rfl, c, _, rfl, .inl ⟨.inl (.inl hd), fun l hl2 => q _ _ (same_of sm (Same.free sm hl2)) (Same.free sm hl2) upd_same⟩⟩
      · rw [decide_eq_false fun z => hk (by have := V.int.inj z; omega)]
        refine iteT ?_
        have hk2 : k < per e s0 := by
          by_cases h : k = per e s0
          · rw [h] at hk
            exact absurd p2 hk
          · omega
        refine ⟨.ref c, rfl, .inl ⟨rfl, _, .inl (.inl hd)⟩, .int (it e k s0 : Nat), rfl, c, _, _, rfl, rfl, hd, ?_, ?_⟩
        · rw [vN_len, walkL_len]
          exact small1000 (by omega)
        · have sm2 : Same H (upd H' c (.lst (vN (walkL e s0 k) ++ [.int (it e k s0 : Nat)]))) := same_of sm hc
          refine ⟨.ref a, rfl, .int (it e k s0 : Nat), rfl, a, vN e, _, _, rfl, rfl, sqT_same sm2 hA, atI_nat (vN_get (it_lt he hs)), ⟨k + 1, by omega, hk2, rfl, sm2, ?_⟩, ?_⟩
          · rw [upd_same, walkL_succ, vN_app]
            rfl
          · show (match (upd H' c (.lst (vN (walkL e s0 k) ++ [.int (it e k s0 : Nat)]))) c with | some (.lst xs) => per e s0 + 1 - xs.length | _ => 0) < (match H' c with | some (.lst xs) => per e s0 + 1 - xs.length | _ => 0)
            rw [hm, upd_same]
            show per e s0 + 1 - (vN (walkL e s0 k) ++ [V.int (it e k s0 : Nat)]).length < _
            rw [List.length_append, vN_len, walkL_len]
            simp
            omega
    · obtain ⟨x, hx, y, hy, hz, b, hb, hq⟩ := h
      exact ⟨x, hx, y, hy, hz, b, hb, mono _ _ hq⟩
theorem scCyclesOf : FnScope ["effect", "found", "done", "start", "cycle", "place"] ["effect"] (defScope sCyclesOf) := ⟨rfl, rfl, rfl, by decide +kernel, rfl, by decide +kernel, by decide +kernel⟩
/-- tuples of the numbers cs at ps -/
def TupL (H : Hp) (ps : List Addr) (cs : List (List Nat)) : Prop := Paired (fun p c => H p = some (.tup (vN c))) ps cs
theorem tupL_snoc {H : Hp} {p : Addr} {c : List Nat} (h : H p = some (.tup (vN c))) : ∀ {ps : List Addr} {cs : List (List Nat)}, TupL H ps cs → TupL H (ps ++ [p]) (cs ++ [c])
  | _, _, .nil => .cons h .nil
  | _, _, .cons r t => .cons r (tupL_snoc h t)
theorem tupL_len {H : Hp} : ∀ {ps : List Addr} {cs : List (List Nat)}, TupL H ps cs → ps.length = cs.length
  | _, _, .nil => rfl
  | _, _, .cons _ t => congrArg Nat.succ (tupL_len t)
theorem tupL_at {H : Hp} : ∀ {ps : List Addr} {cs : List (List Nat)}, TupL H ps cs → ∀ (i : Nat) (p : Addr), ps[i]? = some p → ∃ c, cs[i]? = some c ∧ H p = some (.tup (vN c))
  | _, _, .nil, i, p, h => by simp at h
  | _, _, .cons r t, 0, p, h => by
    obtain rfl := Option.some.inj h
    exact ⟨_, rfl, r⟩
  | _, _, .cons r t, i + 1, p, h => tupL_at t i p h
def NewLT (H : Hp) (cs : List (List Nat)) (Q : VK) : Prop := ∀ H' f ps, Same H H' → H f = none → H' f = some (.lst (ps.map V.ref)) → TupL H' ps cs → Q (.ref f) H'
def spCyclesOf (K : PySem.W.Frag) : Sp := fun vs H Q _ => ∃ (a : Addr) (e : List Nat), vs = [.ref a] ∧ SqT K H a (vN e) ∧ Eff e ∧ e.length ≤ 1000 ∧ NewLT H (wheels e) Q
/-- which places are told by S -/
def flL (n : Nat) (S : Nat → Bool) : List V := (List.range n).map fun p => V.bl (S p)
theorem flL_len (n : Nat) (S : Nat → Bool) : (flL n S).length = n := by unfold flL; simp
theorem flL_get {n : Nat} {S : Nat → Bool} {p : Nat} (h : p < n) : (flL n S)[p]? = some (.bl (S p)) := by
  unfold flL
  rw [List.getElem?_map, List.getElem?_range h]
  rfl
theorem flL_set (n : Nat) (S : Nat → Bool) (x : Nat) : (flL n S).set x (.bl true) = flL n fun p => S p || decide (p = x) := by
  refine List.ext_getElem? fun i => ?_
  by_cases hi : i < n
  · rw [flL_get hi]
    by_cases hx : i = x
    · subst hx
      rw [List.getElem?_set_self (by rw [flL_len]; exact hi)]
      simp
    · rw [List.getElem?_set_ne (Ne.symm hx), flL_get hi]
      simp [hx]
  · rw [List.getElem?_eq_none (by rw [List.length_set, flL_len]; omega), List.getElem?_eq_none (by rw [flL_len]; omega)]
theorem flL_congr {n : Nat} {S S' : Nat → Bool} (h : ∀ p, p < n → S p = S' p) : flL n S = flL n S' := by
  unfold flL
  exact List.map_congr_left fun p hp => by rw [h p (List.mem_range.mp hp)]
theorem ok_cyclesOf (T : Bd P K mg) : FnOk P w K mg base CX0 2 T.aCyclesOf T.dCyclesOf ["effect"] (spCyclesOf K) := by
  have GF : FnOk P w K mg base CX0 1 T.aCycleFrom T.dCycleFrom ["effect", "start"] (spCycleFrom K) := ok_cycleFrom T
  refine T.CyclesOf.F.ok scCyclesOf (fun vs H Q E h => ?_) (fun cdv A outer s H vs Q E hr h => ?_)
  · obtain ⟨a, e, rfl, _⟩ := h
    rfl
  · obtain ⟨a, e, rfl, hA, he, hl, q⟩ := h
    refine ⟨_, pss_cons (ps_set (i := 1) scCyclesOf.nd rfl (Or.inl rfl) (pe_lst pa_nil))
      (pss_cons (ps_set (i := 2) scCyclesOf.nd rfl (Or.inl rfl) (pe_op op_rep (pe_lst (pa_cons pe_bl pa_nil)) (pe_callB call_len_seq (by rfl) T.bt.len b_len (pa_cons (pv 0) pa_nil))))
      (pss_cons (ps_for PassesOwn.never rfl (pi_range1 (by rfl) T.bt.range (pa_cons (pe_callB call_len_seq (by rfl) T.bt.len b_len (pa_cons (pv 0) pa_nil)) pa_nil)) (pg_name (i := 3) scCyclesOf.nd rfl (Or.inl rfl))
        (pss_one (ps_if (pt_not (pt_val (pe_ix ix_list (pv 2) (pv 3) (fun _ _ => rfl))))
          (pss_cons (ps_set (i := 4) scCyclesOf.nd rfl (Or.inl rfl) (pe_call GF hr (by rfl) T.CycleFrom.g T.CycleFrom.F.kp T.CycleFrom.b .nil pass0 (pa_cons (pv 0) (pa_cons (pv 3) pa_nil))))
          (pss_cons (ps_for PassesOwn.never rfl (pi_tup (pv 4)) (pg_name (i := 5) scCyclesOf.nd rfl (Or.inl rfl))
            (pss_one (ps_asg pe_bl (pg_sub (pv 2) (pv 5) set_list))))
          (pss_one (ps_expr (pe_bm PySem.F.plainAttrs_list PySem.F.slot_list_append PySem.F.type_list_append mt_append (pv 1) (pa_cons (pv 4) pa_nil))))))
          pss_nil)))
      (pss_one (ps_ret (pv 1))))), ?_⟩
    refine ⟨Nat.zero_le _, fun f hf => ?_⟩
    have sm1 : Same H (upd H f (.lst [])) := same_upd hf
    refine ⟨(by show 1 ≤ sizeLine; decide), fun p hp => ?_⟩
    have sm2 : Same H (upd (upd H f (.lst [])) p (.lst [.bl false])) := same_of sm1 (Same.free sm1 hp)
    have small : (e.length : Int) < 2 ^ 62 := by
      have : (1000 : Int) < 2 ^ 62 := by decide
      omega
    have small3 : (e.length : Int) < 2 ^ 63 := by
      have : (1000 : Int) < 2 ^ 63 := by decide
      omega
    refine ⟨.ref a, rfl, a, vN e, rfl, .inr (sqT_same sm2 hA), p, ((vN e).length : Nat), [.bl false], rfl, rfl, upd_same, by omega, by rw [vN_len]; exact small3, ?_, fun d hd => ?_⟩
    · show 1 * ((vN e).length : Int).toNat ≤ sizeLine
      rw [Nat.one_mul, Int.toNat_natCast, vN_len]
      exact sz1000 hl
    have e0 : (List.replicate ((vN e).length : Int).toNat [V.bl false]).flatten = flL e.length fun p => decide (p ∈ (whN e 0).flatten) := by
      rw [rep_one_list, Int.toNat_natCast, vN_len]
      unfold flL whN
      simp only [List.flatten_nil, List.not_mem_nil, decide_false]
      rw [show (fun (p : Nat) => V.bl false) = Function.const Nat (V.bl false) from rfl, List.map_const, List.length_range]
    rw [e0]
    have fp : f ≠ p := ne_of_none upd_same hp
    have fd : f ≠ d := ne_of_none (show (upd (upd H f (.lst [])) p (.lst [.bl false])) f = some (.lst []) by rw [upd_ne fp, upd_same]) hd
    have nd' : H d = none := Same.free sm2 hd
    have sm3 : Same H (upd (upd (upd H f (.lst [])) p (.lst [.bl false])) d (.lst (flL e.length fun p => decide (p ∈ (whN e 0).flatten)))) := same_of sm2 nd'
    refine ⟨.ref a, rfl, a, vN e, rfl, .inr (sqT_same sm3 hA), ((vN e).length : Nat), rfl, by omega, by rw [vN_len]; exact small, ?_⟩
    rw [Int.toNat_natCast, vN_len]
    refine for_range (lo := 0) (n := e.length) (fun i σ H' => (∃ y3 y4 y5, σ = [some (.ref a), some (.ref f), some (.ref d), y3, y4, y5]) ∧ Same H H' ∧ H' d = some (.lst (flL e.length fun p => decide (p ∈ (whN e i).flatten))) ∧
      ∃ ps, H' f = some (.lst (ps.map V.ref)) ∧ TupL H' ps (whN e i)) ⟨⟨none, none, none, rfl⟩, sm3, upd_same, [], by rw [upd_ne fd, upd_ne fp, upd_same]; rfl, .nil⟩ (fun i σ H' hi ⟨⟨y3, y4, y5, es⟩, sm, hdd, ps, hff, hps⟩ => ?_) (fun σ H' ⟨⟨y3, y4, y5, es⟩, sm, hdd, ps, hff, hps⟩ => ?_)
    · subst es
      have ei : (0 + (i : Int)) = (i : Nat) := by omega
      rw [ei]
      refine ⟨.ref d, rfl, .int (i : Nat), rfl, d, _, _, _, rfl, rfl, .inl (.inl hdd), atI_nat (flL_get hi), _, rfl, ?_⟩
      by_cases hm : i ∈ (whN e i).flatten
      · rw [decide_eq_true hm]
        have ew : whN e (i + 1) = whN e i := by
          conv => lhs; unfold whN
          exact if_pos hm
        refine iteF ⟨⟨_, _, _, rfl⟩, sm, ?_, ps, hff, ?_⟩
        · rw [ew]; exact hdd
        · rw [ew]; exact hps
      · rw [decide_eq_false hm]
        have ew : whN e (i + 1) = whN e i ++ [cyc e i] := by
          conv => lhs; unfold whN
          exact if_neg hm
        refine iteT ⟨.ref a, rfl, .int (i : Nat), rfl, a, e, i, rfl, sqT_same sm hA, he, hi, hl, fun H1 t sm1 nt ht => ?_⟩
        have hdd1 := sm1 _ _ hdd
        have hff1 := sm1 _ _ hff
        have dt : d ≠ t := ne_of_none hdd nt
        have df : f ≠ d := fd
        have ft : f ≠ t := ne_of_none hff nt
        refine ⟨.ref t, rfl, t, rfl, ⟨_, .inl (.inl ht)⟩, for_tup (xs := vN (cyc e i)) (fun j σ H2 => (∃ y5, σ = [some (.ref a), some (.ref f), some (.ref d), some (.int (i : Nat)), some (.ref t), y5]) ∧ (∀ b o, b ≠ d → H1 b = some o → H2 b = some o) ∧ (∀ b, H b = none → H2 b = none ∨ True) ∧
          H2 d = some (.lst (flL e.length fun p => decide (p ∈ (whN e i).flatten) || decide (p ∈ (cyc e i).take j)))) ⟨⟨_, rfl⟩, fun b o _ h => h, fun _ _ => .inr trivial, ?_⟩ (fun j σ H2 _ h => .inl (.inl (h.2.1 t _ (Ne.symm dt) ht))) (fun j x σ H2 hx ⟨⟨y5, es⟩, k2, _, hd2⟩ => ?_) (fun σ H2 ⟨⟨y5, es⟩, k2, _, hd2⟩ => ?_)⟩
        · rw [hdd1]
          refine congrArg some (congrArg HO.lst (flL_congr fun p _ => ?_))
          simp
        · subst es
          obtain ⟨hj, rfl⟩ := vN_lt hx
          have hcl : ap (cyc e i) j < e.length := by
            obtain ⟨kk, hkk⟩ := (cyc_mem he hi).mp (List.mem_of_getElem? (ap_at hj))
            rw [hkk]
            exact it_lt he hi
          refine ⟨.ref d, rfl, .int (ap (cyc e i) j : Nat), rfl, d, _, _, ap (cyc e i) j, rfl, rfl, hd2, ?_, ⟨_, rfl⟩, fun b o hb ho => ?_, fun _ _ => .inr trivial, ?_⟩
          · rw [flL_len]
            exact ixN_nat hcl
          · rw [upd_ne hb]
            exact k2 b o hb ho
          · rw [upd_same, flL_set]
            refine congrArg some (congrArg HO.lst (flL_congr fun p _ => ?_))
            rw [List.take_add_one, ap_at hj]
            simp [List.mem_append, Bool.or_assoc]
        · subst es
          rw [vN_len] at hd2
          have hff2 := k2 f _ df hff1
          refine ⟨.ref f, rfl, .inl ⟨rfl, _, .inl (.inl hff2)⟩, .ref t, rfl, f, _, _, rfl, rfl, hff2, ?_, ⟨_, _, _, rfl⟩, fun b o hb => ?_, ?_, ps ++ [t], ?_, ?_⟩
          · rw [List.length_map, tupL_len hps]
            have := ((whN_ok he i (by omega)).1).len he
            exact small1000 (by omega)
          · have hbf : b ≠ f := fun z => by rw [z, hf] at hb; cases hb
            have hbd : b ≠ d := fun z => by rw [z, nd'] at hb; cases hb
            rw [upd_ne hbf]
            exact k2 b o hbd (sm1 _ _ (sm _ _ hb))
          · rw [upd_ne (Ne.symm df), hd2, ew]
            refine congrArg some (congrArg HO.lst (flL_congr fun p _ => ?_))
            rw [List.take_length, List.flatten_append, List.flatten_singleton]
            simp [List.mem_append]
          · rw [upd_same, List.map_append]
            rfl
          · rw [ew]
            have key : ∀ b c, H' b = some (.tup (vN c)) ∨ b = t ∧ c = cyc e i → (upd H2 f (.lst (ps.map V.ref ++ [V.ref t]))) b = some (.tup (vN c)) := fun b c hb => by
              rcases hb with hb | ⟨rfl, rfl⟩
              · have hbf : b ≠ f := ne_of hb hff (fun z => by cases z)
                have hbd : b ≠ d := ne_of hb hdd (fun z => by cases z)
                rw [upd_ne hbf]
                exact k2 b _ hbd (sm1 _ _ hb)
              · rw [upd_ne (Ne.symm ft)]
                exact k2 b _ (Ne.symm dt) ht
            refine tupL_snoc (key t _ (.inr ⟨rfl, rfl⟩)) ?_
            have gen : ∀ {ps : List Addr} {cs : List (List Nat)}, TupL H' ps cs → Paired (fun p c => (upd H2 f (.lst (List.map V.ref _ ++ [V.ref t]))) p = some (.tup (vN c))) ps cs := fun h => Paired.mapP h fun p c hp => key p c (.inl hp)
            exact gen hps
    · subst es
      exact ⟨.ref f, rfl, q H' f ps sm hf hff hps⟩
end
end Sv
set_option maxHeartbeats 4000000
namespace Sv
open PySem PySem.Spec PyProof.Rows L2
section
variable {P : Program} {w : World} {K : PySem.W.Frag} {mg : Str → Option Value} {base : Heap}
theorem scRepeated : FnScope ["effect", "count", "targets", "cycle", "shift", "place", "target"] ["effect", "count"] (defScope sRepeated) := ⟨rfl, rfl, rfl, by decide +kernel, rfl, by decide +kernel, by decide +kernel⟩
theorem vN_drop (c : List Nat) (k : Nat) : (vN c).drop k = vN (c.drop k) := by unfold vN; rw [List.map_drop]
theorem vN_tk (c : List Nat) (k : Nat) : (vN c).take k = vN (c.take k) := by unfold vN; rw [List.map_take]
theorem rot_read {K : PySem.W.Frag} {H : Hp} {a : Addr} {c : List Nat} {k : Nat} {z : Int} {Q : VK} (hz : z = (k : Int)) (hA : SqT K H a (vN c)) (hk : k < c.length) (hl : c.length ≤ 1000)
    {G : V → Hp → Prop} (hG : ∀ x H1, (rSlA K (.ref a) none (some z) H1 fun y H2 => rCatA K x y H2 Q) → G x H1) (q : ∀ H' b, Same H H' → SqT K H' b (vN (c.drop k ++ c.take k)) → Q (.ref b) H') : rSlA K (.ref a) (some z) none H G := by
  subst hz
  have s1 : HT.sIx (vN c).length 0 (some (k : Int)) = k := by rw [HT.sIx_nat, vN_len]; omega
  have s2 : HT.sIx (vN c).length (vN c).length (some (k : Int)) = k := by rw [HT.sIx_nat, vN_len]; omega
  have s3 : HT.sIx (vN c).length (vN c).length none = c.length := by rw [HT.sIx_none, vN_len]
  have c1 : cutV (vN c) (some (k : Int)) none = vN (c.drop k) := by
    unfold cutV
    rw [s1, s3, vN_drop, vN_tk]
    congr 1
    exact List.take_of_length_le (by rw [List.length_drop]; omega)
  have c2 : cutV (vN c) none (some (k : Int)) = vN (c.take k) := by
    unfold cutV
    rw [s2, HT.sIx_none, List.drop_zero, Nat.sub_zero, vN_tk]
  have second : ∀ H1 x, Same H H1 → (∀ (H2 : Hp) (p2 : Addr), Same H1 H2 → H2 p2 = some (.tup (vN (c.take k))) → rCatA K x (.ref p2) H2 Q) → rSlA K (.ref a) none (some (k : Int)) H1 fun y H2 => rCatA K x y H2 Q := fun H1 x sm h => by
    refine ⟨a, vN c, rfl, sqT_same sm hA, fun hw => ?_, fun _ p hp => ?_⟩
    · rw [s2, vN_len] at hw
      omega
    · rw [c2]
      exact h _ p (same_upd hp) upd_same
  by_cases h0 : k = 0
  · refine ⟨a, vN c, rfl, hA, fun _ => ?_, fun hn => ?_⟩
    · refine hG _ _ (second H _ (Same.refl H) fun H2 p2 sm hp2 => ?_)
      refine ⟨a, p2, vN c, vN (c.take k), rfl, rfl, sqT_same sm hA, .inl (.inl hp2), ?_, fun e => ?_, fun _ _ => ?_, fun _ e => ?_⟩
      · rw [vN_len, vN_len, List.length_take]
        exact sz1000 (by omega)
      · have := congrArg List.length e
        rw [vN_len] at this
        simp at this
        rw [this] at hk
        simp at hk
      · refine q H2 a sm ?_
        rw [h0, List.drop_zero, List.take_zero, List.append_nil]
        exact sqT_same sm hA
      · rw [h0, List.take_zero] at e
        exact absurd rfl e
    · rw [s1, s3, vN_len] at hn
      exact absurd ⟨h0, rfl⟩ hn
  · refine ⟨a, vN c, rfl, hA, fun hw => ?_, fun _ p hp => ?_⟩
    · rw [s1] at hw
      omega
    · rw [c1]
      refine hG _ _ (second _ _ (same_upd hp) fun H2 p2 sm hp2 => ?_)
      refine ⟨p, p2, vN (c.drop k), vN (c.take k), rfl, rfl, .inl (.inl (sm _ _ upd_same)), .inl (.inl hp2), ?_, fun e => ?_, fun _ e => ?_, fun _ _ p3 hp3 => ?_⟩
      · rw [vN_len, vN_len, List.length_take, List.length_drop]
        exact sz1000 (by omega)
      · have := congrArg List.length e
        rw [vN_len, List.length_drop] at this
        simp at this
        omega
      · have := congrArg List.length e
        rw [vN_len, List.length_take] at this
        have h9 : min k c.length = 0 := this
        omega
      · refine q _ p3 ((same_upd hp).trans (sm.trans (same_upd hp3))) (.inl (.inl ?_))
        rw [upd_same, vN_app]
theorem rot_tm {K : PySem.W.Frag} {σ : L2.St} {i j : Nat} {H : Hp} {a : Addr} {c : List Nat} {k : Nat} {z : Int} {Q : VK} (hi : σ[i]? = some (some (.ref a))) (hj : σ[j]? = some (some (.int z))) (hz : z = (k : Int)) (hA : SqT K H a (vN c)) (hk : k < c.length) (hl : c.length ≤ 1000)
    (q : ∀ H' b, Same H H' → SqT K H' b (vN (c.drop k ++ c.take k)) → Q (.ref b) H') : tOp (rCatA K) (tSl (rSlA K) (tVar i) (tPart (tVar j)) tNoPart) (tSl (rSlA K) (tVar i) tNoPart (tPart (tVar j))) σ H Q := by
  refine ⟨.ref a, hi, .int z, hj, z, rfl, ?_⟩
  show rSlA K (.ref a) (some z) none H (fun x H1 => tSl (rSlA K) (tVar i) tNoPart (tPart (tVar j)) σ H1 fun y H2 => rCatA K x y H2 Q)
  exact rot_read hz hA hk hl (fun x H2 h => ⟨.ref a, hi, .int z, hj, z, rfl, h⟩) q
/-- the targets when the places of S have been told -/
noncomputable def tgL (e : List Nat) (c : Int) (S : Nat → Bool) : List Nat := (List.range e.length).map fun p => if S p = true then rp e c p else ap e p
theorem tgL_len (e : List Nat) (c : Int) (S : Nat → Bool) : (tgL e c S).length = e.length := by unfold tgL; simp
theorem tgL_congr {e : List Nat} {c : Int} {S S' : Nat → Bool} (h : ∀ p, p < e.length → S p = S' p) : tgL e c S = tgL e c S' := by
  unfold tgL
  exact List.map_congr_left fun p hp => by rw [h p (List.mem_range.mp hp)]
theorem tgL_at {e : List Nat} {c : Int} {S : Nat → Bool} {p : Nat} (hp : p < e.length) : (tgL e c S)[p]? = some (if S p = true then rp e c p else ap e p) := by
  unfold tgL
  rw [List.getElem?_map, List.getElem?_range hp]
  rfl
theorem tgL_set (e : List Nat) (c : Int) (S : Nat → Bool) (x : Nat) : (tgL e c S).set x (rp e c x) = tgL e c fun p => S p || decide (p = x) := by
  refine List.ext_getElem? fun i => ?_
  by_cases hi : i < e.length
  · rw [tgL_at hi]
    by_cases hx : i = x
    · subst hx
      rw [List.getElem?_set_self (by rw [tgL_len]; exact hi)]
      simp
    · rw [List.getElem?_set_ne (Ne.symm hx), tgL_at hi]
      simp [hx]
  · rw [List.getElem?_eq_none (by rw [List.length_set, tgL_len]; omega), List.getElem?_eq_none (by rw [tgL_len]; omega)]
theorem tgL_none (e : List Nat) (c : Int) : tgL e c (fun _ => false) = e := by
  refine List.ext_getElem? fun i => ?_
  by_cases hi : i < e.length
  · rw [tgL_at hi, ap_at hi]
    rfl
  · rw [List.getElem?_eq_none (by rw [tgL_len]; omega), List.getElem?_eq_none (by omega)]
theorem tgL_all {e : List Nat} {c : Int} {S : Nat → Bool} (h : ∀ p, p < e.length → S p = true) : tgL e c S = rep e c := by
  unfold tgL rep
  exact List.map_congr_left fun p hp => by rw [if_pos (h p (List.mem_range.mp hp))]
/-- what stands beside the j-th place of a cycle -/
theorem rot_at {e : List Nat} (E : Eff e) {s : Nat} (hs : s < e.length) (c : Int) {j : Nat} (hj : j < per e s) :
    ((cyc e s).drop (c % (per e s : Int)).toNat ++ (cyc e s).take (c % (per e s : Int)).toNat)[j]? = some (rp e c (it e j s)) := by
  have hpos := per_pos E hs
  have h0 := Int.emod_nonneg c (show (per e s : Int) ≠ 0 by omega)
  have h1 := Int.emod_lt_of_pos c (show (0 : Int) < (per e s : Int) by omega)
  generalize hk : (c % (per e s : Int)).toNat = k
  have hkl : k < per e s := by omega
  have er : rp e c (it e j s) = it e (k + j) s := by
    unfold rp
    rw [per_it E hs, ← it_add, hk]
  rw [er]
  by_cases h : j < per e s - k
  · rw [List.getElem?_append_left (by rw [List.length_drop, cyc_len]; exact h), List.getElem?_drop, cyc_at (by omega)]
  · rw [List.getElem?_append_right (by rw [List.length_drop, cyc_len]; omega), List.length_drop, cyc_len, List.getElem?_take_of_lt (by omega), cyc_at (by omega)]
    refine congrArg some ?_
    rw [it_mod E hs (k + j)]
    congr 1
    rw [show k + j = (j - (per e s - k)) + per e s by omega, Nat.add_mod_right, Nat.mod_eq_of_lt (by omega)]
def spRepeated (K : PySem.W.Frag) : Sp := fun vs H Q _ => ∃ (a : Addr) (e : List Nat) (c : Int), vs = [.ref a, .int c] ∧ SqT K H a (vN e) ∧ Eff e ∧ e.length ≤ 1000 ∧ NewT H (rep e c) Q
theorem ok_repeated (T : Bd P K mg) : FnOk P w K mg base CX0 3 T.aRepeated T.dRepeated ["effect", "count"] (spRepeated K) := by
  have GY : FnOk P w K mg base CX0 2 T.aCyclesOf T.dCyclesOf ["effect"] (spCyclesOf K) := ok_cyclesOf T
  refine T.Repeated.F.ok scRepeated (fun vs H Q E h => ?_) (fun cdv A outer s H vs Q E hr h => ?_)
  · obtain ⟨a, e, c, rfl, _⟩ := h
    rfl
  · obtain ⟨a, e, c, rfl, hA, he, hl, q⟩ := h
    refine ⟨_, pss_cons (ps_set (i := 2) scRepeated.nd rfl (Or.inl rfl) (pe_callTy call_list_of (by rfl) T.bt.list b_list (pa_cons (pv 0) pa_nil)))
      (pss_cons (ps_for PassesOwn.never rfl (pi_list (pe_call GY hr (by rfl) T.CyclesOf.g T.CyclesOf.F.kp T.CyclesOf.b .nil pass0 (pa_cons (pv 0) pa_nil))) (pg_name (i := 3) scRepeated.nd rfl (Or.inl rfl))
        (pss_cons (ps_set (i := 4) scRepeated.nd rfl (Or.inl rfl) (pe_op op_mod (pe_callTy call_int1 (by rfl) T.bt.int b_int (pa_cons (pv 1) pa_nil)) (pe_callB call_len_seq (by rfl) T.bt.len b_len (pa_cons (pv 3) pa_nil))))
        (pss_one (ps_for PassesOwn.never rfl (RZ.pi_zipA (by rfl) T.bt.zip (pa_cons (pv 3) (pa_cons (pe_op op_catA (pe_slice sl_tupA (pv 3) (po_some (pv 4)) po_none) (pe_slice sl_tupA (pv 3) po_none (po_some (pv 4)))) pa_nil)))
          (pg_tup rfl (pgs_cons (pg_name (i := 5) scRepeated.nd rfl (.inl rfl)) (pgs_cons (pg_name (i := 6) scRepeated.nd rfl (.inl rfl)) pgs_nil)))
          (pss_one (ps_asg (pv 6) (pg_sub (pv 2) (pv 5) set_list)))))))
      (pss_one (ps_ret (pe_callTy call_tuple_of (by rfl) T.bt.tuple b_tuple (pa_cons (pv 2) pa_nil))))), ?_⟩
    refine ⟨.ref a, rfl, a, vN e, rfl, .inr hA, fun t ht => ?_⟩
    have sm0 : Same H (upd H t (.lst (vN e))) := same_upd ht
    refine ⟨.ref a, rfl, a, e, rfl, sqT_same sm0 hA, he, hl, fun H1 f ps sm1 nf hf hps => ?_⟩
    have ht1 : H1 t = some (.lst (vN e)) := sm1 _ _ upd_same
    have ft : f ≠ t := fun z => by rw [z, upd_same] at nf; cases nf
    have W := (wheels_ok he).1
    refine ⟨f, rfl, ⟨_, .inl (.inl hf)⟩, for_list (xs := ps.map V.ref) (fun i σ H' => (∃ y3 y4 y5 y6, σ = [some (.ref a), some (.int c), some (.ref t), y3, y4, y5, y6]) ∧ (∀ b o, b ≠ t → H1 b = some o → H' b = some o) ∧
      H' t = some (.lst (vN (tgL e c fun p => decide (p ∈ ((wheels e).take i).flatten))))) ⟨⟨none, none, none, none, rfl⟩, fun _ _ _ h => h, ?_⟩ (fun i σ H' _ h => .inl (.inl (h.2.1 f _ ft hf))) (fun i x σ H' hx ⟨⟨y3, y4, y5, y6, es⟩, k1, htt⟩ => ?_) (fun σ H' ⟨⟨y3, y4, y5, y6, es⟩, k1, htt⟩ => ?_)⟩
    · rw [ht1, show (fun p => decide (p ∈ ((wheels e).take 0).flatten)) = fun _ => false from funext fun p => by simp, tgL_none]
    · subst es
      rw [List.getElem?_map] at hx
      cases hpi : ps[i]? with
      | none => rw [hpi] at hx; cases hx
      | some p =>
        rw [hpi] at hx
        obtain rfl : V.ref p = x := Option.some.inj hx
        obtain ⟨cc, hcc, hp1⟩ := tupL_at hps i p hpi
        obtain ⟨s0, hs0, rfl⟩ := W.cy cc (List.mem_of_getElem? hcc)
        have hpos := per_pos he hs0
        have hple := (per_spec he hs0).2.2.2
        have pt : p ≠ t := fun z => by
          rw [z, ht1] at hp1
          cases hp1
        have hp' : H' p = some (.tup (vN (cyc e s0))) := k1 p _ pt hp1
        have hlen : ((vN (cyc e s0)).length : Int) = (per e s0 : Int) := by rw [vN_len, cyc_len]
        have h0 := Int.emod_nonneg c (show (per e s0 : Int) ≠ 0 by omega)
        have h1 := Int.emod_lt_of_pos c (show (0 : Int) < (per e s0 : Int) by omega)
        have ek : c % ((vN (cyc e s0)).length : Int) = ((c % (per e s0 : Int)).toNat : Int) := by rw [hlen, Int.toNat_of_nonneg h0]
        refine ⟨.int c, rfl, .inl ⟨c, rfl, .ref p, rfl, p, _, rfl, .inr (.inl (.inl hp')), c, _, rfl, rfl, by rw [hlen]; omega, ?_⟩⟩
        refine ⟨.ref p, rfl, ?_⟩
        refine rot_tm (K := K) (i := 3) (j := 4) (a := p) (k := (c % (per e s0 : Int)).toNat) (c := cyc e s0) rfl rfl ek (.inl (.inl hp')) (by rw [cyc_len]; omega) (by rw [cyc_len]; omega) (fun H2 b sm2 hb => ?_)
        have hp2 : H2 p = some (.tup (vN (cyc e s0))) := sm2 _ _ hp'
        have ht2 := sm2 _ _ htt
        have hl2 : (vN (cyc e s0)).length = (vN ((cyc e s0).drop (c % (per e s0 : Int)).toNat ++ (cyc e s0).take (c % (per e s0 : Int)).toNat)).length := by
          rw [vN_len, vN_len, List.length_append, List.length_drop, List.length_take, cyc_len]
          omega
        refine ⟨p, b, _, _, rfl, .inr ⟨.inl (.inl hp2), hb, ?_⟩⟩
        refine RZ.for_zipT hl2 (fun j σ H3 => (∃ y5 y6, σ = [some (.ref a), some (.int c), some (.ref t), some (.ref p), some (.int (c % ((vN (cyc e s0)).length : Int))), y5, y6]) ∧ (∀ b o, b ≠ t → H2 b = some o → H3 b = some o) ∧
          H3 t = some (.lst (vN (tgL e c fun p => decide (p ∈ ((wheels e).take i).flatten) || decide (p ∈ (cyc e s0).take j))))) ⟨⟨_, _, rfl⟩, fun _ _ _ h => h, ?_⟩ (fun j σ H3 ⟨_, k3, _⟩ => ⟨.inl (.inl (k3 p _ pt hp2)), ?_⟩)
          (fun j x y U σ H3 hx hy ⟨⟨y5, y6, es⟩, k3, ht3⟩ hU => ?_) (fun σ H3 ⟨⟨y5, y6, es⟩, k3, ht3⟩ => ?_)
        · rw [ht2]
          refine congrArg some (congrArg HO.lst (congrArg vN (tgL_congr fun p _ => ?_)))
          simp
        · have key : ∀ o, H2 b = some o → (∃ ys, o = .tup ys ∨ ∃ ob, o = .frz ob (.tup ys)) → H3 b = some o := fun o ho hh => by
            refine k3 b o (fun z => ?_) ho
            rw [z, ht2] at ho
            obtain ⟨ys, e1 | ⟨ob, e1⟩⟩ := hh
            · rw [e1] at ho
              cases ho
            · rw [e1] at ho
              cases ho
          rcases hb with (hb | ⟨ob, hb⟩) | hb
          · exact .inl (.inl (key _ hb ⟨_, .inl rfl⟩))
          · exact .inl (.inr ⟨ob, key _ hb ⟨_, .inr ⟨ob, rfl⟩⟩⟩)
          · exact .inr hb
        · subst es
          obtain ⟨hj, rfl⟩ := vN_lt hx
          obtain ⟨hj2, rfl⟩ := vN_lt hy
          have hj3 : j < per e s0 := by rwa [cyc_len] at hj
          have e1 : ap (cyc e s0) j = it e j s0 := by
            have q1 := ap_at hj
            rw [cyc_at hj3] at q1
            exact (Option.some.inj q1).symm
          have e2 : ap ((cyc e s0).drop (c % (per e s0 : Int)).toNat ++ (cyc e s0).take (c % (per e s0 : Int)).toNat) j = rp e c (it e j s0) := by
            have q1 := ap_at hj2
            rw [rot_at he hs0 c hj3] at q1
            exact (Option.some.inj q1).symm
          rw [e1, e2]
          have tU : t ≠ U := ne_of_none ht3 hU
          refine ⟨U, [.int (it e j s0 : Nat), .int (rp e c (it e j s0) : Nat)], rfl, .inl (.inl upd_same), rfl, _, _, rfl, _, _, rfl, rfl, ?_⟩
          refine ⟨.int (rp e c (it e j s0) : Nat), rfl, .ref t, rfl, .int (it e j s0 : Nat), rfl, t, _, _, it e j s0, rfl, rfl, by rw [upd_ne tU]; exact ht3, ?_, ⟨_, _, rfl⟩, fun b o hb ho => ?_, ?_⟩
          · rw [vN_len, tgL_len]
            exact ixN_nat (it_lt he hs0)
          · rw [upd_ne hb, upd_ne (ne_of_none (k3 b o hb ho) hU)]
            exact k3 b o hb ho
          · rw [upd_same, vN_set, tgL_set]
            refine congrArg some (congrArg HO.lst (congrArg vN (tgL_congr fun p _ => ?_)))
            rw [List.take_add_one, cyc_at hj3]
            simp [List.mem_append, Bool.or_assoc]
        · subst es
          refine ⟨⟨_, _, _, _, rfl⟩, fun b o hb ho => k3 b o hb (sm2 _ _ (k1 b o hb ho)), ?_⟩
          rw [ht3]
          refine congrArg some (congrArg HO.lst (congrArg vN (tgL_congr fun p _ => ?_)))
          rw [vN_len, List.take_length, List.take_add_one, hcc, List.flatten_append]
          simp [List.mem_append]
    · subst es
      rw [List.length_map, tupL_len hps, List.take_length] at htt
      rw [tgL_all fun p hp => decide_eq_true ((wheels_ok he).2 p hp)] at htt
      have smx : Same H H' := fun b o hb => by
        have bt : b ≠ t := fun z => by rw [z, ht] at hb; cases hb
        exact k1 b o bt (sm1 _ _ (sm0 _ _ hb))
      exact ⟨.ref t, rfl, t, _, rfl, .inl ⟨.inl (.inl htt), fun l2 hl2 => q _ _ (same_of smx (Same.free smx hl2)) (Same.free smx hl2) upd_same⟩⟩
end
end Sv
set_option maxHeartbeats 4000000
namespace Sv
open PySem PySem.Spec PyProof.Rows L2
def nInts (e : List Nat) : List Int := e.map fun (n : Nat) => (n : Int)
section
variable {P : Program} {w : World} {K : PySem.W.Frag} {mg : Str → Option Value} {base : Heap}
abbrev tkX {X : Cx} {E : XK} (tk : Takes X fun cls d _ H => E cls d H) : Passes (L2.CX X.prog X.w) X E := passes_call tk fun _ _ _ _ h => h
end
end Sv
set_option maxHeartbeats 4000000
namespace Sv
open PySem PySem.Spec PyProof.Rows L2
section
open AutoSeq1
theorem extend_tupG (l : Addr) (items : Array Value) (n : Nat) (b : Addr) (items2 : Array Value) (n2 : Nat) (dct : Option Addr) (sl : Array (Option Value)) (hs0 : ¬(!items.isEmpty && Builtin.List.listTooLong (items.size + items2.size)) = true) (hs1 : items.size ≤ sizeLine) (hs2 : items.size + items2.size ≤ sizeLine + 1) :
    Meets (Builtin.«list.extend» ⟨[.ref l, .ref b], []⟩) (fun _ R s => s.heap.get? l = some { cls := .type "list", dict := none, data := .seq items n, slots := #[] } ∧ s.heap.get? b = some { cls := .type "tuple", dict := dct, data := .seq items2 n2, slots := sl } ∧
      R (.ok (.ret Value.none)) { s with heap := s.heap.update l (Obj.mapSeq fun x => x ++ items2), toks := s.toks }) :=
  .of_wp fun prog w A R s h => by
    obtain ⟨hp, g, d, tk, os⟩ := s; obtain ⟨hl, hb, h⟩ := h; have f1 := AutoSeq1.idx_int; have f2 := AutoSeq1.sub_tuple_tuple; have f3 := AutoSeq1.sub_list_list; have f4 := AutoSeq1.sub_tuple_list; have f5 := AutoSeq1.sub_list_tuple;
    have hz' : (items ++ items2).size ≤ sizeLine + 1 := by rw [Array.size_append]; exact hs2
    wp_walk using (wpAny_updateSeq hl rfl (hz := hs1) (_hz' := hz')), wpAny_loadPart' hl, wpAny_loadPart' hb; exact ⟨_, rfl, h⟩
end
section
variable {X : Cx}
def rExtT (K : PySem.W.Frag) : V → List V → Hp → VK → Prop := fun x vs H Q => ∃ l b xs zs, x = .ref l ∧ vs = [.ref b] ∧ H l = some (.lst xs) ∧ SqT K H b zs ∧ xs.length + zs.length ≤ sizeLine ∧ Q .non (upd H l (.lst (xs ++ zs)))
theorem mt_extT : MtM X "list.extend" (rExtT X.K) := by
  intro pins s σ H x vs v us Q I rx rv h
  obtain ⟨l, b, xs, zs, rfl, rfl, hH, hB, hz, q⟩ := h
  cases rx
  obtain ⟨u, rfl, ru⟩ := rv.one
  cases ru
  obtain ⟨z, its, n, r, hl, e⟩ := I.lstM hH
  obtain ⟨its2, r2, ⟨⟨c, dct, dt, sl⟩, e2, hc, n2, hd⟩, z2⟩ := I.tuple hB
  obtain rfl : c = .type "tuple" := hc
  obtain rfl : dt = .seq its2.toArray n2 := hd
  have hl2 := r2.length
  have hsz : its.toArray.size + its2.toArray.size ≤ sizeLine := by rw [List.size_toArray, List.size_toArray]; omega
  have hlong : ¬ (!its.toArray.isEmpty && Builtin.List.listTooLong (its.toArray.size + its2.toArray.size)) = true := by
    rw [notLongL hsz, Bool.and_false]
    exact Bool.false_ne_true
  refine call_meets F.slot_list_extend ⟨_, e, rfl⟩ F.entry_list_extend (F.args_list_extend_2 _ _)
    (extend_tupG l its.toArray n b its2.toArray n2 dct sl hlong (by rw [List.size_toArray]; omega) (by omega)) ⟨e, e2, ?_⟩
  refine ⟨.non, _, I.lset (its' := its ++ its2) hH e (by simp) (r.append r2) ?_, rfl, q⟩
  rw [List.length_append]
  omega
end
end Sv
set_option maxHeartbeats 4000000
namespace Sv
open PySem PySem.Spec PyProof.Rows L2
/-- a layout: who is carried, who lies where; the tuples may be constants -/
structure LayT (K : PySem.W.Frag) (H : Hp) (ca sh : Addr) (cs : List Int) (ss : List (List Int)) : Prop where
  c : SqT K H ca (cs.map V.int)
  s : ∃ qs : List Addr, SqT K H sh (qs.map V.ref) ∧ Paired (fun q s => SqT K H q (s.map V.int)) qs ss
theorem segT_imp {K : PySem.W.Frag} {H H' : Hp} (e : ∀ a xs, SqT K H a xs → SqT K H' a xs) : ∀ {qs : List Addr} {ss : List (List Int)}, Paired (fun q s => SqT K H q (s.map V.int)) qs ss → Paired (fun q s => SqT K H' q (s.map V.int)) qs ss
  | _, _, .nil => .nil
  | _, _, .cons h t => .cons (e _ _ h) (segT_imp e t)
theorem segT_len {K : PySem.W.Frag} {H : Hp} : ∀ {qs : List Addr} {ss : List (List Int)}, Paired (fun q s => SqT K H q (s.map V.int)) qs ss → qs.length = ss.length
  | _, _, .nil => rfl
  | _, _, .cons _ t => congrArg Nat.succ (segT_len t)
theorem segT_at {K : PySem.W.Frag} {H : Hp} : ∀ {qs : List Addr} {ss : List (List Int)} {i : Nat} {q : Addr}, Paired (fun q s => SqT K H q (s.map V.int)) qs ss → qs[i]? = some q → ∃ s, ss[i]? = some s ∧ SqT K H q (s.map V.int)
  | _, _, i, _, .nil, e => by simp at e
  | _, _, 0, q, .cons h t, e => by
    obtain rfl := Option.some.inj e
    exact ⟨_, rfl, h⟩
  | _, _, i + 1, q, .cons h t, e => segT_at (i := i) t (by simpa using e)
theorem segT_of {K : PySem.W.Frag} {H : Hp} : ∀ {qs : List Addr} {ss : List (List Int)}, SegV H qs ss → Paired (fun q s => SqT K H q (s.map V.int)) qs ss
  | _, _, .nil => .nil
  | _, _, .cons h t => .cons (.inl (.inl h)) (segT_of t)
theorem LayT.imp {K : PySem.W.Frag} {H H' : Hp} {ca sh : Addr} {cs : List Int} {ss : List (List Int)} (x : LayT K H ca sh cs ss) (e : ∀ a xs, SqT K H a xs → SqT K H' a xs) : LayT K H' ca sh cs ss := by
  obtain ⟨qs, h1, h2⟩ := x.s
  exact ⟨e _ _ x.c, qs, e _ _ h1, segT_imp e h2⟩
theorem LayT.same {K : PySem.W.Frag} {H H' : Hp} {ca sh : Addr} {cs : List Int} {ss : List (List Int)} (x : LayT K H ca sh cs ss) (e : Same H H') : LayT K H' ca sh cs ss := x.imp fun _ _ => sqT_same e
theorem LayAt.t {K : PySem.W.Frag} {H : Hp} {ca sh : Addr} {cs : List Int} {ss : List (List Int)} (x : LayAt H ca sh cs ss) : LayT K H ca sh cs ss := by
  obtain ⟨qs, h1, h2⟩ := x.s
  exact ⟨.inl (.inl x.c), qs, .inl (.inl h1), segT_of h2⟩
/-- lists of numbers at rw, each a list of its own -/
def RowL (H : Hp) (rw : List Addr) (ss : List (List Int)) : Prop := Paired (fun q s => H q = some (.lst (s.map V.int))) rw ss
theorem rowL_imp {H H' : Hp} : ∀ {rw : List Addr} {ss : List (List Int)}, (∀ q ∈ rw, ∀ o, H q = some o → H' q = some o) → RowL H rw ss → RowL H' rw ss
  | _, _, _, .nil => .nil
  | _, _, e, .cons h t => .cons (e _ (List.mem_cons_self ..) _ h) (rowL_imp (fun q hq => e q (List.mem_cons_of_mem _ hq)) t)
theorem rowL_len {H : Hp} : ∀ {rw : List Addr} {ss : List (List Int)}, RowL H rw ss → rw.length = ss.length
  | _, _, .nil => rfl
  | _, _, .cons _ t => congrArg Nat.succ (rowL_len t)
theorem rowL_at {H : Hp} : ∀ {rw : List Addr} {ss : List (List Int)} {i : Nat} {q : Addr}, RowL H rw ss → rw[i]? = some q → ∃ s, ss[i]? = some s ∧ H q = some (.lst (s.map V.int))
  | _, _, i, _, .nil, e => by simp at e
  | _, _, 0, q, .cons h t, e => by
    obtain rfl := Option.some.inj e
    exact ⟨_, rfl, h⟩
  | _, _, i + 1, q, .cons h t, e => rowL_at (i := i) t (by simpa using e)
theorem rowL_mem {H : Hp} {rw : List Addr} {ss : List (List Int)} (h : RowL H rw ss) {q : Addr} (hq : q ∈ rw) : ∃ xs, H q = some (.lst xs) := by
  obtain ⟨i, hi⟩ := List.mem_iff_getElem?.mp hq
  obtain ⟨s, _, e⟩ := rowL_at h hi
  exact ⟨_, e⟩
theorem rowL_free {H : Hp} {rw : List Addr} {ss : List (List Int)} (h : RowL H rw ss) {q : Addr} (hq : H q = none) : q ∉ rw := fun m => by
  obtain ⟨xs, e⟩ := rowL_mem h m
  rw [hq] at e
  cases e
theorem rowL_snoc {H : Hp} {q : Addr} {s : List Int} (h : H q = some (.lst (s.map V.int))) : ∀ {rw : List Addr} {ss : List (List Int)}, RowL H rw ss → RowL H (rw ++ [q]) (ss ++ [s])
  | _, _, .nil => .cons h .nil
  | _, _, .cons r t => .cons r (rowL_snoc h t)
theorem rowL_set {H : Hp} {s' : List Int} : ∀ {rw : List Addr} {ss : List (List Int)} {i : Nat} {q : Addr}, rw.Nodup → RowL H rw ss → rw[i]? = some q → RowL (upd H q (.lst (s'.map V.int))) rw (ss.set i s')
  | _, _, i, _, _, .nil, e => by simp at e
  | r :: rw, s :: ss, 0, q, nd, .cons h t, e => by
    obtain rfl := Option.some.inj e
    refine .cons upd_same (rowL_imp (fun b hb o ho => ?_) t)
    rw [upd_ne (fun z : b = r => (List.nodup_cons.mp nd).1 (by rw [← z]; exact hb))]
    exact ho
  | r :: rw, s :: ss, i + 1, q, nd, .cons h t, e => by
    have e' : rw[i]? = some q := by simpa using e
    refine .cons ?_ (rowL_set (List.nodup_cons.mp nd).2 t e')
    rw [upd_ne (fun z : r = q => (List.nodup_cons.mp nd).1 (by rw [z]; exact List.mem_of_getElem? e'))]
    exact h
def exch (L : Lay Int) (p : Nat × Nat) : List V := [.int (p.1 : Nat), .int (p.2 : Nat), .int (L.1.getD p.1 0), .int ((L.2.getD p.2 []).headD (L.1.getD p.1 0))]
def exN (ps : List (Nat × Nat)) (L : Lay Int) : Nat → List (List V)
  | 0 => []
  | k + 1 => exN ps L k ++ (match ps[k]? with | some p => [exch (steps (ps.take k) L) p] | none => [])
def exL (ps : List (Nat × Nat)) (L : Lay Int) : List (List V) := exN ps L ps.length
theorem exN_len (ps : List (Nat × Nat)) (L : Lay Int) : ∀ k, (exN ps L k).length ≤ k
  | 0 => Nat.le_refl _
  | k + 1 => by
    unfold exN
    rw [List.length_append]
    have := exN_len ps L k
    split <;> simp <;> omega
theorem exN_succ {ps : List (Nat × Nat)} {L : Lay Int} {k : Nat} {p : Nat × Nat} (h : ps[k]? = some p) : exN ps L (k + 1) = exN ps L k ++ [exch (steps (ps.take k) L) p] := by
  conv => lhs; unfold exN
  rw [h]
theorem steps_take {α : Type} {ps : List (Nat × Nat)} {L : Lay α} {k : Nat} {p : Nat × Nat} (h : ps[k]? = some p) : steps (ps.take (k + 1)) L = step1 (steps (ps.take k) L) p := by
  rw [List.take_add_one, h]
  exact steps_snoc _ _ _
/-- the visits of valid plans are there -/
theorem prs_ok {n : Int} {rs : List Ro} (hr : ∀ r ∈ rs, r ≠ [] ∧ ∀ e ∈ r, okE n e = true) (m : Int) : ∀ k, ∀ p ∈ prs rs m k, p.1 < rs.length ∧ 0 ≤ p.2 ∧ p.2 < n
  | 0, p, h => by cases h
  | k + 1, p, h => by
    unfold prs at h
    rcases List.mem_append.mp h with h | h
    · exact prs_ok hr m k p h
    · cases hk : rs[k]? with
      | none => rw [hk] at h; cases h
      | some r =>
        rw [hk] at h
        simp only at h
        cases he : ent r m with
        | none => rw [he] at h; cases h
        | some z =>
          rw [he] at h
          rw [List.mem_singleton.mp h]
          have hmem := List.mem_of_getElem? hk
          obtain ⟨hne, hok⟩ := hr r hmem
          have h1 := (ent_get hne m).1
          rw [he] at h1
          have h2 := hok _ (List.mem_of_getElem? h1)
          unfold okE at h2
          have h3 := of_decide_eq_true h2
          exact ⟨(List.getElem?_eq_some_iff.mp hk).1, h3.1, by have := h3.2; omega⟩
theorem vis_ok {n : Nat} {rs : List Ro} (hr : ∀ r ∈ rs, r ≠ [] ∧ ∀ e ∈ r, okE n e = true) (m : Int) : ∀ p ∈ vis rs m, p.1 < rs.length ∧ p.2 < n := fun p hp => by
  unfold vis at hp
  obtain ⟨q, hq, rfl⟩ := List.mem_map.mp hp
  have := prs_ok hr m _ q hq
  exact ⟨this.1, by show q.2.toNat < n; omega⟩
theorem prs_meet (rs : List Ro) (m : Int) : ∀ k, meetN rs m k = (prs rs m k).map fun p => pairV p.1 p.2
  | 0 => rfl
  | k + 1 => by
    unfold meetN prs
    rw [prs_meet rs m k, List.map_append]
    congr 1
    cases rs[k]? with
    | none => rfl
    | some r =>
      simp only
      cases ent r m with
      | none => rfl
      | some z => rfl
theorem meets_vis {n : Nat} {rs : List Ro} (hr : ∀ r ∈ rs, r ≠ [] ∧ ∀ e ∈ r, okE n e = true) (m : Int) : meets rs m = (vis rs m).map fun p => pairV p.1 (p.2 : Nat) := by
  unfold meets vis
  rw [prs_meet, List.map_map]
  refine List.map_congr_left fun p hp => ?_
  have := prs_ok hr m _ p hp
  show pairV p.1 p.2 = pairV p.1 ((p.2.toNat : Nat) : Int)
  rw [Int.toNat_of_nonneg this.2.1]
end Sv
set_option maxHeartbeats 4000000
namespace Sv
open PySem PySem.Spec PyProof.Rows L2
/-- a plan that is valid, its entries too -/
structure Val (zs : List Int) (rs : List Ro) : Prop extends Good zs rs where
  e : ∀ r ∈ rs, ∀ e ∈ r, okE zs.length e = true
theorem val_of {zs : List Int} {rs : List Ro} (h : bad zs rs = none) : Val zs rs := by
  refine ⟨good_of h, ?_⟩
  unfold bad at h
  cases hb : badS zs with
  | some i => rw [hb] at h; cases h
  | none =>
    rw [hb] at h
    simp only [Option.map_eq_none_iff] at h
    unfold badR at h
    split at h
    · rw [Option.map_eq_none_iff] at h
      intro r hr e he
      have := fst_all h r hr
      unfold okR at this
      rw [Bool.and_eq_true, List.all_eq_true] at this
      exact this.2 e he
    · cases h
theorem Val.bad {zs : List Int} {rs : List Ro} (v : Val zs rs) : bad zs rs = none := by
  have h1 : badS zs = none := by
    unfold badS
    rw [if_pos v.z1, fst_none (p := okZ) (fun j y hy => decide_eq_true (v.z2 y (List.mem_of_getElem? hy)))]
    rfl
  have h2 : badR zs.length rs = none := by
    unfold badR
    rw [if_pos v.r1, fst_none (fun j y hy => ?_)]
    · rfl
    · unfold okR
      rw [decide_eq_true (v.r2 y (List.mem_of_getElem? hy)), Bool.true_and, List.all_eq_true]
      exact v.e y (List.mem_of_getElem? hy)
  unfold Sv.bad
  rw [h1]
  simp [h2]
theorem Val.small {zs : List Int} {rs : List Ro} (v : Val zs rs) : Small zs rs := ⟨by have := v.z1; omega, by have := v.r1; omega, fun r hr => by have := v.r2 r hr; omega⟩
theorem Val.ro {zs : List Int} {rs : List Ro} (v : Val zs rs) : ∀ r ∈ rs, r ≠ [] ∧ ∀ e ∈ r, okE zs.length e = true := fun r hr => ⟨(v.ne r hr).1, v.e r hr⟩
theorem Val.num {zs : List Int} {rs : List Ro} (v : Val zs rs) : rs.length + sumN zs ≤ 200 := by
  have := sumN_le v.z2
  have := v.z1
  have := v.r1
  omega
section
variable {P : Program} {w : World} {K : PySem.W.Frag} {mg : Str → Option Value} {base : Heap}
def nJo : List Str := ["carried", "shelves", "contents", "shelf"]
theorem scJoin : FnScope nJo ["carried", "shelves"] (defScope sJoin) := ⟨rfl, rfl, rfl, by decide +kernel, rfl, by decide +kernel, by decide +kernel⟩
/-- a new list of numbers -/
def NewL (H : Hp) (l : List Int) (Q : VK) : Prop := ∀ H' f, Same H H' → H f = none → H' f = some (.lst (l.map V.int)) → Q (.ref f) H'
def spJoin (K : PySem.W.Frag) : Sp := fun vs H Q _ => ∃ (ca sh : Addr) (cs : List Int) (ss : List (List Int)), vs = [.ref ca, .ref sh] ∧ LayT K H ca sh cs ss ∧ cs.length + ss.flatten.length ≤ 1000 ∧ NewL H (cs ++ ss.flatten) Q
theorem flat_take {α : Type} {ss : List (List α)} {i : Nat} {s : List α} (h : ss[i]? = some s) : (ss.take (i + 1)).flatten = (ss.take i).flatten ++ s := by
  rw [List.take_add_one, h, List.flatten_append]
  simp
theorem flat_take_len {α : Type} (ss : List (List α)) (i : Nat) : (ss.take i).flatten.length ≤ ss.flatten.length := by
  have h := congrArg (fun l => (List.flatten l).length) (List.take_append_drop i ss)
  simp only [List.flatten_append, List.length_append] at h
  omega
theorem ok_join (T : Bd P K mg) : FnOk P w K mg base CX0 1 T.aJoin T.dJoin ["carried", "shelves"] (spJoin K) := by
  refine T.Join.F.ok scJoin (fun vs H Q E h => ?_) (fun cdv A outer s H vs Q E hr h => ?_)
  · obtain ⟨ca, sh, cs, ss, rfl, _⟩ := h
    rfl
  · obtain ⟨ca, sh, cs, ss, rfl, hL, hl, q⟩ := h
    obtain ⟨qs, hs1, hs2⟩ := hL.s
    have hql := segT_len hs2
    refine ⟨_, pss_cons (ps_set (i := 2) scJoin.nd rfl (Or.inl rfl) (pe_callTy call_list_of (by rfl) T.bt.list b_list (pa_cons (pv 0) pa_nil)))
      (pss_cons (ps_for PassesOwn.never rfl (pi_tup (pv 1)) (pg_name (i := 3) scJoin.nd rfl (Or.inl rfl))
        (pss_one (ps_expr (pe_bm PySem.F.plainAttrs_list PySem.F.slot_list_extend PySem.F.type_list_extend mt_extT (pv 2) (pa_cons (pv 3) pa_nil)))))
      (pss_one (ps_ret (pv 2)))), ?_⟩
    refine ⟨.ref ca, rfl, ca, _, rfl, .inr hL.c, fun f hf => ?_⟩
    have sm0 : Same H (upd H f (.lst (cs.map V.int))) := same_upd hf
    refine ⟨.ref sh, rfl, sh, rfl, ⟨_, sqT_same sm0 hs1⟩, for_tup (xs := qs.map V.ref) (fun i σ H' => (∃ y, σ = [some (.ref ca), some (.ref sh), some (.ref f), y]) ∧ Same H H' ∧ H' f = some (.lst ((cs ++ (ss.take i).flatten).map V.int))) ⟨⟨none, rfl⟩, sm0, by rw [upd_same]; simp⟩
      (fun i σ H' _ h => sqT_same h.2.1 hs1) (fun i x σ H' hx ⟨⟨y, es⟩, sm, hd⟩ => ?_) (fun σ H' ⟨⟨y, es⟩, sm, hd⟩ => ?_)⟩
    · subst es
      obtain ⟨q1, hq1, rfl⟩ := refs_lt hx
      obtain ⟨s1, hs3, hq2⟩ := segT_at hs2 hq1
      refine ⟨.ref f, rfl, .inl ⟨rfl, _, .inl (.inl hd)⟩, .ref q1, rfl, f, q1, _, _, rfl, rfl, hd, sqT_same sm hq2, ?_, ⟨_, rfl⟩, same_of sm hf, ?_⟩
      · rw [List.length_map, List.length_map, List.length_append]
        have h1 := flat_take_len ss (i + 1)
        rw [flat_take hs3, List.length_append] at h1
        exact sz1000 (by omega)
      · rw [upd_same, flat_take hs3, ← List.append_assoc, List.map_append (l₁ := cs ++ (ss.take i).flatten)]
    · subst es
      rw [List.length_map, hql, List.take_length] at hd
      exact ⟨.ref f, rfl, q H' f sm hf hd⟩
end
end Sv
set_option maxHeartbeats 4000000
namespace Sv
open PySem PySem.Spec PyProof.Rows L2
section
variable {P : Program} {w : World} {K : PySem.W.Frag} {mg : Str → Option Value} {base : Heap}
def rLo (K : PySem.W.Frag) : List V → Hp → VK → Prop := fun xs H Q => ∃ p ys, xs = [.ref p] ∧ (SqL K H p ys ∨ SqT K H p ys) ∧ ∀ l, H l = none → Q (.ref l) (upd H l (.lst ys))
def rTo (K : PySem.W.Frag) : List V → Hp → VK → Prop := fun xs H Q => ∃ p ys, xs = [.ref p] ∧ ((SqL K H p ys ∧ ∀ l, H l = none → Q (.ref l) (upd H l (.tup ys))) ∨ (SqT K H p ys ∧ Q (.ref p) H))
def nAt : List Str := ["plan", "number", "carried", "shelves", "hands", "rows", "exchanges", "carrier", "shelf", "left", "taken", "row"]
theorem scAfterTick : FnScope nAt ["plan", "number", "carried", "shelves"] (defScope sAfterTick) := ⟨rfl, rfl, rfl, by decide +kernel, rfl, by decide +kernel, by decide +kernel⟩
def spAfterTick (K : PySem.W.Frag) : Sp := fun vs H Q _ => ∃ (p ca sh : Addr) (n : Int) (zs : List Int) (rs : List Ro) (L : Lay Int), vs = [.ref p, .int n, .ref ca, .ref sh] ∧ PlanAt K H p zs rs ∧ Val zs rs ∧ LayT K H ca sh L.1 L.2 ∧ Fits rs.length zs L ∧
  ∀ H' t c' s' x, Same H H' → H' t = some (.tup [.ref c', .ref s', .ref x]) → LayT K H' c' s' (tickL rs (n - 1) L).1 (tickL rs (n - 1) L).2 → TL H' x (exL (vis rs (n - 1)) L) → H x = none → Q (.ref t) H'
theorem fit_at {n : Nat} {zs : List Int} {L : Lay Int} (h : Fits n zs L) : L.1.length = n ∧ L.2.length = zs.length := ⟨h.1, by have := congrArg List.length h.2; simpa using this⟩
theorem fit_row {n : Nat} {zs : List Int} {L : Lay Int} (h : Fits n zs L) (hz : ∀ z ∈ zs, 0 ≤ z ∧ z ≤ 9) {i : Nat} {s : List Int} (e : L.2[i]? = some s) : s.length ≤ 9 := by
  have h1 : (L.2.map List.length)[i]? = some s.length := by rw [List.getElem?_map, e]; rfl
  rw [h.2, List.getElem?_map] at h1
  cases hz1 : zs[i]? with
  | none => rw [hz1] at h1; cases h1
  | some z =>
    rw [hz1] at h1
    have := hz z (List.mem_of_getElem? hz1)
    have := Option.some.inj h1
    omega
theorem mtch_eq {α : Type} {L : Lay α} {p : Nat × Nat} {x : α} {row : List α} (h1 : L.1[p.1]? = some x) (h2 : L.2[p.2]? = some row) : step1 L p = (L.1.set p.1 (row.headD x), L.2.set p.2 (row ++ [x]).tail) := by
  unfold step1
  rw [h1, h2]
theorem exch_eq {L : Lay Int} {p : Nat × Nat} {x : Int} {row : List Int} (h1 : L.1[p.1]? = some x) (h2 : L.2[p.2]? = some row) : exch L p = [.int (p.1 : Nat), .int (p.2 : Nat), .int x, .int (row.headD x)] := by
  unfold exch
  rw [List.getD_eq_getElem?_getD, h1, List.getD_eq_getElem?_getD, h2]
  rfl
theorem vis_len (rs : List Ro) (m : Int) : (vis rs m).length ≤ rs.length := by
  unfold vis
  rw [List.length_map]
  have := meetN_len rs m rs.length
  rw [prs_meet, List.length_map] at this
  exact this
theorem tupsV_at {H : Hp} : ∀ {ps : List Addr} {ts : List (List V)} {i : Nat} {p : Addr}, TupsV H ps ts → ps[i]? = some p → ∃ t, ts[i]? = some t ∧ H p = some (.tup t)
  | _, _, i, _, .nil, e => by simp at e
  | _, _, 0, q, .cons h t, e => by
    obtain rfl := Option.some.inj e
    exact ⟨_, rfl, h⟩
  | _, _, i + 1, q, .cons h t, e => tupsV_at (i := i) t (by simpa using e)
theorem ok_afterTick (T : Bd P K mg) : FnOk P w K mg base CX0 2 T.aAfterTick T.dAfterTick ["plan", "number", "carried", "shelves"] (spAfterTick K) := by
  have GV : FnOk P w K mg base CX0 1 T.aVisitsIn T.dVisitsIn ["routes", "number"] (spVisitsIn K) := ok_visitsIn T.VisitsIn T.bt
  refine T.AfterTick.F.ok scAfterTick (fun vs H Q E h => ?_) (fun cdv A outer s H vs Q E hr h => ?_)
  · obtain ⟨p, ca, sh, n, zs, rs, L, rfl, _⟩ := h
    rfl
  · obtain ⟨p, ca, sh, n, zs, rs, L, rfl, hp, hv, hL, hf, q⟩ := h
    obtain ⟨a, b, hp1, ha, hb⟩ := hp.ex
    obtain ⟨qs, hs1, hs2⟩ := hL.s
    have hql := segT_len hs2
    obtain ⟨fl1, fl2⟩ := fit_at hf
    have hz12 := hv.z1
    have hr6 := hv.r1
    refine ⟨_, pss_cons (ps_set (i := 4) scAfterTick.nd rfl (Or.inl rfl) (pe_callTy call_list_of (by rfl) T.bt.list b_list (pa_cons (pv 2) pa_nil)))
      (pss_cons (ps_setLc (i := 5) (own := [("shelf", 8)]) (g := gName 8) (tt := tYes) (te := tCB (rLo K) (tCons (tVar 8) tNil)) rfl scAfterTick.nd rfl rfl (sw_true rfl rfl rfl (by decide +kernel)) (pi_tup (pv 3)) (blkOk_by (N := nAt) (sc := defScope sAfterTick) (by decide +kernel))
        (fun _ _ _ _ _ => pg_name (i := 8) scAfterTick.nd rfl (Or.inl rfl)) (fun _ _ _ _ _ => pts_nil) (fun _ _ _ _ _ => pe_callTy call_list_of (by rfl) T.bt.list b_list (pa_cons (pv 8) pa_nil)))
      (pss_cons (ps_set (i := 6) scAfterTick.nd rfl (Or.inl rfl) (pe_lst pa_nil))
      (pss_cons (ps_for PassesOwn.never rfl (pi_list (pe_call (E := E0) GV hr (by rfl) T.VisitsIn.g T.VisitsIn.F.kp T.VisitsIn.b .nil pass0 (pa_cons (pe_ix ix_tup (pv 0) pe_int (fun _ _ => rfl)) (pa_cons (pv 1) pa_nil))))
          (pg_tup rfl (pgs_cons (pg_name (i := 7) scAfterTick.nd rfl (.inl rfl)) (pgs_cons (pg_name (i := 8) scAfterTick.nd rfl (.inl rfl)) pgs_nil)))
        (pss_cons (ps_set (i := 9) scAfterTick.nd rfl (Or.inl rfl) (pe_ix ix_list (pv 4) (pv 7) (fun _ _ => rfl)))
        (pss_cons (ps_expr (pe_bm PySem.F.plainAttrs_list PySem.F.slot_list_append PySem.F.type_list_append mt_append (pe_ix ix_list (pv 5) (pv 8) (fun _ _ => rfl)) (pa_cons (pv 9) pa_nil)))
        (pss_cons (ps_set (i := 10) scAfterTick.nd rfl (Or.inl rfl) (pe_bm PySem.F.plainAttrs_list PySem.F.slot_list_pop PySem.F.type_list_pop mt_popAt (pe_ix ix_list (pv 5) (pv 8) (fun _ _ => rfl)) (pa_cons pe_int pa_nil)))
        (pss_cons (ps_asg (pv 10) (pg_sub (pv 4) (pv 7) set_list))
        (pss_one (ps_expr (pe_bm PySem.F.plainAttrs_list PySem.F.slot_list_append PySem.F.type_list_append mt_append (pv 6) (pa_cons (pe_tup (pa_cons (pv 7) (pa_cons (pv 8) (pa_cons (pv 9) (pa_cons (pv 10) pa_nil))))) pa_nil)))))))))
      (pss_one (ps_ret (pe_tup (pa_cons (pe_callTy call_tuple_of (by rfl) T.bt.tuple b_tuple (pa_cons (pv 4) pa_nil))
        (pa_cons (pe_callTy call_tuple_of (by rfl) T.bt.tuple b_tuple (pa_cons (pe_lc (own := [("row", 11)]) (g := gName 11) (tt := tYes) (te := tCB (rTo K) (tCons (tVar 11) tNil)) rfl scAfterTick.nd (pi_list (pv 5)) (blkOk_by (N := nAt) (sc := defScope sAfterTick) (by decide +kernel))
          (fun _ _ _ _ _ => pg_name (i := 11) scAfterTick.nd rfl (Or.inl rfl)) (fun _ _ _ _ _ => pts_nil) (fun _ _ _ _ _ => pe_callTy call_tuple_of (by rfl) T.bt.tuple b_tuple (pa_cons (pv 11) pa_nil))) pa_nil))
        (pa_cons (pv 6) pa_nil))))))))), ?_⟩
    -- hands
    refine ⟨.ref ca, rfl, ca, _, rfl, .inr hL.c, fun hd hhd => ?_⟩
    have sm0 : Same H (upd H hd (.lst (L.1.map V.int))) := same_upd hhd
    have kh : (upd H hd (.lst (L.1.map V.int))) hd = some (.lst (L.1.map V.int)) := upd_same
    generalize upd H hd (.lst (L.1.map V.int)) = H0 at sm0 kh ⊢
    have h0 : H hd = none := hhd
    clear hhd
    -- rows
    refine ⟨.ref sh, rfl, sh, rfl, ⟨_, sqT_same sm0 hs1⟩, fun R hR => lc_tup (xs := qs.map V.ref) (fun i H' => Same H0 H' ∧ ∃ rw : List Addr, H' R = some (.lst (rw.map V.ref)) ∧ RowL H' rw (L.2.take i) ∧ rw.Nodup ∧ ∀ q ∈ rw, H0 q = none ∧ q ≠ R)
      ⟨same_upd hR, [], upd_same, .nil, List.nodup_nil, fun q hq => (List.not_mem_nil hq).elim⟩ (fun i H' _ h => sqT_same (sm0.trans h.1) hs1) (fun i x H' hx ⟨sm, rw, kR, rl, nd, hrw⟩ => ?_) (fun H1 ⟨sm1, rw, kR, rl, nd, hrw⟩ => ?_)⟩
    · obtain ⟨q1, hq1, rfl⟩ := refs_lt hx
      obtain ⟨s1, hs3, hq2⟩ := segT_at hs2 hq1
      refine ⟨rfl, yes_go ⟨.ref q1, rfl, q1, _, rfl, .inr (sqT_same (sm0.trans sm) hq2), fun l hl => ?_⟩⟩
      have n0 : H0 l = none := Same.free sm hl
      have nR : R ≠ l := ne_of_none kR hl
      have kR2 : (upd H' l (.lst (s1.map V.int))) R = some (.lst (rw.map V.ref)) := by rw [upd_ne nR]; exact kR
      have hrl := rowL_len rl
      refine ⟨_, kR2, ?_, ?_, rw ++ [l], ?_, ?_, ?_, ?_⟩
      · rw [List.length_map, hrl, List.length_take]
        exact small1000 (by omega)
      · exact same_of (same_of sm n0) hR
      · rw [upd_same, List.map_append]
        rfl
      · rw [List.take_add_one, hs3]
        have hl2 : l ∉ rw := rowL_free rl hl
        refine rowL_snoc (by rw [upd_ne (Ne.symm nR), upd_same]) (rowL_imp (fun q hq o ho => ?_) rl)
        rw [upd_ne (hrw q hq).2, upd_ne (fun z : q = l => hl2 (by rw [← z]; exact hq))]
        exact ho
      · refine List.nodup_append.mpr ⟨nd, (by simp), fun x hx y hy z => ?_⟩
        rw [List.mem_singleton.mp hy] at z
        exact rowL_free rl hl (by rw [← z]; exact hx)
      · intro q hq
        rcases List.mem_append.mp hq with hq | hq
        · exact hrw q hq
        · rw [List.mem_singleton.mp hq]
          exact ⟨n0, Ne.symm nR⟩
    rw [List.length_map, hql, List.take_length] at rl
    have kh1 := sm1 _ _ kh
    have hRH : hd ≠ R := ne_of_none kh hR
    have hdrw : hd ∉ rw := fun m => by rw [(hrw _ m).1] at kh; cases kh
    have Rrw : R ∉ rw := fun m => (hrw _ m).2 rfl
    have smA := sm0.trans sm1
    -- exchanges
    refine ⟨Nat.zero_le _, fun xe hxe => ?_⟩
    have nxH : H xe = none := Same.free smA hxe
    have xh : xe ≠ hd := (ne_of_none kh1 hxe).symm
    have xR : xe ≠ R := (ne_of_none kR hxe).symm
    have xrw : xe ∉ rw := rowL_free rl hxe
    have sm2 : Same H1 (upd H1 xe (.lst [])) := same_upd hxe
    have kx : (upd H1 xe (.lst [])) xe = some (.lst []) := upd_same
    generalize upd H1 xe (.lst []) = H2 at sm2 kx ⊢
    have smB := smA.trans sm2
    -- visits
    refine ⟨.ref p, rfl, p, _, 1, .ref b, rfl, rfl, sqT_same smB hp1, rfl, .int n, rfl, b, rs, n, rfl, hb.same smB, by omega, fun r hr => ⟨(hv.ne r hr).1, by have := hv.r2 r hr; omega⟩, fun H3 f sm3 hf3 tl3 => ?_⟩
    rw [meets_vis hv.ro] at tl3
    obtain ⟨fs, kf, tv⟩ := tl3.ex
    have hfl : fs.length = (vis rs (n - 1)).length := by rw [tupsV_len tv, List.length_map]
    have smC := smB.trans sm3
    have kh3 := sm3 _ _ (sm2 _ _ kh1)
    have kR3 := sm3 _ _ (sm2 _ _ kR)
    have kx3 := sm3 _ _ kx
    have rl3 : RowL H3 rw L.2 := rowL_imp (fun q _ o ho => sm3 _ _ (sm2 _ _ ho)) rl
    have fh : f ≠ hd := fun z => by rw [z, sm2 _ _ kh1] at hf3; cases hf3
    have fR : f ≠ R := fun z => by rw [z, sm2 _ _ kR] at hf3; cases hf3
    have fx : f ≠ xe := fun z => by rw [z, kx] at hf3; cases hf3
    have frw : f ∉ rw := fun m => by
      obtain ⟨xs, e⟩ := rowL_mem rl m
      rw [sm2 _ _ e] at hf3
      cases hf3
    have hL2 : L = (L.1, L.2) := rfl
    refine ⟨f, rfl, ⟨_, .inl (.inl kf)⟩, for_list (xs := fs.map V.ref) (fun i σ H' => (∃ y7 y8 y9 y10 y11, σ = [some (.ref p), some (.int n), some (.ref ca), some (.ref sh), some (.ref hd), some (.ref R), some (.ref xe), y7, y8, y9, y10, y11]) ∧ Same H H' ∧ H' f = some (.lst (fs.map V.ref)) ∧ TupsV H' fs ((vis rs (n - 1)).map fun p => pairV p.1 (p.2 : Nat)) ∧
        H' hd = some (.lst ((steps ((vis rs (n - 1)).take i) L).1.map V.int)) ∧ H' R = some (.lst (rw.map V.ref)) ∧ RowL H' rw (steps ((vis rs (n - 1)).take i) L).2 ∧ TL H' xe (exN (vis rs (n - 1)) L i))
      ⟨⟨_, _, _, _, _, rfl⟩, smC, kf, tv, kh3, kR3, rl3, [], kx3, .nil⟩ (fun i σ H' _ h => .inl (.inl h.2.2.1)) (fun i x σ H' hx ⟨⟨y7, y8, y9, y10, y11, es⟩, sm, kf4, tv4, kh4, kR4, rl4, tl4⟩ => ?_) (fun σ H' ⟨⟨y7, y8, y9, y10, y11, es⟩, sm, kf4, tv4, kh4, kR4, rl4, tl4⟩ => ?_)⟩
    · subst es
      obtain ⟨U, hU, rfl⟩ := refs_lt hx
      obtain ⟨t0, ht0, hUt⟩ := tupsV_at tv4 hU
      rw [List.getElem?_map] at ht0
      cases hv1 : (vis rs (n - 1))[i]? with
      | none => rw [hv1] at ht0; cases ht0
      | some pr =>
      obtain ⟨c, s⟩ := pr
      rw [hv1] at ht0
      obtain rfl : pairV c (s : Nat) = t0 := Option.some.inj ht0
      have hcs := vis_ok hv.ro (n - 1) (c, s) (List.mem_of_getElem? hv1)
      obtain ⟨hc, hs⟩ := hcs
      simp only at hc hs
      have hfi := steps_fits ((vis rs (n - 1)).take i) hf
      have est := steps_take (L := L) hv1
      have eex := exN_succ (L := L) hv1
      generalize hLi : steps ((vis rs (n - 1)).take i) L = Li at kh4 rl4 hfi est eex
      obtain ⟨g1, g2⟩ := fit_at hfi
      obtain ⟨x, hx1⟩ : ∃ x, Li.1[c]? = some x := ⟨_, List.getElem?_eq_getElem (by omega)⟩
      obtain ⟨row, hrow⟩ : ∃ row, Li.2[s]? = some row := ⟨_, List.getElem?_eq_getElem (by omega)⟩
      have hrl := rowL_len rl4
      obtain ⟨q1, hq1⟩ : ∃ q, rw[s]? = some q := ⟨_, List.getElem?_eq_getElem (by omega)⟩
      have hq1m := List.mem_of_getElem? hq1
      obtain ⟨row', hrow', kq⟩ := rowL_at rl4 hq1
      obtain rfl : row = row' := Option.some.inj (hrow.symm.trans hrow')
      have hr9 := fit_row hfi hv.z2 hrow
      have hV1 : (Li.1.map V.int)[c]? = some (.int x) := by rw [List.getElem?_map, hx1]; rfl
      have hV2 : (rw.map V.ref)[s]? = some (.ref q1) := by rw [List.getElem?_map, hq1]; rfl
      refine ⟨U, pairV c (s : Nat), rfl, .inl (.inl hUt), rfl, _, _, rfl, _, _, rfl, rfl, ?_⟩
      refine ⟨.ref hd, rfl, .int (c : Nat), rfl, hd, _, _, _, rfl, rfl, .inl (.inl kh4), atI_nat hV1, ?_⟩
      refine ⟨.ref R, rfl, .int (s : Nat), rfl, R, _, _, .ref q1, rfl, rfl, .inl (.inl kR4), atI_nat hV2, .inl ⟨rfl, _, .inl (.inl kq)⟩, .int x, rfl, q1, _, _, rfl, rfl, kq, ?_, ?_⟩
      · rw [List.length_map]
        exact small1000 (by omega)
      have qR : q1 ≠ R := fun z => Rrw (by rw [← z]; exact hq1m)
      have qh : q1 ≠ hd := fun z => hdrw (by rw [← z]; exact hq1m)
      have qx : q1 ≠ xe := fun z => xrw (by rw [← z]; exact hq1m)
      have qf : q1 ≠ f := fun z => frw (by rw [← z]; exact hq1m)
      have nq : H q1 = none := by
        cases e : H q1 with
        | none => rfl
        | some o => have := sm0 _ _ e; rw [(hrw _ hq1m).1] at this; cases this
      have kq2 : (upd H' q1 (.lst (row.map V.int ++ [.int x]))) q1 = some (.lst (row.map V.int ++ [.int x])) := upd_same
      have kR5 : (upd H' q1 (.lst (row.map V.int ++ [.int x]))) R = some (.lst (rw.map V.ref)) := by rw [upd_ne (Ne.symm qR)]; exact kR4
      have kh5 : (upd H' q1 (.lst (row.map V.int ++ [.int x]))) hd = some (.lst (Li.1.map V.int)) := by rw [upd_ne (Ne.symm qh)]; exact kh4
      have sm5 : Same H (upd H' q1 (.lst (row.map V.int ++ [.int x]))) := same_of sm nq
      have up5 : ∀ b o, b ≠ q1 → H' b = some o → (upd H' q1 (.lst (row.map V.int ++ [.int x]))) b = some o := fun b o hb ho => by rw [upd_ne hb]; exact ho
      generalize upd H' q1 (.lst (row.map V.int ++ [.int x])) = H5 at kq2 kR5 kh5 sm5 up5 ⊢
      have hhead : (row.map V.int ++ [V.int x])[0]? = some (.int (row.headD x)) := by cases row <;> rfl
      have htail : (row.map V.int ++ [V.int x]).eraseIdx 0 = ((row ++ [x]).tail).map V.int := by
        rw [List.eraseIdx_zero, List.map_tail, List.map_append]
        rfl
      refine ⟨.ref R, rfl, .int (s : Nat), rfl, R, _, _, .ref q1, rfl, rfl, .inl (.inl kR5), atI_nat hV2, .inl ⟨rfl, _, .inl (.inl kq2)⟩, q1, _, 0, 0, _, rfl, rfl, kq2, by decide, by decide, ?_, hhead, ?_⟩
      · simp [seqIndex?]
      rw [htail]
      have nhd : H hd = none := h0
      have kh6 : (upd H5 q1 (.lst (((row ++ [x]).tail).map V.int))) hd = some (.lst (Li.1.map V.int)) := by rw [upd_ne (Ne.symm qh)]; exact kh5
      refine ⟨.int (row.headD x), rfl, .ref hd, rfl, .int (c : Nat), rfl, hd, _, _, c, rfl, rfl, kh6, ?_, ?_⟩
      · rw [List.length_map]
        exact ixN_nat (by omega)
      have sm6 : Same H (upd (upd H5 q1 (.lst (((row ++ [x]).tail).map V.int))) hd (.lst ((Li.1.map V.int).set c (.int (row.headD x))))) := same_of (same_of sm5 nq) nhd
      have up6 : ∀ b o, b ≠ q1 → b ≠ hd → H' b = some o → (upd (upd H5 q1 (.lst (((row ++ [x]).tail).map V.int))) hd (.lst ((Li.1.map V.int).set c (.int (row.headD x))))) b = some o := fun b o h1 h2 ho => by
        rw [upd_ne h2, upd_ne h1]
        exact up5 b o h1 ho
      have kh7 : (upd (upd H5 q1 (.lst (((row ++ [x]).tail).map V.int))) hd (.lst ((Li.1.map V.int).set c (.int (row.headD x))))) hd = some (.lst ((step1 Li (c, s)).1.map V.int)) := by
        rw [upd_same, mtch_eq hx1 hrow, List.map_set]
      have rl7 : RowL (upd (upd H5 q1 (.lst (((row ++ [x]).tail).map V.int))) hd (.lst ((Li.1.map V.int).set c (.int (row.headD x))))) rw (step1 Li (c, s)).2 := by
        rw [mtch_eq hx1 hrow]
        refine rowL_imp (fun q hq o ho => ?_) (rowL_set nd rl4 hq1)
        rw [upd_ne (fun z : q = hd => hdrw (by rw [← z]; exact hq))]
        by_cases hqq : q = q1
        · subst hqq
          rw [upd_same] at ho ⊢
          exact ho
        · rw [upd_ne hqq] at ho ⊢
          exact up5 _ _ hqq ho
      generalize upd (upd H5 q1 (.lst (((row ++ [x]).tail).map V.int))) hd (.lst ((Li.1.map V.int).set c (.int (row.headD x)))) = H7 at sm6 up6 kh7 rl7 ⊢
      obtain ⟨ps, kx7, tv7⟩ := tl4.ex
      have kx8 := up6 _ _ (Ne.symm qx) xh kx7
      refine ⟨.ref xe, rfl, .inl ⟨rfl, _, .inl (.inl kx8)⟩, .int (c : Nat), rfl, .int (s : Nat), rfl, .int x, rfl, .int (row.headD x), rfl, (by show 4 ≤ sizeLine; decide), fun t ht => ?_⟩
      have kx9 : (upd H7 t (.tup [.int (c : Nat), .int (s : Nat), .int x, .int (row.headD x)])) xe = some (.lst (ps.map V.ref)) := by rw [upd_ne (ne_of_none kx8 ht)]; exact kx8
      have psl : ps.length ≤ i := by rw [tupsV_len tv7]; exact exN_len _ _ _
      have il : i < (vis rs (n - 1)).length := (List.getElem?_eq_some_iff.mp hv1).1
      have vl := vis_len rs (n - 1)
      have up8 : ∀ b o, b ≠ q1 → b ≠ hd → b ≠ xe → H' b = some o → (upd (upd H7 t (.tup [.int (c : Nat), .int (s : Nat), .int x, .int (row.headD x)])) xe (.lst (ps.map V.ref ++ [.ref t]))) b = some o := fun b o h1 h2 h3 ho => by
        rw [upd_ne h3, upd_ne (ne_of_none (up6 _ _ h1 h2 ho) ht)]
        exact up6 _ _ h1 h2 ho
      have tl9 : TL (upd H7 t (.tup [.int (c : Nat), .int (s : Nat), .int x, .int (row.headD x)])) xe (exN (vis rs (n - 1)) L i) := by
        refine ⟨ps, kx9, tupsV_imp (fun b xs hb => ?_) tv7⟩
        have h1 : b ≠ q1 := fun z => by rw [z, kq] at hb; cases hb
        have h2 : b ≠ hd := fun z => by rw [z, kh4] at hb; cases hb
        have := up6 _ _ h1 h2 hb
        rw [upd_ne (ne_of_none this ht)]
        exact this
      refine ⟨xe, _, _, rfl, rfl, kx9, ?_, ⟨_, _, _, _, _, rfl⟩, same_of (same_of sm6 (Same.free sm6 ht)) nxH, ?_, ?_, ?_, ?_, ?_, ?_⟩
      · rw [List.length_map]
        exact small1000 (by omega)
      · exact up8 _ _ (Ne.symm qf) fh fx kf4
      · refine tupsV_imp (fun b xs hb => ?_) tv4
        exact up8 _ _ (fun z => by rw [z, kq] at hb; cases hb) (fun z => by rw [z, kh4] at hb; cases hb) (fun z => by rw [z, kx7] at hb; cases hb) hb
      · rw [est, upd_ne (Ne.symm xh), upd_ne (ne_of_none kh7 ht)]
        exact kh7
      · exact up8 _ _ (Ne.symm qR) (Ne.symm hRH) (Ne.symm xR) kR4
      · rw [est]
        refine rowL_imp (fun q hq o ho => ?_) rl7
        rw [upd_ne (fun z : q = xe => xrw (by rw [← z]; exact hq)), upd_ne (ne_of_none ho ht)]
        exact ho
      · rw [eex, exch_eq hx1 hrow]
        exact tl9.push kx9 upd_same
    · subst es
      rw [List.length_map, hfl, List.take_length] at kh4 rl4
      rw [List.length_map, hfl] at tl4
      have hrl := rowL_len rl4
      refine ⟨.ref hd, rfl, hd, _, rfl, .inl ⟨.inl (.inl kh4), fun ca' hca' => ?_⟩⟩
      have s1 : Same H' (upd H' ca' (.tup ((steps (vis rs (n - 1)) L).1.map V.int))) := same_upd hca'
      have k1 : (upd H' ca' (.tup ((steps (vis rs (n - 1)) L).1.map V.int))) ca' = some (.tup ((steps (vis rs (n - 1)) L).1.map V.int)) := upd_same
      generalize upd H' ca' (.tup ((steps (vis rs (n - 1)) L).1.map V.int)) = Ha at s1 k1 ⊢
      refine ⟨.ref R, rfl, R, rfl, ⟨_, .inl (.inl (s1 _ _ kR4))⟩, fun D hD => lc_list (xs := rw.map V.ref) (fun i H'' => Same Ha H'' ∧ ∃ qs' : List Addr, H'' D = some (.lst (qs'.map V.ref)) ∧ SegV H'' qs' ((steps (vis rs (n - 1)) L).2.take i))
        ⟨same_upd hD, [], upd_same, .nil⟩ (fun i H'' _ h => .inl (.inl (h.1 _ _ (s1 _ _ kR4)))) (fun i x H'' hx ⟨s2, qs', kD, sv⟩ => ?_) (fun H'' ⟨s2, qs', kD, sv⟩ => ?_)⟩
      · obtain ⟨q1, hq1, rfl⟩ := refs_lt hx
        obtain ⟨row, hrow, kq⟩ := rowL_at rl4 hq1
        have kq2 := s2 _ _ (s1 _ _ kq)
        refine ⟨rfl, yes_go ⟨.ref q1, rfl, q1, _, rfl, .inl ⟨.inl (.inl kq2), fun l hl => ?_⟩⟩⟩
        have nD : D ≠ l := ne_of_none kD hl
        refine ⟨_, by rw [upd_ne nD]; exact kD, ?_, same_of (same_of s2 (Same.free s2 hl)) hD, qs' ++ [l], ?_, ?_⟩
        · rw [List.length_map, segV_len sv, List.length_take]
          have := fit_at (steps_fits (vis rs (n - 1)) hf)
          exact small1000 (by omega)
        · rw [upd_same, List.map_append]
          rfl
        · rw [List.take_add_one, hrow]
          refine segV_imp (fun b xs hb => ?_) (segV_snoc (show (upd H'' l (.tup (row.map V.int))) l = some (.tup (row.map V.int)) from upd_same) (segV_imp (fun b xs hb => same_upd hl _ _ hb) sv))
          rw [upd_ne (fun z : b = D => by rw [z, upd_ne nD, kD] at hb; cases hb)]
          exact hb
      rw [List.length_map, hrl, List.take_length] at sv
      refine ⟨D, _, rfl, .inl ⟨.inl (.inl kD), fun sh' hsh' => ⟨.ref xe, rfl, (by show 3 ≤ sizeLine; decide), fun t ht => ?_⟩⟩⟩
      have ksh : (upd H'' sh' (.tup (qs'.map V.ref))) sh' = some (.tup (qs'.map V.ref)) := upd_same
      have s3 : Same H'' (upd (upd H'' sh' (.tup (qs'.map V.ref))) t (.tup [.ref ca', .ref sh', .ref xe])) := (same_upd hsh').trans (same_upd ht)
      have lay : LayAt (upd (upd H'' sh' (.tup (qs'.map V.ref))) t (.tup [.ref ca', .ref sh', .ref xe])) ca' sh' (steps (vis rs (n - 1)) L).1 (steps (vis rs (n - 1)) L).2 :=
        ⟨s3 _ _ (s2 _ _ k1), qs', by rw [upd_ne (ne_of_none ksh ht)]; exact ksh, segV_imp (fun b xs hb => s3 _ _ hb) sv⟩
      exact q _ t ca' sh' xe ((sm.trans s1).trans (s2.trans s3)) upd_same lay.t ((tl4.same s1).same (s2.trans s3)) nxH
end
end Sv
set_option maxHeartbeats 4000000
namespace Sv
open PySem PySem.Spec PyProof.Rows L2
theorem for_enumL {K : PySem.W.Frag} {a : Addr} {xs : List V} {g : TG} {tb : TS} {D : Ends} {σ : L2.St} {H : Hp} (Pv : Nat → L2.St → Hp → Prop) (h0 : Pv 0 σ H) (hl : ∀ i σ H, i ≤ xs.length → Pv i σ H → SqL K H a xs)
    (turn : ∀ i x σ H T, xs[i]? = some x → Pv i σ H → H T = none → g (.ref T) σ (upd H T (.tup [.int (i : Nat), x])) fun σ' H' => tb { nx := fun σ2 H2 => Pv (i + 1) σ2 H2, rt := D.rt, bk := D.nx, ct := fun σ2 H2 => Pv (i + 1) σ2 H2 } σ' H')
    (after : ∀ σ H, Pv xs.length σ H → D.nx σ H) : ∃ W : Nat → Nat → L2.St → Hp → Prop, (∃ m, W 0 m σ H) ∧ ∀ i m σ H, W i m σ H →
      ((Ite K a).stop i H ∧ D.nx σ H) ∨ ((Ite K a).go i H ∧ ∃ Nx : L2.St → Hp → Prop, (∀ σ' H', Nx σ' H' → ∃ m', m' < m ∧ W (i + 1) m' σ' H') ∧ ∀ x H', (Ite K a).yld i H x H' → g x σ H' fun σ2 H2 => tb { nx := Nx, rt := D.rt, bk := D.nx, ct := Nx } σ2 H2) := by
  refine ⟨fun i m σ H => i + m = xs.length ∧ Pv i σ H, ⟨xs.length, Nat.zero_add _, h0⟩, fun i m σ H ⟨em, hP⟩ => ?_⟩
  have hS := hl i σ H (by omega) hP
  by_cases hi : i < xs.length
  · have gx : xs[i]? = some xs[i] := List.getElem?_eq_getElem hi
    refine .inr ⟨⟨xs, _, hS, gx⟩, fun σ' H' => Pv (i + 1) σ' H', fun σ' H' h => ⟨m - 1, by omega, by omega, h⟩, fun x H' hy => ?_⟩
    obtain ⟨T, y, rfl, nT, rfl, hy⟩ := hy
    have ey : y = xs[i] := Option.some.inj ((hy xs hS).symm.trans gx)
    rw [ey]
    exact turn i _ σ H T gx hP nT
  · have e : i = xs.length := by omega
    refine .inl ⟨⟨xs, hS, by omega⟩, after σ H ?_⟩
    rw [← e]
    exact hP
section
variable {P : Program} {w : World} {K : PySem.W.Frag} {mg : Str → Option Value} {base : Heap}
def iN (l : List Nat) : List Int := l.map fun (n : Nat) => (n : Int)
theorem iN_V (l : List Nat) : (iN l).map V.int = vN l := by unfold iN vN; rw [List.map_map]; rfl
theorem rgV_iN (n : Nat) : rgV 0 (n : Int) = (iN (List.range n)).map V.int := by
  rw [iN_V]
  unfold rgV vN
  simp
/-- a layout of numbers of places -/
def iL (L : Lay Nat) : Lay Int := mapL (fun (n : Nat) => (n : Int)) L
theorem spl_iN (n : Nat) (zs : List Int) (l : List Nat) : spl n zs (iN l) = iL (spl n zs l) := spl_map _ n zs l
theorem run_iL (rs : List Ro) (t : Int) (k : Nat) (L : Lay Nat) : run rs t k (iL L) = iL (run rs t k L) := run_map _ rs t k L
end
end Sv
set_option maxHeartbeats 4000000
namespace Sv
open PySem PySem.Spec PyProof.Rows L2
section
variable {Z : Cx}
/-- a rule for each block of a comprehension -/
abbrev AllBlk (Z : Cx) (sc : Scope) (R : Cx → Prop) : Prop := ∀ (s : Shared) (H : Hp) (c0 : Addr) (cl : List (Str × Addr)) (fp : List Addr), R (Z.blk s H sc (compEnvC sc cl c0 Z.env) fp)
theorem swD_yes {ke ve : Expr} {gens : List Comprehension} {sc : Scope} {dp np : Pos} {nm : Str} {ln : Nat} {ev : Env} (h1 : ev.scope.kind = .function) (h2 : ev.scope.names.lookup nm = some .local) (h3 : (np.line == dp.line) = true)
    (h4 : (sc.names.any fun (a, b) => a == nm && (b == .local || b == .cell)) = false) : swapsWith (.DictComp ke ve gens sc dp) (some (.Name nm np)) ln ev = pure true := by
  have e1 : ev.kindOf nm = some .local := h2
  have e2 : ev.blockKind = .function := by
    unfold Env.blockKind
    rw [h1]
    rfl
  unfold swapsWith
  simp only [e2, e1, h4, Expr.pos, h3]
  rfl
theorem ps_setDc {j : Nat} {nm : Str} {np dp sp : Pos} {ke ve tg it : Expr} {ifs : List Expr} {sc : Scope} {own : List (Str × Nat)} {wi : TI} {g : TG} {tt : TT} {tk tv : TE} (calm : Z.calm = true) (nd : Z.N.Nodup) (hj : Z.N[j]? = some nm) (hl : Z.env.scope.names.lookup nm = some .local)
    (sw : swapsWith (.DictComp ke ve [⟨tg, it, ifs, 0⟩] sc dp) (some (.Name nm np)) sp.line Z.env = pure true) (pi : PI Z tg it wi) (ok : BlkOk Z.N Z.env.scope sc own)
    (p1 : AllBlk Z sc fun B => PG B tg g) (p2 : AllBlk Z sc fun B => PTs B ifs tt) (p3 : AllBlk Z sc fun B => PE B ke tk) (p4 : AllBlk Z sc fun B => PE B ve tv) (fi : ∀ x, foldedSetIterable it Z.env x = pure x := by intro _; rfl) :
    PS Z (.Assign [.Name nm np] (.DictComp ke ve [⟨tg, it, ifs, 0⟩] sc dp) sp) (tAsg (tDc wi g tt tk tv (own.map (·.2))) (gName j)) := by
  refine ⟨fun pins s σ H D I hq0 => ?_⟩
  rw [exec_Assign_Name_used _ _ _ _ sw]
  refine wpAny_bind (wpAny_standAt (wpAny_bind ?_))
  show wpAny _ Z.A (do let _ ← comprehension (.DictComp ke ve [⟨tg, it, ifs, 0⟩] sc dp) sc Z.env (firstIterPos [⟨tg, it, ifs, 0⟩] dp) newDict false (eval it Z.env) (some (assign (.Name nm np) Z.env))) _ _ s
  have hq : tDc wi g tt tk tv (own.map (·.2)) σ H (fun x H1 => gName j x σ H1 D.nx) := hq0
  refine wpAny_bind (thn (dc_core (Qf := fun _ s' => SP Z pins D .next s') calm nd I pi ok p1 p2 p3 p4 fi hq fun d c s1 m1 H1 I1 q1 hns fr => ?_) fun _ s1 h => wpAny_pure (wpAny_pure h))
  show wpAny _ _ (assign (.Name nm np) Z.env (.ref d)) _ _ _
  obtain ⟨x0, x1, x2, x3, x4, x5⟩ := fr
  refine wpAny_assign_Name (store_ok2 (v := V.ref d) I1 nd hj (.inl hl) rfl (fun s2 I2 ⟨a, sb, ha⟩ => ?_) (.inr hl))
  have ne : c ≠ a := by
    rcases ha with z | z
    · rw [z]
      exact x1
    · exact fun e => x4 nm a z e.symm
  exact ⟨m1, hns.sameBut sb ne, fun h3 sb3 => ⟨_, H1, I2.turned (t' := s2.toks) (fun b o hb e => (sb3.2 b hb).trans e) x0 x1 x3 x4 x5, q1⟩⟩
end
/-- the dict is made by the items of a list -/
theorem dc_list {K : PySem.W.Frag} {a : Addr} {xs : List V} {g : TG} {tt : TT} {tk tv : TE} {vs : List Nat} {σ : L2.St} {H1 : Hp} {D : Addr} {Qd : Hp → Prop} (Pv : Nat → Hp → Prop) (start : Pv 0 (upd H1 D (.dK []))) (stays : ∀ i H, i ≤ xs.length → Pv i H → SqL K H a xs)
    (turn : ∀ i x H, xs[i]? = some x → Pv i H → g x (wipe σ vs) H fun σ2 H2 => wipe σ2 vs = wipe σ vs ∧ tt σ2 H2 fun b H3 =>
      if b = true then tk σ2 H3 fun y H4 => tv σ2 H4 fun z H5 => ∃ kvs k, y = kV k ∧ H5 D = some (.dK kvs) ∧ kvs.length < sizeLine ∧ Pv (i + 1) (upd H5 D (.dK (putK kvs k z))) else Pv (i + 1) H3) (after : ∀ H, Pv xs.length H → Qd H) :
    ∃ W : Nat → Nat → Hp → Prop, (∃ m, W 0 m (upd H1 D (.dK []))) ∧ ∀ i m H, W i m H →
      ((Itl K a).stop i H ∧ Qd H) ∨ ((Itl K a).go i H ∧ ∃ Nx : Hp → Prop, (∀ H', Nx H' → ∃ m', m' < m ∧ W (i + 1) m' H') ∧ ∀ x H', (Itl K a).yld i H x H' → g x (wipe σ vs) H' fun σ2 H2 => wipe σ2 vs = wipe σ vs ∧ tt σ2 H2 fun b H3 =>
        if b = true then tk σ2 H3 fun y H4 => tv σ2 H4 fun z H5 => ∃ kvs k, y = kV k ∧ H5 D = some (.dK kvs) ∧ kvs.length < sizeLine ∧ Nx (upd H5 D (.dK (putK kvs k z))) else Nx H3) := by
  refine ⟨fun i m H => m = xs.length - i ∧ i ≤ xs.length ∧ Pv i H, ⟨xs.length, by simp, Nat.zero_le _, start⟩, fun i m H ⟨em, hi, p⟩ => ?_⟩
  subst em
  have st := stays i H hi p
  rcases Nat.lt_or_ge i xs.length with lt | ge
  · refine .inr ⟨⟨xs, xs[i], st, by simp [lt]⟩, Pv (i + 1), fun H' p' => ⟨xs.length - (i + 1), by omega, rfl, lt, p'⟩, fun x H' yl => ?_⟩
    obtain ⟨e, yl⟩ := yl
    subst e
    exact turn i x _ (yl xs st) p
  · obtain rfl : i = xs.length := by omega
    exact .inl ⟨⟨xs, st, Nat.le_refl _⟩, after H p⟩
end Sv
set_option maxHeartbeats 4000000
namespace Sv
open PySem PySem.Spec PyProof.Rows L2
def rIxOfT (K : PySem.W.Frag) : V → List V → Hp → VK → Prop := fun x xs H Q => ∃ (p : Addr) (ys : List V) (y z : V) (j : Nat), x = V.ref p ∧ xs = [y] ∧ SqT K H p ys ∧ flatV y = true ∧ ys.all flatV = true ∧ ys[j]? = some z ∧ eqV z y = true ∧
  (∀ (m : Nat) (v : V), m < j → ys[m]? = some v → eqV v y = false) ∧ Q (.int (j : Nat)) H
theorem mt_tupIx {X : Cx} : MtR X "tuple.index" (rIxOfT X.K) := by
  intro pins s σ H x xs v us Q I rx rs hQ
  obtain ⟨p, ys, y, z, j, rfl, rfl, hq, g1, g2, hz, hzy, before, q⟩ := hQ
  cases rx
  obtain ⟨u0, rfl, ru0⟩ : ∃ u0, us = [u0] ∧ RelV y u0 := by
    cases rs with
    | cons a b =>
      cases b
      exact ⟨_, rfl, a⟩
  obtain ⟨its, r, pl, -⟩ := I.tuple hq
  obtain ⟨⟨c0, dd, d0, sl⟩, ho, hc, n, hd⟩ := pl
  simp only at hc hd
  subst hc hd
  have len : its.length = ys.length := r.length.symm
  have item : ∀ (m : Nat) (hm : m < its.toArray.size) (v : V), ys[m]? = some v → eqU y its.toArray[m] = eqV v y := fun m hm v hv => by
    obtain ⟨w, hw, rw'⟩ := r.get hv
    have e : its.toArray[m] = w := by simpa using (List.getElem?_eq_some_iff.mp hw).2
    rw [e, eqU_of rw' (flat_at g2 hv)]
  have hj : j < its.toArray.size := by
    have := (List.getElem?_eq_some_iff.mp hz).1
    rw [List.size_toArray]
    omega
  refine call_meets PySem.F.slot_tuple_index ⟨_, ho, rfl⟩ PySem.F.entry_tuple_index (PySem.F.args_tuple_index_2 _ _) (TI.tuple_indexAt p its.toArray n dd sl u0 (eqU y) j hj ((item j hj z hz).trans hzy) fun m hm lt => ?_)
    ⟨ho, fun w hw => mem_eqAt ru0 g1 r g2 w (by simpa using hw), .int (j : Nat), H, I.tok _, ⟨_, rfl⟩, q⟩
  have hm' : m < ys.length := by
    rw [List.size_toArray] at hm
    omega
  have hv := List.getElem?_eq_getElem hm'
  exact (item m hm _ hv).trans (before m _ lt hv)
section
variable {Z : Cx}
theorem mk_tupF : CallR Z (.type "tuple") (fun xs H Q => ∃ p ys, xs = [.ref p] ∧ SqL Z.K H p ys ∧ ((∀ l, H l = none → Q (.ref l) (upd H l (.tup ys))) ∨ ∀ l o, H l = none → o.dict = none → Q (.ref l) (upd H l (.frz o (.tup ys))))) := by
  intro pins s σ H xs us Q I rv hq
  obtain ⟨p, ys, rfl, hs, q⟩ := hq
  obtain ⟨u, rfl, ru⟩ : ∃ u, us = [u] ∧ RelV (.ref p) u := by
    cases rv with
    | cons a b =>
      cases b
      exact ⟨_, rfl, a⟩
  cases ru
  obtain ⟨its, vv, pl, hz⟩ := I.list hs
  have hle := vv.length
  refine call_tuple_list pl.isList (fun g kp => ?_) (by simp only [List.size_toArray] <;> omega)
  have J : Inv Z pins σ H { s with heap := g } := I.kept (t' := s.toks) kp
  have old : ∀ b u, g.get? b = some u → (g.push { cls := .type "tuple", data := .seq its.toArray }).get? b = some u := fun b u e => Heap.get?_push_of_some _ e
  have fr := J.hok.fresh (Nat.le_refl g.objs.size)
  rcases q with q | q
  · exact ⟨.ref g.objs.size, _, J.laid (o := .tup ys) (t' := s.toks) old (Nat.le_refl _) ⟨hz, its, vv, IsTup.new _ _⟩, rfl, q _ fr⟩
  · exact ⟨.ref g.objs.size, _, J.laid (o := .frz { cls := .type "tuple", data := .seq its.toArray } (.tup ys)) (t' := s.toks) old (Nat.le_refl _) ⟨Heap.get?_push_size g rfl, hz, its, vv, IsTup.new _ _⟩, rfl, q _ _ fr rfl⟩
/-- o.m(..), o such a tuple -/
def tTupM (r : V → List V → Hp → VK → Prop) (to : TE) (t : TA) : TE := fun σ H Q => to σ H fun x H1 => (∃ p o ys, x = .ref p ∧ H1 p = some (.frz o (.tup ys)) ∧ o.dict = none) ∧ t σ H1 fun xs H2 => r x xs H2 Q
theorem pe_tupM {ob e : Expr} {es : List Expr} {to : TE} {t : TA} {nm : Str} {ap cp : Pos} {bid : String} {r : V → List V → Hp → VK → Prop} (sl : Slot "tuple" nm bid) (ty : typeOf (.builtin bid) = pure (.type "method_descriptor")) (rule : MtR Z bid r) (h1 : PE Z ob to) (h2 : PA Z (e :: es) t)
    (a1 : attributeBase ob nm Z.env (eval ob Z.env) = eval ob Z.env := by rfl)
    (a2 : ((backTo cp (starEach (e :: es) Z.env)).all (fun x => !x.1) && (backToKw cp (keywordEach [] Z.env)).all (fun x => x.1.isSome) && decide ((e :: es).length + ([] : List Keyword).length + (if ([] : List Keyword).isEmpty then 0 else 1) < 30)) = true := by rfl)
    (a3 : (ap.endLine == cp.line) = true := by rfl) (a4 : starEach (e :: es) Z.env = (false, eval e Z.env) :: starEach es Z.env := by rfl) (a5 : (backTo cp (starEach es Z.env)).any (·.1) = false := by rfl) :
    PE Z (.Call (.Attribute ob nm ap) (e :: es) [] cp) (tTupM r to t) := by
  refine ⟨fun pins s σ H Q I h => wpAny_Call_method_late a1 a2 a3 rfl (thn (h1.run pins s σ H _ I h) fun v s1 hv => ?_)⟩
  obtain ⟨x, H1, I1, r1, ⟨p, o, ys, rfl, hp, hd⟩, q1⟩ := hv
  cases r1
  obtain ⟨g1, _, its, _, o2, g2, c2, _⟩ := (show ObjOk Z.prog Z.w H1 s1.heap p (.frz o (.tup ys)) from I1.hok p _ hp)
  obtain rfl : o = o2 := Option.some.inj (g1.symm.trans g2)
  refine ⟨"tuple", bid, PySem.F.plainAttrs_tuple, sl, ty, ⟨o, g1, c2⟩, fun a ea => by cases ea; exact ⟨o, g1, hd⟩, ?_⟩
  have hA := h2.run cp pins s1 σ H1 _ I1 q1
  rw [a4] at hA ⊢
  refine Calls.callWith_builtin (by show (false || (backTo cp (starEach es Z.env)).any (·.1)) = false; rw [a5] <;> rfl) (Calls.evalArgs_plain (thn hA fun us s2 hu => ?_))
  obtain ⟨vs, H2, I2, r2, q2⟩ := hu
  exact rule pins s2 σ H2 (.ref p) vs (.ref p) us Q I2 rfl r2 q2
end
end Sv
set_option maxHeartbeats 4000000
namespace Sv
open PySem PySem.Spec PyProof.Rows L2
def RowV (H : Hp) (rw : List Addr) (ss : List (List V)) : Prop := Paired (fun q s => H q = some (.lst s)) rw ss
theorem rowV_imp {H H' : Hp} : ∀ {rw : List Addr} {ss : List (List V)}, (∀ q ∈ rw, ∀ o, H q = some o → H' q = some o) → RowV H rw ss → RowV H' rw ss
  | _, _, _, .nil => .nil
  | _, _, e, .cons h t => .cons (e _ (List.mem_cons_self ..) _ h) (rowV_imp (fun q hq => e q (List.mem_cons_of_mem _ hq)) t)
theorem rowV_len {H : Hp} : ∀ {rw : List Addr} {ss : List (List V)}, RowV H rw ss → rw.length = ss.length
  | _, _, .nil => rfl
  | _, _, .cons _ t => congrArg Nat.succ (rowV_len t)
theorem rowV_at {H : Hp} : ∀ {rw : List Addr} {ss : List (List V)} {i : Nat} {q : Addr}, RowV H rw ss → rw[i]? = some q → ∃ s, ss[i]? = some s ∧ H q = some (.lst s)
  | _, _, i, _, .nil, e => by simp at e
  | _, _, 0, q, .cons h t, e => by
    obtain rfl := Option.some.inj e
    exact ⟨_, rfl, h⟩
  | _, _, i + 1, q, .cons h t, e => rowV_at (i := i) t (by simpa using e)
theorem rowV_mem {H : Hp} {rw : List Addr} {ss : List (List V)} (h : RowV H rw ss) {q : Addr} (hq : q ∈ rw) : ∃ xs, H q = some (.lst xs) := by
  obtain ⟨i, hi⟩ := List.mem_iff_getElem?.mp hq
  obtain ⟨s, _, e⟩ := rowV_at h hi
  exact ⟨_, e⟩
theorem rowV_free {H : Hp} {rw : List Addr} {ss : List (List V)} (h : RowV H rw ss) {q : Addr} (hq : H q = none) : q ∉ rw := fun m => by
  obtain ⟨xs, e⟩ := rowV_mem h m
  rw [hq] at e
  cases e
theorem rowV_snoc {H : Hp} {q : Addr} {s : List V} (h : H q = some (.lst s)) : ∀ {rw : List Addr} {ss : List (List V)}, RowV H rw ss → RowV H (rw ++ [q]) (ss ++ [s])
  | _, _, .nil => .cons h .nil
  | _, _, .cons r t => .cons r (rowV_snoc h t)
theorem rowV_set {H : Hp} {s' : List V} : ∀ {rw : List Addr} {ss : List (List V)} {i : Nat} {q : Addr}, rw.Nodup → RowV H rw ss → rw[i]? = some q → RowV (upd H q (.lst s')) rw (ss.set i s')
  | _, _, i, _, _, .nil, e => by simp at e
  | r :: rw, s :: ss, 0, q, nd, .cons h t, e => by
    obtain rfl := Option.some.inj e
    refine .cons upd_same (rowV_imp (fun b hb o ho => ?_) t)
    rw [upd_ne (fun z : b = r => (List.nodup_cons.mp nd).1 (by rw [← z]; exact hb))]
    exact ho
  | r :: rw, s :: ss, i + 1, q, nd, .cons h t, e => by
    have e' : rw[i]? = some q := by simpa using e
    refine .cons ?_ (rowV_set (List.nodup_cons.mp nd).2 t e')
    rw [upd_ne (fun z : r = q => (List.nodup_cons.mp nd).1 (by rw [z]; exact List.mem_of_getElem? e'))]
    exact h
def Ox (x : Addr) (H H' : Hp) : Prop := ∀ b o, b ≠ x → H b = some o → H' b = some o
section
variable {x q : Addr} {H H1 H2 : Hp} {o : HO}
theorem Ox.refl (x : Addr) (H : Hp) : Ox x H H := fun _ _ _ e => e
theorem Ox.then (a : Ox x H H1) (b : Same H1 H2) : Ox x H H2 := fun c u n e => b _ _ (a c u n e)
theorem Ox.put (a : Ox x H H1) (o : HO) : Ox x H (upd H1 x o) := fun c u n e => by
  rw [upd_ne n]
  exact a c u n e
theorem Ox.at (a : Ox x H H1) (n : H q = none) (o : HO) : Ox x H (upd H1 q o) := fun c u m e => by
  rw [upd_ne (fun z => by rw [z, n] at e; cases e)]
  exact a c u m e
theorem Ox.free (a : Ox x H H1) (hx : H1 x = some o) (n : H1 q = none) : H q = none := by
  cases e : H q with
  | none => rfl
  | some u =>
    have : q ≠ x := fun z => by rw [z, hx] at n; cases n
    rw [a q u this e] at n
    cases n
theorem sqT_ox {K : PySem.W.Frag} {C dx : Addr} {fs : List (Str × V)} (hx : H x = some (.ins C dx fs)) (e : Ox x H H1) : ∀ a xs, SqT K H a xs → SqT K H1 a xs := fun a xs h => by
  have ne : ∀ u, H a = some u → (∀ C dx fs, u ≠ .ins C dx fs) → a ≠ x := fun u h1 h2 z => by
    rw [z, hx] at h1
    exact h2 _ _ _ (Option.some.inj h1).symm
  rcases h with (h | ⟨u, h⟩) | h
  · exact .inl (.inl (e _ _ (ne _ h fun _ _ _ z => nomatch z) h))
  · exact .inl (.inr ⟨u, e _ _ (ne _ h fun _ _ _ z => nomatch z) h⟩)
  · exact .inr h
theorem sqT_ul {K : PySem.W.Frag} {ys : List V} (hq : H q = some (.lst ys)) (o : HO) : ∀ a xs, SqT K H a xs → SqT K (upd H q o) a xs := fun a xs h => by
  have ne : ∀ u, H a = some u → (∀ zs, u ≠ .lst zs) → a ≠ q := fun u h1 h2 z => by
    rw [z, hq] at h1
    exact h2 _ (Option.some.inj h1).symm
  have st : ∀ u, H a = some u → (∀ zs, u ≠ .lst zs) → upd H q o a = some u := fun u h1 h2 => by
    rw [upd_ne (ne u h1 h2)]
    exact h1
  rcases h with (h | ⟨u, h⟩) | h
  · exact .inl (.inl (st _ h fun _ z => nomatch z))
  · exact .inl (.inr ⟨u, st _ h fun _ z => nomatch z⟩)
  · exact .inr h
end
theorem lk_same (f : Str) (v : V) (fs : List (Str × V)) : (putF f v fs).lookup f = some v := by rw [lookup_putF, if_pos rfl]
theorem lk_ne {f g : Str} (h : g ≠ f) (v : V) (fs : List (Str × V)) : (putF f v fs).lookup g = fs.lookup g := by rw [lookup_putF, if_neg h]
/-- where the parcel of place i is after up to k ticks -/
def stopV (n : Nat) (zs : List Int) (rs : List Ro) (t : Int) (k i : Nat) : List V := (List.range (k + 1)).map fun j => V.int (ap (fwd n zs rs t j) i : Nat)
def stopsV (n : Nat) (zs : List Int) (rs : List Ro) (t : Int) (k : Nat) : List (List V) := (List.range (n + sumN zs)).map (stopV n zs rs t k)
/-- on which shelf x is left by the first k of the visits -/
def lefN (ps : List (Nat × Nat)) (L : Lay Int) (x : Int) : Nat → V
  | 0 => .non
  | k + 1 => match ps[k]? with
    | some p => if x = (steps (ps.take k) L).1.getD p.1 0 then .int (p.2 : Nat) else lefN ps L x k
    | none => lefN ps L x k
def lefV (ps : List (Nat × Nat)) (L : Lay Int) (x : Int) : V := lefN ps L x ps.length
/-- in which shelves the parcel of place i is left, tick by tick -/
def leftV (n : Nat) (zs : List Int) (rs : List Ro) (t : Int) (k i : Nat) : List V := (List.range k).map fun j => lefV (vis rs (t + (j : Nat))) (iL (run rs t j (idx n zs))) (i : Nat)
def leftsV (n : Nat) (zs : List Int) (rs : List Ro) (t : Int) (k : Nat) : List (List V) := (List.range (n + sumN zs)).map (leftV n zs rs t k)
theorem stopV_succ (n : Nat) (zs : List Int) (rs : List Ro) (t : Int) (k i : Nat) : stopV n zs rs t (k + 1) i = stopV n zs rs t k i ++ [.int (ap (fwd n zs rs t (k + 1)) i : Nat)] := by
  unfold stopV
  rw [List.range_succ (n := k + 1), List.map_append]
  rfl
theorem leftV_succ (n : Nat) (zs : List Int) (rs : List Ro) (t : Int) (k i : Nat) : leftV n zs rs t (k + 1) i = leftV n zs rs t k i ++ [lefV (vis rs (t + (k : Nat))) (iL (run rs t k (idx n zs))) (i : Nat)] := by
  unfold leftV
  rw [List.range_succ (n := k), List.map_append]
  rfl
theorem stopV_len (n : Nat) (zs : List Int) (rs : List Ro) (t : Int) (k i : Nat) : (stopV n zs rs t k i).length = k + 1 := by unfold stopV; simp
theorem leftV_len (n : Nat) (zs : List Int) (rs : List Ro) (t : Int) (k i : Nat) : (leftV n zs rs t k i).length = k := by unfold leftV; simp
/-- some of the rows are longer already -/
def midV (n : Nat) (A B : Nat → List V) (om : List Nat) : List (List V) := (List.range n).map fun o => if o ∈ om then B o else A o
theorem midV_at {n : Nat} {A B : Nat → List V} {om : List Nat} {o : Nat} (h : o < n) : (midV n A B om)[o]? = some (if o ∈ om then B o else A o) := by
  unfold midV
  rw [List.getElem?_map, List.getElem?_range h]
  rfl
theorem midV_len (n : Nat) (A B : Nat → List V) (om : List Nat) : (midV n A B om).length = n := by unfold midV; simp
theorem midV_set {n : Nat} {A B : Nat → List V} {om : List Nat} {o : Nat} (h : o < n) : (midV n A B om).set o (B o) = midV n A B (om ++ [o]) := by
  refine List.ext_getElem? fun i => ?_
  rw [List.getElem?_set]
  by_cases hi : i < n
  · rw [midV_at (om := om ++ [o]) hi, midV_at hi]
    by_cases e : o = i
    · subst e
      simp [midV_len, h]
    · simp [e, Ne.symm e]
  · by_cases e : o = i
    · omega
    · rw [if_neg e, List.getElem?_eq_none (by rw [midV_len]; omega), List.getElem?_eq_none (by rw [midV_len]; omega)]
theorem midV_nil (n : Nat) (A B : Nat → List V) : midV n A B [] = (List.range n).map A := by
  unfold midV
  exact List.map_congr_left fun o _ => by simp
theorem midV_all {n : Nat} {A B : Nat → List V} {om : List Nat} (h : ∀ o, o < n → o ∈ om) : midV n A B om = (List.range n).map B := by
  unfold midV
  exact List.map_congr_left fun o ho => by rw [if_pos (h o (List.mem_range.mp ho))]
theorem eff_all {e : List Nat} (E : Eff e) {o : Nat} (h : o < e.length) : o ∈ e := by
  have h1 := ap_inv E h
  have h2 : ap (inv e) o < e.length := by
    have := ap_lt (inv_eff E) (x := o) (by rw [inv_len]; exact h)
    rw [inv_len] at this
    exact this
  have := ap_at h2
  rw [h1] at this
  exact List.mem_of_getElem? this
/-- the dict that a tick's exchanges make -/
theorem valV_lefN {ps : List (Nat × Nat)} {L : Lay Int} {k : Nat} {p : Nat × Nat} {kvs : List (Key × V)} (hp : ps[k]? = some p) (h : ∀ x : Int, (valV kvs (Sum.inl x : Key)).getD .non = lefN ps L x k) (x : Int) :
    (valV (putK kvs (Sum.inl ((steps (ps.take k) L).1.getD p.1 0) : Key) (.int (p.2 : Nat))) (Sum.inl x : Key)).getD .non = lefN ps L x (k + 1) := by
  have e1 : lefN ps L x (k + 1) = if x = (steps (ps.take k) L).1.getD p.1 0 then V.int (p.2 : Nat) else lefN ps L x k := by
    conv => lhs; unfold lefN
    rw [hp]
  rw [valV_put, e1]
  by_cases e : x = (steps (ps.take k) L).1.getD p.1 0
  · rw [if_pos (by rw [e]), if_pos e]
    rfl
  · rw [if_neg (fun z => e (Sum.inl.inj z)), if_neg e]
    exact h x
theorem exN_full (ps : List (Nat × Nat)) (L : Lay Int) : ∀ m, m ≤ ps.length → (exN ps L m).length = m
  | 0, _ => rfl
  | m + 1, h => by
    rw [exN_succ (List.getElem?_eq_getElem (by omega : m < ps.length)), List.length_append, exN_full ps L m (by omega)]
    rfl
theorem exN_at {ps : List (Nat × Nat)} {L : Lay Int} {k : Nat} {p : Nat × Nat} (hp : ps[k]? = some p) : ∀ m, m ≤ ps.length → k < m → (exN ps L m)[k]? = some (exch (steps (ps.take k) L) p)
  | 0, _, h => absurd h (by omega)
  | m + 1, hm, h => by
    have fl := exN_full ps L m (by omega)
    by_cases e : k = m
    · subst e
      rw [exN_succ hp, List.getElem?_append_right (by omega), fl, Nat.sub_self]
      rfl
    · rw [exN_succ (List.getElem?_eq_getElem (by omega : m < ps.length)), List.getElem?_append_left (by omega)]
      exact exN_at hp m (by omega) (by omega)
theorem exL_at {ps : List (Nat × Nat)} {L : Lay Int} {k : Nat} {e : List V} (h : (exL ps L)[k]? = some e) : ∃ p, ps[k]? = some p ∧ e = exch (steps (ps.take k) L) p := by
  unfold exL at h
  have hk : k < ps.length := by
    have := (List.getElem?_eq_some_iff.mp h).1
    rwa [exN_full ps L _ (Nat.le_refl _)] at this
  have hp := List.getElem?_eq_getElem hk
  rw [exN_at hp _ (Nat.le_refl _) hk] at h
  exact ⟨_, hp, (Option.some.inj h).symm⟩
def RI (H3 H' : Hp) (D : Addr) (ss : List (List V)) : Prop := Same H3 H' ∧ ∃ rw : List Addr, H' D = some (.lst (rw.map V.ref)) ∧ RowV H' rw ss ∧ rw.Nodup ∧ ∀ q ∈ rw, H3 q = none ∧ q ≠ D
theorem RI.start {H3 : Hp} {D : Addr} (hD : H3 D = none) : RI H3 (upd H3 D (.lst [])) D [] := ⟨same_upd hD, [], upd_same, .nil, List.nodup_nil, fun q hq => (List.not_mem_nil hq).elim⟩
theorem RI.turn {H3 H' : Hp} {D l : Addr} {ss : List (List V)} {s : List V} (h : RI H3 H' D ss) (hD : H3 D = none) (hl : H' l = none) (hs : ss.length ≤ 1000) :
    ∃ acc, (upd H' l (.lst s)) D = some (.lst acc) ∧ acc.length < sizeLine ∧ RI H3 (upd (upd H' l (.lst s)) D (.lst (acc ++ [.ref l]))) D (ss ++ [s]) := by
  obtain ⟨sm, rw, kD, rl, nd, hrw⟩ := h
  have n0 : H3 l = none := Same.free sm hl
  have nD : D ≠ l := ne_of_none kD hl
  have hrl := rowV_len rl
  have hl2 : l ∉ rw := rowV_free rl hl
  refine ⟨rw.map V.ref, by rw [upd_ne nD]; exact kD, ?_, same_of (same_of sm n0) hD, rw ++ [l], ?_, ?_, ?_, ?_⟩
  · rw [List.length_map, hrl]
    exact small1000 hs
  · rw [upd_same, List.map_append]
    rfl
  · refine rowV_snoc (by rw [upd_ne (Ne.symm nD), upd_same]) (rowV_imp (fun q hq o ho => ?_) rl)
    rw [upd_ne (hrw q hq).2, upd_ne (fun z : q = l => hl2 (by rw [← z]; exact hq))]
    exact ho
  · refine List.nodup_append.mpr ⟨nd, (by simp), fun x hx y hy z => ?_⟩
    rw [List.mem_singleton.mp hy] at z
    exact hl2 (by rw [← z]; exact hx)
  · intro q hq
    rcases List.mem_append.mp hq with hq | hq
    · exact hrw q hq
    · rw [List.mem_singleton.mp hq]
      exact ⟨n0, Ne.symm nD⟩
theorem plan_sq {K : PySem.W.Frag} {H H' : Hp} {p : Addr} {zs : List Int} {rs : List Ro} (x : PlanAt K H p zs rs) (e : ∀ a xs, SqT K H a xs → SqT K H' a xs) : PlanAt K H' p zs rs := by
  obtain ⟨a, b, h1, h2, h3⟩ := x.ex
  obtain ⟨qs, h4, h5⟩ := h3.ex
  exact ⟨a, b, e _ _ h1, e _ _ h2, qs, e _ _ h4, paired_imp (K := K) e h5⟩
structure LapAt (H : Hp) (C a : Addr) (zs : List Int) (rs : List Ro) (t : Int) : Prop where
  ex : ∃ (dx st le ef : Addr) (fs : List (Str × V)) (srw lrw : List Addr), H a = some (.ins C dx fs) ∧ fs.lookup ("length" : Str) = some (.int (lc rs : Nat)) ∧ fs.lookup ("stops" : Str) = some (.ref st) ∧ fs.lookup ("lefts" : Str) = some (.ref le) ∧ fs.lookup ("effect" : Str) = some (.ref ef) ∧
    H st = some (.lst (srw.map V.ref)) ∧ RowV H srw (stopsV rs.length zs rs t (lc rs)) ∧ H le = some (.lst (lrw.map V.ref)) ∧ RowV H lrw (leftsV rs.length zs rs t (lc rs)) ∧ H ef = some (.tup (vN (wh rs.length zs rs t)))
theorem LapAt.same {H H' : Hp} {C a : Addr} {zs : List Int} {rs : List Ro} {t : Int} (h : LapAt H C a zs rs t) (e : Same H H') : LapAt H' C a zs rs t := by
  obtain ⟨dx, st, le, ef, fs, srw, lrw, h1, h2, h3, h4, h5, h6, h7, h8, h9, h10⟩ := h.ex
  exact ⟨dx, st, le, ef, fs, srw, lrw, e _ _ h1, h2, h3, h4, h5, e _ _ h6, rowV_imp (fun q _ o => e q o) h7, e _ _ h8, rowV_imp (fun q _ o => e q o) h9, e _ _ h10⟩
/-- a lap that is being made -/
structure LB (H H' : Hp) (x dx C st le : Addr) (fs : List (Str × V)) (srw lrw : List Addr) (ss ls : List (List V)) : Prop where
  o : Ox x H H'
  x : H' x = some (.ins C dx fs)
  s : H' st = some (.lst (srw.map V.ref))
  l : H' le = some (.lst (lrw.map V.ref))
  sr : RowV H' srw ss
  lr : RowV H' lrw ls
/-- what is new in it, each object apart -/
structure LN (H : Hp) (st le : Addr) (srw lrw : List Addr) : Prop where
  n1 : srw.Nodup
  n2 : lrw.Nodup
  d : ∀ q ∈ srw, q ∉ lrw
  s1 : st ∉ srw
  s2 : st ∉ lrw
  l1 : le ∉ srw
  l2 : le ∉ lrw
  f1 : ∀ q ∈ srw, H q = none
  f2 : ∀ q ∈ lrw, H q = none
section
variable {H H' H2 : Hp} {x dx C st le q : Addr} {fs : List (Str × V)} {srw lrw : List Addr} {ss ls : List (List V)}
theorem LB.same (b : LB H H' x dx C st le fs srw lrw ss ls) (e : Same H' H2) : LB H H2 x dx C st le fs srw lrw ss ls :=
  ⟨b.o.then e, e _ _ b.x, e _ _ b.s, e _ _ b.l, rowV_imp (fun q _ o => e q o) b.sr, rowV_imp (fun q _ o => e q o) b.lr⟩
theorem LB.put1 (b : LB H H' x dx C st le fs srw lrw ss ls) (n : LN H st le srw lrw) {i : Nat} (hi : srw[i]? = some q) (s : List V) : LB H (upd H' q (.lst s)) x dx C st le fs srw lrw (ss.set i s) ls := by
  have m := List.mem_of_getElem? hi
  obtain ⟨xs, hq⟩ := rowV_mem b.sr m
  have qx : x ≠ q := fun z => by rw [← z, b.x] at hq; cases hq
  refine ⟨b.o.at (n.f1 q m) _, by rw [upd_ne qx]; exact b.x, by rw [upd_ne (fun z => n.s1 (by rw [z]; exact m))]; exact b.s, by rw [upd_ne (fun z => n.l1 (by rw [z]; exact m))]; exact b.l, rowV_set n.n1 b.sr hi, rowV_imp (fun r hr o ho => ?_) b.lr⟩
  rw [upd_ne (fun z => n.d q m (by rw [← z]; exact hr))]
  exact ho
theorem LB.put2 (b : LB H H' x dx C st le fs srw lrw ss ls) (n : LN H st le srw lrw) {i : Nat} (hi : lrw[i]? = some q) (s : List V) : LB H (upd H' q (.lst s)) x dx C st le fs srw lrw ss (ls.set i s) := by
  have m := List.mem_of_getElem? hi
  obtain ⟨xs, hq⟩ := rowV_mem b.lr m
  have qx : x ≠ q := fun z => by rw [← z, b.x] at hq; cases hq
  refine ⟨b.o.at (n.f2 q m) _, by rw [upd_ne qx]; exact b.x, by rw [upd_ne (fun z => n.s2 (by rw [z]; exact m))]; exact b.s, by rw [upd_ne (fun z => n.l2 (by rw [z]; exact m))]; exact b.l, rowV_imp (fun r hr o ho => ?_) b.sr, rowV_set n.n2 b.lr hi⟩
  rw [upd_ne (fun z => n.d r hr (by rw [z]; exact m))]
  exact ho
end
end Sv
set_option maxHeartbeats 8000000
namespace Sv
open PySem PySem.Spec PyProof.Rows L2
section
variable {P : Program} {w : World} {K : PySem.W.Frag} {mg : Str → Option Value} {base : Heap}
def nLi : List Str := ["self", "plan", "time", "origins", "carried", "shelves", "step", "exchanges", "lefts", "place", "origin", "_", "shelf", "left", "row"]
theorem scLapInit : FnScope nLi ["self", "plan", "time"] (defScope sLapInit) := ⟨rfl, rfl, rfl, by decide +kernel, rfl, by decide +kernel, by decide +kernel⟩
def spLapInit (K : PySem.W.Frag) (C : Addr) : Sp := fun vs H Q _ => ∃ (x dx p : Addr) (t : Int) (zs : List Int) (rs : List Ro), vs = [.ref x, .ref p, .int t] ∧ H x = some (.ins C dx []) ∧ PlanAt K H p zs rs ∧ Val zs rs ∧
  ∀ H', Ox x H H' → LapAt H' C x zs rs t → Q .non H'
noncomputable abbrev fL1 (rs : List Ro) : List (Str × V) := putF "length" (.int (lc rs : Nat)) []
noncomputable abbrev fL2 (rs : List Ro) (st : Addr) : List (Str × V) := putF "stops" (.ref st) (fL1 rs)
noncomputable abbrev fL3 (rs : List Ro) (st le : Addr) : List (Str × V) := putF "lefts" (.ref le) (fL2 rs st)
noncomputable abbrev fL4 (rs : List Ro) (st le ef : Addr) : List (Str × V) := putF "effect" (.ref ef) (fL3 rs st le)
theorem fl2 (rs : List Ro) (st : Addr) : (fL2 rs st).length ≤ 2 := Nat.le_trans (length_putF _ _ _) (Nat.succ_le_succ (length_putF _ _ _))
theorem fl3 (rs : List Ro) (st le : Addr) : (fL3 rs st le).length ≤ 3 := Nat.le_trans (length_putF _ _ _) (Nat.succ_le_succ (fl2 rs st))
theorem lk3_length (rs : List Ro) (st le : Addr) : (fL3 rs st le).lookup ("length" : Str) = some (.int (lc rs : Nat)) := by
  rw [lk_ne (by decide), lk_ne (by decide), lk_same]
theorem lk3_stops (rs : List Ro) (st le : Addr) : (fL3 rs st le).lookup ("stops" : Str) = some (.ref st) := by
  rw [lk_ne (by decide), lk_same]
theorem lk3_lefts (rs : List Ro) (st le : Addr) : (fL3 rs st le).lookup ("lefts" : Str) = some (.ref le) := lk_same _ _ _
theorem ok_lapInit (T : Bd P K mg) : FnOk P w K mg base CX0 3 T.aLap T.dLap ["self", "plan", "time"] (spLapInit K T.CLap) := by
  have GM : FnOk P w K mg base CX0 2 T.aCommon T.dCommon ["routes"] (spCommon K) := ok_common T
  have GN : FnOk P w K mg base CX0 1 T.aNumPlaces T.dNumPlaces ["plan"] (spNum K) := ok_num T
  have GS : FnOk P w K mg base CX0 1 T.aSplit T.dSplit ["plan", "contents"] (spSplit K) := ok_split T
  have GA : FnOk P w K mg base CX0 2 T.aAfterTick T.dAfterTick ["plan", "number", "carried", "shelves"] (spAfterTick K) := ok_afterTick T
  have GJ : FnOk P w K mg base CX0 1 T.aJoin T.dJoin ["carried", "shelves"] (spJoin K) := ok_join T
  refine T.lap.F.ok scLapInit (fun vs H Q E h => ?_) (fun cdv A outer s H vs Q E hr h => ?_)
  · obtain ⟨x, dx, p, t, zs, rs, rfl, _⟩ := h
    rfl
  · obtain ⟨x, dx, p, t, zs, rs, rfl, hx, hp, hv, q⟩ := h
    have hu := hu_of hr
    refine ⟨_, (pss_cons (ps_fld (pv 0) (pe_call (E := E0) GM hr (by rfl) T.Common.g T.Common.F.kp T.Common.b .nil pass0 (pa_cons (pe_ix ix_tup (pv 1) pe_int (fun _ _ => rfl)) pa_nil)) rfl)
      (pss_cons (ps_set (i := 3) scLapInit.nd rfl (Or.inl rfl) (pe_listRg rfl (by rfl) T.bt.list (prg_1 (by rfl) T.bt.range (pe_call (E := E0) GN (hr.mono (by decide)) (by rfl) T.NumPlaces.g T.NumPlaces.F.kp T.NumPlaces.b .nil pass0 (pa_cons (pv 1) pa_nil)))))
      (pss_cons (ps_fld (pv 0) (pe_lc (own := [("place", 9)]) (g := gName 9) (tt := tYes) (te := tLst (tCons (tVar 9) tNil)) rfl scLapInit.nd (pi_list (pv 3)) (blkOk_by (N := nLi) (sc := defScope sLapInit) (by decide +kernel)) (fun _ _ _ _ _ => pg_name (i := 9) scLapInit.nd rfl (Or.inl rfl)) (fun _ _ _ _ _ => pts_nil) (fun _ _ _ _ _ => pe_lst (pa_cons (pv 9) pa_nil))) rfl)
      (pss_cons (ps_fld (pv 0) (pe_lc (own := [("_", 11)]) (g := gName 11) (tt := tYes) (te := tLst tNil) rfl scLapInit.nd (pi_list (pv 3)) (blkOk_by (N := nLi) (sc := defScope sLapInit) (by decide +kernel)) (fun _ _ _ _ _ => pg_name (i := 11) scLapInit.nd rfl (Or.inl rfl)) (fun _ _ _ _ _ => pts_nil) (fun _ _ _ _ _ => pe_lst pa_nil)) rfl)
      (pss_cons (ps_asg (pe_call (E := E0) GS (hr.mono (by decide)) (by rfl) T.Split.g T.Split.F.kp T.Split.b .nil pass0 (pa_cons (pv 1) (pa_cons (pv 3) pa_nil))) (pg_tup rfl (pgs_cons (pg_name (i := 4) scLapInit.nd rfl (.inl rfl)) (pgs_cons (pg_name (i := 5) scLapInit.nd rfl (.inl rfl)) pgs_nil))))
      (pss_cons (ps_for PassesOwn.never rfl (pi_range1 (by rfl) T.bt.range (pa_cons (pe_fld (pv 0) rfl) pa_nil)) (pg_name (i := 6) scLapInit.nd rfl (Or.inl rfl))
      (pss_cons (ps_asg (pe_call (E := E0) GA hr (by rfl) T.AfterTick.g T.AfterTick.F.kp T.AfterTick.b .nil pass0 (pa_cons (pv 1) (pa_cons (pe_op op_add (pe_op op_add (pv 2) (pv 6)) pe_int) (pa_cons (pv 4) (pa_cons (pv 5) pa_nil))))) (pg_tup rfl (pgs_cons (pg_name (i := 4) scLapInit.nd rfl (.inl rfl)) (pgs_cons (pg_name (i := 5) scLapInit.nd rfl (.inl rfl)) (pgs_cons (pg_name (i := 7) scLapInit.nd rfl (.inl rfl)) pgs_nil)))))
      (pss_cons (ps_setDc (j := 8) (own := [("_", 11), ("shelf", 12), ("left", 13)]) (g := gTup K 4 (gCons (gName 11) (gCons (gName 12) (gCons (gName 13) (gCons (gName 11) gNil))))) (tt := tYes) (tk := tVar 13) (tv := tVar 12) rfl scLapInit.nd rfl rfl (swD_yes rfl rfl rfl (by decide +kernel)) (pi_list (pv 7)) (blkOk_by (N := nLi) (sc := defScope sLapInit) (by decide +kernel)) (fun _ _ _ _ _ => (pg_tup rfl (pgs_cons (pg_name (i := 11) scLapInit.nd rfl (.inl rfl)) (pgs_cons (pg_name (i := 12) scLapInit.nd rfl (.inl rfl)) (pgs_cons (pg_name (i := 13) scLapInit.nd rfl (.inl rfl)) (pgs_cons (pg_name (i := 11) scLapInit.nd rfl (.inl rfl)) pgs_nil)))))) (fun _ _ _ _ _ => pts_nil) (fun _ _ _ _ _ => pv 13) (fun _ _ _ _ _ => pv 12))
      (pss_one (ps_for PassesOwn.never rfl (pi_enum (by rfl) T.bt.enumerate (pa_cons (pe_call (E := E0) GJ (hr.mono (by decide)) (by rfl) T.Join.g T.Join.F.kp T.Join.b .nil pass0 (pa_cons (pv 4) (pa_cons (pv 5) pa_nil))) pa_nil)) (pg_tup rfl (pgs_cons (pg_name (i := 9) scLapInit.nd rfl (.inl rfl)) (pgs_cons (pg_name (i := 10) scLapInit.nd rfl (.inl rfl)) pgs_nil)))
      (pss_cons (ps_expr (pe_bm PySem.F.plainAttrs_list PySem.F.slot_list_append PySem.F.type_list_append mt_append (pe_ix ix_list (pe_fld (pv 0) rfl) (pv 10) (fun _ _ => rfl)) (pa_cons (pv 9) pa_nil)))
      (pss_one (ps_expr (pe_bm PySem.F.plainAttrs_list PySem.F.slot_list_append PySem.F.type_list_append mt_append (pe_ix ix_list (pe_fld (pv 0) rfl) (pv 10) (fun _ _ => rfl)) (pa_cons (pe_dget1 hu (pv 8) (pv 10) ⟨rfl, rfl, rfl, rfl⟩) pa_nil))))))))))
      (pss_one (ps_fld (pv 0) (pe_callTy call_tuple_of (by rfl) T.bt.tuple b_tuple (pa_cons (pe_lc (own := [("row", 14)]) (g := gName 14) (tt := tYes) (te := tOp (rIxL K) (tVar 14) (tUn (rU fun i => .int (-i)) (tC (.int 1)))) rfl scLapInit.nd (pi_list (pe_fld (pv 0) rfl)) (blkOk_by (N := nLi) (sc := defScope sLapInit) (by decide +kernel)) (fun _ _ _ _ _ => pg_name (i := 14) scLapInit.nd rfl (Or.inl rfl)) (fun _ _ _ _ _ => pts_nil) (fun _ _ _ _ _ => pe_ix ix_list (pv 14) (pe_un un_neg pe_int) (fun _ _ => rfl))) pa_nil)) rfl)))))))), ?_⟩
    have hN := hv.num
    have hz12 := hv.z1
    have hr6 := hv.r1
    have b62 : (1000 : Int) < 2 ^ 62 := by decide
    obtain ⟨l1, l60⟩ := lc_le hv.r2
    obtain ⟨a, b, hpt, ha, hb⟩ := hp.ex
    -- length
    refine ⟨.ref p, rfl, p, _, 1, .ref b, rfl, rfl, hpt, rfl, b, rs, rfl, hb, hv.r2, fun H1 sm1 => ?_⟩
    refine ⟨.ref x, rfl, x, T.CLap, dx, _, rfl, sm1 _ _ hx, T.lap.c, T.lap.n1, (by show 0 < 1000; decide), ?_⟩
    have o2 : Ox x H (upd H1 x (.ins T.CLap dx (fL1 rs))) := ((Ox.refl x H).then sm1).put _
    have x2 : (upd H1 x (.ins T.CLap dx (fL1 rs))) x = some (.ins T.CLap dx (fL1 rs)) := upd_same
    generalize upd H1 x (.ins T.CLap dx (fL1 rs)) = H2 at o2 x2 ⊢
    clear sm1
    -- origins
    refine ⟨.ref p, rfl, p, zs, rs, rfl, plan_sq hp (sqT_ox hx o2), fun z hz => (hv.z2 z hz).1, (rs.length + sumN zs : Nat), rfl, ⟨by omega, by omega, by omega, by omega, by omega⟩, fun oc hoc => ?_⟩
    rw [rgV_iN]
    have ocx : oc ≠ x := fun z => by rw [z, x2] at hoc; cases hoc
    have o3 : Ox x H (upd H2 oc (.lst ((iN (List.range (rs.length + sumN zs))).map V.int))) := o2.then (same_upd hoc)
    have x3 : (upd H2 oc (.lst ((iN (List.range (rs.length + sumN zs))).map V.int))) x = some (.ins T.CLap dx (fL1 rs)) := by rw [upd_ne (Ne.symm ocx)]; exact x2
    have k3 : (upd H2 oc (.lst ((iN (List.range (rs.length + sumN zs))).map V.int))) oc = some (.lst ((iN (List.range (rs.length + sumN zs))).map V.int)) := upd_same
    generalize upd H2 oc (.lst ((iN (List.range (rs.length + sumN zs))).map V.int)) = H3 at o3 x3 k3 ⊢
    have il : (iN (List.range (rs.length + sumN zs))).length = rs.length + sumN zs := by unfold iN; rw [List.length_map, List.length_range]
    -- stops
    refine ⟨.ref oc, rfl, oc, rfl, ⟨_, .inl (.inl k3)⟩, fun st hst => lc_list (xs := (iN (List.range (rs.length + sumN zs))).map V.int) (fun i H' => RI H3 H' st ((List.range i).map fun j => [V.int (j : Nat)])) (RI.start hst)
      (fun i H' _ h => .inl (.inl (h.1 _ _ k3))) (fun i y H' hy h => ?_) (fun H4 ⟨sm4, srw, ks, sr, nd1, hsr⟩ => ?_)⟩
    · rw [iN_V] at hy
      obtain ⟨hi, rfl⟩ := vN_lt hy
      rw [List.length_range] at hi
      rw [range_ap hi]
      refine ⟨rfl, yes_go ⟨.int (i : Nat), rfl, (by show 1 ≤ sizeLine; decide), fun l hl => ?_⟩⟩
      obtain ⟨acc, q1, q2, q3⟩ := h.turn (s := [V.int (i : Nat)]) hst hl (by rw [List.length_map, List.length_range]; omega)
      exact ⟨acc, q1, q2, by rw [List.range_succ (n := i), List.map_append]; exact q3⟩
    rw [List.length_map, il] at sr
    have x4 := sm4 _ _ x3
    have k4 := sm4 _ _ k3
    refine ⟨.ref x, rfl, x, T.CLap, dx, _, rfl, x4, T.lap.c, T.lap.n2, (Nat.lt_of_le_of_lt (length_putF _ _ _) (by show 0 + 1 < 1000; decide)), ?_⟩
    have srx : ∀ q ∈ srw, q ≠ x := fun q hq z => by
      have := (hsr q hq).1
      rw [z, x3] at this
      cases this
    have stx : st ≠ x := fun z => by rw [z, x3] at hst; cases hst
    have o5 : Ox x H (upd H4 x (.ins T.CLap dx (fL2 rs st))) := (o3.then sm4).put _
    have x5 : (upd H4 x (.ins T.CLap dx (fL2 rs st))) x = some (.ins T.CLap dx (fL2 rs st)) := upd_same
    have k5 : (upd H4 x (.ins T.CLap dx (fL2 rs st))) oc = some (.lst ((iN (List.range (rs.length + sumN zs))).map V.int)) := by rw [upd_ne ocx]; exact k4
    have s5 : (upd H4 x (.ins T.CLap dx (fL2 rs st))) st = some (.lst (srw.map V.ref)) := by rw [upd_ne stx]; exact ks
    have r5 : RowV (upd H4 x (.ins T.CLap dx (fL2 rs st))) srw ((List.range (rs.length + sumN zs)).map fun j => [V.int (j : Nat)]) := rowV_imp (fun q hq o ho => by rw [upd_ne (srx q hq)]; exact ho) sr
    generalize upd H4 x (.ins T.CLap dx (fL2 rs st)) = H5 at o5 x5 k5 s5 r5 ⊢
    have f1 : ∀ q ∈ srw, H q = none := fun q hq => o3.free x3 (hsr q hq).1
    -- lefts
    refine ⟨.ref oc, rfl, oc, rfl, ⟨_, .inl (.inl k5)⟩, fun le hle => lc_list (xs := (iN (List.range (rs.length + sumN zs))).map V.int) (fun i H' => RI H5 H' le ((List.range i).map fun _ => [])) (RI.start hle)
      (fun i H' _ h => .inl (.inl (h.1 _ _ k5))) (fun i y H' hy h => ?_) (fun H6 ⟨sm6, lrw, kl, lr, nd2, hlr⟩ => ?_)⟩
    · have hi := (List.getElem?_eq_some_iff.mp hy).1
      rw [List.length_map, il] at hi
      refine ⟨rfl, yes_go ⟨Nat.zero_le _, fun l hl => ?_⟩⟩
      obtain ⟨acc, q1, q2, q3⟩ := h.turn (s := []) hle hl (by rw [List.length_map, List.length_range]; omega)
      exact ⟨acc, q1, q2, by rw [List.range_succ (n := i), List.map_append]; exact q3⟩
    rw [List.length_map, il] at lr
    have x6 := sm6 _ _ x5
    refine ⟨.ref x, rfl, x, T.CLap, dx, _, rfl, x6, T.lap.c, T.lap.n3, Nat.lt_of_le_of_lt (fl2 rs st) (by decide), ?_⟩
    have lrx : ∀ q ∈ lrw, q ≠ x := fun q hq z => by
      have := (hlr q hq).1
      rw [z, x5] at this
      cases this
    have lex : le ≠ x := fun z => by rw [z, x5] at hle; cases hle
    have o7 : Ox x H (upd H6 x (.ins T.CLap dx (fL3 rs st le))) := (o5.then sm6).put _
    have b7 : LB H (upd H6 x (.ins T.CLap dx (fL3 rs st le))) x dx T.CLap st le (fL3 rs st le) srw lrw (stopsV rs.length zs rs t 0) (leftsV rs.length zs rs t 0) := by
      refine ⟨o7, upd_same, by rw [upd_ne stx]; exact sm6 _ _ s5, by rw [upd_ne lex]; exact kl, ?_, ?_⟩
      · have e : stopsV rs.length zs rs t 0 = (List.range (rs.length + sumN zs)).map fun j => [V.int (j : Nat)] := by
          unfold stopsV
          refine List.map_congr_left fun o ho => ?_
          show [V.int (ap (fwd rs.length zs rs t 0) o : Nat)] = _
          rw [fwd_zero, range_ap (List.mem_range.mp ho)]
        rw [e]
        exact rowV_imp (fun q hq o ho => by rw [upd_ne (srx q hq)]; exact sm6 _ _ ho) r5
      · exact rowV_imp (fun q hq o ho => by rw [upd_ne (lrx q hq)]; exact ho) lr
    have n7 : LN H st le srw lrw := by
      refine ⟨nd1, nd2, fun q hq hq2 => ?_, fun m => (hsr _ m).2 rfl, fun m => ?_, fun m => ?_, fun m => (hlr _ m).2 rfl, f1, fun q hq => o5.free x5 (hlr q hq).1⟩
      · obtain ⟨xs, e⟩ := rowV_mem r5 hq
        rw [(hlr q hq2).1] at e
        cases e
      · have := (hlr _ m).1
        rw [s5] at this
        cases this
      · obtain ⟨xs, e⟩ := rowV_mem r5 m
        rw [hle] at e
        cases e
    have k7 : (upd H6 x (.ins T.CLap dx (fL3 rs st le))) oc = some (.lst ((iN (List.range (rs.length + sumN zs))).map V.int)) := by rw [upd_ne ocx]; exact sm6 _ _ k5
    generalize upd H6 x (.ins T.CLap dx (fL3 rs st le)) = H7 at b7 k7 o7 ⊢
    -- the layout
    refine ⟨.ref p, rfl, .ref oc, rfl, p, oc, zs, rs, iN (List.range (rs.length + sumN zs)), rfl, plan_sq hp (sqT_ox hx o7), .inl (.inl k7), hv.z2, hv.z1.2, hv.r1.2, by omega, fun H8 tp ca sh sm8 ht lay => ?_⟩
    have el : spl rs.length zs (iN (List.range (rs.length + sumN zs))) = iL (run rs t 0 (idx rs.length zs)) := spl_iN _ _ _
    have lay0 : LayT K H8 ca sh (iL (run rs t 0 (idx rs.length zs))).1 (iL (run rs t 0 (idx rs.length zs))).2 := by
      rw [← el]
      exact lay.t
    refine ⟨tp, [.ref ca, .ref sh], rfl, .inl (.inl ht), rfl, _, _, rfl, _, _, rfl, rfl, ?_⟩
    have b8 := b7.same sm8
    refine ⟨.ref x, rfl, x, T.CLap, dx, _, _, rfl, b8.x, T.lap.c, T.lap.n1, lk3_length rs st le, (lc rs : Nat), rfl, by omega, by omega, ?_⟩
    rw [Int.toNat_natCast]
    refine for_range (lo := 0) (n := lc rs) (fun i σ H' => (∃ ca' sh' y6 y7 y8 y9 y10 y11 y12 y13 y14, σ = [some (.ref x), some (.ref p), some (.int t), some (.ref oc), some (.ref ca'), some (.ref sh'), y6, y7, y8, y9, y10, y11, y12, y13, y14] ∧ LayT K H' ca' sh' (iL (run rs t i (idx rs.length zs))).1 (iL (run rs t i (idx rs.length zs))).2) ∧
        LB H H' x dx T.CLap st le (fL3 rs st le) srw lrw (stopsV rs.length zs rs t i) (leftsV rs.length zs rs t i))
      ⟨⟨_, _, _, _, _, _, _, _, _, _, _, rfl, lay0⟩, b8⟩ (fun i σ H' hi ⟨⟨ca', sh', y6, y7, y8, y9, y10, y11, y12, y13, y14, es, hl⟩, bi⟩ => ?_) (fun σ H9 ⟨⟨ca', sh', y6, y7, y8, y9, y10, y11, y12, y13, y14, es, hl⟩, b9⟩ => ?_)
    · subst es
      have hfi : Fits rs.length zs (iL (run rs t i (idx rs.length zs))) := by
        rw [← run_iL]
        have e0 : iL (idx rs.length zs) = spl rs.length zs (iN (List.range (rs.length + sumN zs))) := (spl_iN _ _ _).symm
        rw [e0]
        exact run_fits _ _ _ (spl_fits il)
      refine ⟨.ref p, rfl, .int t, rfl, .int (0 + (i : Nat)), rfl, t, _, rfl, rfl, _, 1, rfl, rfl, .ref ca', rfl, .ref sh', rfl, p, ca', sh', _, zs, rs, iL (run rs t i (idx rs.length zs)), rfl, plan_sq hp (sqT_ox hx bi.o), hv, hl, hfi, fun H4 tq c' s' xe sm4 ht4 lay4 tl4 hx4 => ?_⟩
      have en : t + (0 + (i : Int)) + 1 - 1 = t + (i : Nat) := by omega
      rw [en] at lay4 tl4
      have es : tickL rs (t + (i : Nat)) (iL (run rs t i (idx rs.length zs))) = iL (run rs t (i + 1) (idx rs.length zs)) := by
        rw [← run_iL, ← run_iL]
        rfl
      rw [es] at lay4
      refine ⟨tq, _, rfl, .inl (.inl ht4), rfl, _, _, rfl, _, _, rfl, _, _, rfl, rfl, ?_⟩
      have b4 := bi.same sm4
      clear bi sm4
      -- who is left where
      obtain ⟨ps, kx, tv⟩ := tl4.ex
      have hpl := tupsV_len tv
      refine ⟨.ref xe, rfl, xe, rfl, ⟨_, .inl (.inl kx)⟩, fun D hD => dc_list (xs := ps.map V.ref) (fun k H' => Same H4 H' ∧ ∃ kvs : List (Key × V), H' D = some (.dK kvs) ∧ kvs.length ≤ k ∧ ∀ z : Int, (valV kvs (Sum.inl z : Key)).getD .non = lefN (vis rs (t + (i : Nat))) (iL (run rs t i (idx rs.length zs))) z k)
        ⟨same_upd hD, [], upd_same, Nat.le_refl _, fun z => rfl⟩ (fun k H' _ h => .inl (.inl (h.1 _ _ kx))) (fun k y H' hy ⟨sm, kvs, kd, kl, kv⟩ => ?_) (fun H5 ⟨sm5, kvs, kd, kl, kv⟩ => ?_)⟩
      · obtain ⟨U, hU, rfl⟩ := refs_lt hy
        obtain ⟨t0, ht0, hUt⟩ := tupsV_at (tupsV_same sm tv) hU
        obtain ⟨pr, hpr, rfl⟩ := exL_at ht0
        have hk := (List.getElem?_eq_some_iff.mp hpr).1
        have hvl := vis_len rs (t + (i : Nat))
        refine ⟨U, _, rfl, .inl (.inl hUt), rfl, _, _, rfl, _, _, rfl, _, _, rfl, _, _, rfl, rfl, ?_⟩
        exact ⟨rfl, yes_go ⟨_, rfl, _, rfl, kvs, Sum.inl _, rfl, kd, small1000 (by omega), same_of sm hD, _, upd_same, Nat.le_trans (length_putK _ _ _) (Nat.succ_le_succ kl), fun z => valV_lefN hpr kv z⟩⟩
      have b5 := b4.same sm5
      have lay5 := lay4.same sm5
      have kv5 : ∀ z : Int, (valV kvs (Sum.inl z : Key)).getD .non = lefV (vis rs (t + (i : Nat))) (iL (run rs t i (idx rs.length zs))) z := fun z => by
        rw [kv z, List.length_map, hpl]
        unfold lefV exL
        rw [exN_full _ _ _ (Nat.le_refl _)]
      clear b4 lay4 kv
      -- the places
      have ol := org_len rs.length zs rs t (i + 1)
      have oe := org_eff rs.length zs rs t (i + 1)
      have ej : (iL (run rs t (i + 1) (idx rs.length zs))).1 ++ (iL (run rs t (i + 1) (idx rs.length zs))).2.flatten = iN (org rs.length zs rs t (i + 1)) := join_map _ _
      refine ⟨.ref c', rfl, .ref s', rfl, c', s', _, _, rfl, lay5, ?_, fun H6 f sm6 hf6 kf6 => ?_⟩
      · rw [← List.length_append, ej]
        unfold iN
        rw [List.length_map, ol]
        omega
      rw [ej, iN_V] at kf6
      have b6 := b5.same sm6
      have lay6 := lay5.same sm6
      have kd6 := sm6 _ _ kd
      have f1' : f ∉ srw := rowV_free b5.sr hf6
      have f2' : f ∉ lrw := rowV_free b5.lr hf6
      generalize hom : org rs.length zs rs t (i + 1) = om at ol oe kf6
      have hfw : fwd rs.length zs rs t (i + 1) = inv om := by
        unfold fwd
        rw [hom]
      clear b5 lay5 kd
      refine ⟨f, vN om, rfl, .inl (.inl kf6), for_enumL (xs := vN om) (fun m σ H' => (∃ y9 y10 y11 y12 y13 y14, σ = [some (.ref x), some (.ref p), some (.int t), some (.ref oc), some (.ref c'), some (.ref s'), some (.int (0 + (i : Nat))), some (.ref xe), some (.ref D), y9, y10, y11, y12, y13, y14]) ∧
          LayT K H' c' s' (iL (run rs t (i + 1) (idx rs.length zs))).1 (iL (run rs t (i + 1) (idx rs.length zs))).2 ∧ H' f = some (.lst (vN om)) ∧ H' D = some (.dK kvs) ∧
          LB H H' x dx T.CLap st le (fL3 rs st le) srw lrw (midV (rs.length + sumN zs) (stopV rs.length zs rs t i) (stopV rs.length zs rs t (i + 1)) (om.take m)) (midV (rs.length + sumN zs) (leftV rs.length zs rs t i) (leftV rs.length zs rs t (i + 1)) (om.take m)))
        ⟨⟨_, _, _, _, _, _, rfl⟩, lay6, kf6, kd6, by rw [List.take_zero, midV_nil, midV_nil]; exact b6⟩ (fun m σ H' _ h => .inl (.inl h.2.2.1)) (fun m y σ H' U hy ⟨⟨y9, y10, y11, y12, y13, y14, es⟩, la, kf, kd, bm⟩ hU => ?_) (fun σ H' ⟨⟨y9, y10, y11, y12, y13, y14, es⟩, la, kf, kd, bm⟩ => ?_)⟩
      · subst es
        obtain ⟨hm, rfl⟩ := vN_lt hy
        have smU : Same H' (upd H' U (.tup [.int (m : Nat), .int (ap om m : Nat)])) := same_upd hU
        refine ⟨U, [.int (m : Nat), .int (ap om m : Nat)], rfl, .inl (.inl upd_same), rfl, _, _, rfl, _, _, rfl, rfl, ?_⟩
        have bu := bm.same smU
        have lu := la.same smU
        have ku := smU _ _ kf
        have du := smU _ _ kd
        generalize upd H' U (.tup [.int (m : Nat), .int (ap om m : Nat)]) = H7 at bu lu ku du ⊢
        clear bm la kf kd smU
        have hsl := rowV_len bu.sr
        have hll := rowV_len bu.lr
        rw [midV_len] at hsl hll
        have ho : ap om m < rs.length + sumN zs := by
          have := ap_lt oe hm
          omega
        have onot : ap om m ∉ om.take m := fun z => by
          obtain ⟨j, hj⟩ := List.mem_iff_getElem?.mp z
          have hjm : j < m := by
            have := (List.getElem?_eq_some_iff.mp hj).1
            rw [List.length_take] at this
            omega
          rw [List.getElem?_take, if_pos hjm, ap_at (by omega)] at hj
          have := ap_inj oe (by omega) hm (Option.some.inj hj)
          omega
        have etk : om.take (m + 1) = om.take m ++ [ap om m] := by
          rw [List.take_add_one, ap_at hm]
          rfl
        have eback : ap (fwd rs.length zs rs t (i + 1)) (ap om m) = m := by
          rw [hfw]
          exact inv_ap oe hm
        have hvl := vis_len rs (t + (i : Nat))
        generalize hoo : ap om m = o at ho onot etk eback ⊢
        -- stops
        obtain ⟨q1, hq1⟩ : ∃ q1, srw[o]? = some q1 := ⟨_, List.getElem?_eq_getElem (by omega)⟩
        obtain ⟨q2, hq2⟩ : ∃ q2, lrw[o]? = some q2 := ⟨_, List.getElem?_eq_getElem (by omega)⟩
        obtain ⟨s1, es1, kq1⟩ := rowV_at bu.sr hq1
        rw [midV_at ho, if_neg onot] at es1
        obtain rfl := Option.some.inj es1
        have hV1 : (srw.map V.ref)[o]? = some (.ref q1) := by rw [List.getElem?_map, hq1]; rfl
        have hV2 : (lrw.map V.ref)[o]? = some (.ref q2) := by rw [List.getElem?_map, hq2]; rfl
        refine ⟨.ref x, rfl, x, T.CLap, dx, _, .ref st, rfl, bu.x, T.lap.c, T.lap.n2, lk3_stops rs st le, .int (o : Nat), rfl, st, _, _, .ref q1, rfl, rfl, .inl (.inl bu.s), atI_nat hV1, .inl ⟨rfl, _, .inl (.inl kq1)⟩, .int (m : Nat), rfl, q1, _, _, rfl, rfl, kq1, small1000 (by rw [stopV_len]; omega), ?_⟩
        have e1 : stopV rs.length zs rs t i o ++ [V.int (m : Nat)] = stopV rs.length zs rs t (i + 1) o := by rw [stopV_succ, eback]
        rw [e1]
        have b8 := bu.put1 n7 hq1 (stopV rs.length zs rs t (i + 1) o)
        rw [midV_set ho, ← etk] at b8
        have l8 := lu.imp (sqT_ul kq1 (.lst (stopV rs.length zs rs t (i + 1) o)))
        have k8 : (upd H7 q1 (.lst (stopV rs.length zs rs t (i + 1) o))) f = some (.lst (vN om)) := by
          rw [upd_ne (fun z => f1' (by rw [z]; exact List.mem_of_getElem? hq1))]
          exact ku
        have d8 : (upd H7 q1 (.lst (stopV rs.length zs rs t (i + 1) o))) D = some (.dK kvs) := by
          rw [upd_ne (fun z => by rw [z, kq1] at du; cases du)]
          exact du
        generalize upd H7 q1 (.lst (stopV rs.length zs rs t (i + 1) o)) = H8 at b8 l8 k8 d8 ⊢
        -- lefts
        obtain ⟨s2, es2, kq2⟩ := rowV_at b8.lr hq2
        rw [midV_at ho, if_neg onot] at es2
        obtain rfl := Option.some.inj es2
        refine ⟨.ref x, rfl, x, T.CLap, dx, _, .ref le, rfl, b8.x, T.lap.c, T.lap.n3, lk3_lefts rs st le, .int (o : Nat), rfl, le, _, _, .ref q2, rfl, rfl, .inl (.inl b8.l), atI_nat hV2, .inl ⟨rfl, _, .inl (.inl kq2)⟩,
          .ref D, rfl, D, rfl, .inl ⟨kvs, .inl d8⟩, .int (o : Nat), rfl, _, DGet.k (k := Sum.inl (o : Int)) d8, q2, _, _, rfl, rfl, kq2, small1000 (by rw [leftV_len]; omega), ?_⟩
        have e2 : leftV rs.length zs rs t i o ++ [(valV kvs (Sum.inl (o : Int) : Key)).getD .non] = leftV rs.length zs rs t (i + 1) o := by rw [leftV_succ, kv5]
        rw [e2]
        have b9 := b8.put2 n7 hq2 (leftV rs.length zs rs t (i + 1) o)
        rw [midV_set ho, ← etk] at b9
        refine ⟨⟨_, _, _, _, _, _, rfl⟩, l8.imp (sqT_ul kq2 _), ?_, ?_, b9⟩
        · rw [upd_ne (fun z => f2' (by rw [z]; exact List.mem_of_getElem? hq2))]
          exact k8
        · rw [upd_ne (fun z => by rw [z, kq2] at d8; cases d8)]
          exact d8
      · subst es
        rw [vN_len, List.take_length, midV_all (fun o ho => eff_all oe (by omega)), midV_all (fun o ho => eff_all oe (by omega))] at bm
        exact ⟨⟨_, _, _, _, _, _, _, _, _, _, _, rfl, la⟩, bm⟩
    · subst es
      have wl := wh_len rs.length zs rs t
      obtain ⟨l', hl'⟩ : ∃ l', lc rs = l' + 1 := ⟨lc rs - 1, by omega⟩
      have hsl := rowV_len b9.sr
      have esl : (stopsV rs.length zs rs t (lc rs)).length = rs.length + sumN zs := by unfold stopsV; rw [List.length_map, List.length_range]
      rw [esl] at hsl
      refine ⟨.ref x, rfl, x, T.CLap, dx, _, .ref st, rfl, b9.x, T.lap.c, T.lap.n2, lk3_stops rs st le, st, rfl, ⟨_, .inl (.inl b9.s)⟩, fun D hD => lc_list (xs := srw.map V.ref) (fun k H' => Same H9 H' ∧ H' D = some (.lst (vN ((wh rs.length zs rs t).take k)))) ⟨same_upd hD, upd_same⟩
        (fun k H' _ h => .inl (.inl (h.1 _ _ b9.s))) (fun k y H' hy ⟨sm, kD⟩ => ?_) (fun H' ⟨sm, kD⟩ => ?_)⟩
      · obtain ⟨q1, hq1, rfl⟩ := refs_lt hy
        obtain ⟨s1, es1, kq1⟩ := rowV_at (rowV_imp (fun q _ o ho => sm _ _ ho) b9.sr) hq1
        have hk := (List.getElem?_eq_some_iff.mp hq1).1
        unfold stopsV at es1
        rw [List.getElem?_map, List.getElem?_range (by omega)] at es1
        obtain rfl := Option.some.inj es1
        have e1 : stopV rs.length zs rs t (lc rs) k = stopV rs.length zs rs t l' k ++ [.int (ap (wh rs.length zs rs t) k : Nat)] := by
          unfold wh
          rw [hl', stopV_succ]
        rw [e1] at kq1
        refine ⟨rfl, yes_go ⟨.ref q1, rfl, 1, rfl, q1, _, _, _, rfl, rfl, .inl (.inl kq1), atI_last _ _, _, kD, ?_, same_of sm hD, ?_⟩⟩
        · rw [vN_len, List.length_take]
          exact small1000 (by omega)
        · rw [upd_same, vN_snoc (by omega)]
      · rw [List.length_map, hsl, ← wl, List.take_length] at kD
        refine ⟨D, _, rfl, .inl ⟨.inl (.inl kD), fun ef hef => ?_⟩⟩
        have bA := b9.same (sm.trans (same_upd (o := .tup (vN (wh rs.length zs rs t))) hef))
        have kE : (upd H' ef (.tup (vN (wh rs.length zs rs t)))) ef = some (.tup (vN (wh rs.length zs rs t))) := upd_same
        generalize upd H' ef (.tup (vN (wh rs.length zs rs t))) = HA at bA kE ⊢
        refine ⟨.ref x, rfl, x, T.CLap, dx, _, rfl, bA.x, T.lap.c, T.lap.n4, Nat.lt_of_le_of_lt (fl3 rs st le) (by decide), ?_⟩
        have nx : ∀ q, (∃ xs, HA q = some (.lst xs)) → q ≠ x := fun q ⟨xs, h⟩ z => by
          rw [z, bA.x] at h
          cases h
        refine q _ (bA.o.put _) ⟨dx, st, le, ef, fL4 rs st le ef, srw, lrw, upd_same, ?_, ?_, ?_, lk_same _ _ _, ?_, ?_, ?_, ?_, ?_⟩
        · rw [lk_ne (by decide)]
          exact lk3_length rs st le
        · rw [lk_ne (by decide)]
          exact lk3_stops rs st le
        · rw [lk_ne (by decide)]
          exact lk3_lefts rs st le
        · rw [upd_ne (nx st ⟨_, bA.s⟩)]
          exact bA.s
        · exact rowV_imp (fun r hr o ho => by rw [upd_ne (nx r (rowV_mem bA.sr hr))]; exact ho) bA.sr
        · rw [upd_ne (nx le ⟨_, bA.l⟩)]
          exact bA.l
        · exact rowV_imp (fun r hr o ho => by rw [upd_ne (nx r (rowV_mem bA.lr hr))]; exact ho) bA.lr
        · rw [upd_ne (fun z => by rw [z, bA.x] at kE; cases kE)]
          exact kE
end
end Sv
set_option maxHeartbeats 4000000
namespace Sv
open PySem PySem.Spec PyProof.Rows L2
section
variable {P : Program} {w : World} {K : PySem.W.Frag} {mg : Str → Option Value} {base : Heap}
def nEt : List Str := ["plan", "time", "count", "lap", "laps", "rest", "place"]
theorem scEffectTicks : FnScope nEt ["plan", "time", "count"] (defScope sEffectTicks) := ⟨rfl, rfl, rfl, by decide +kernel, rfl, by decide +kernel, by decide +kernel⟩
theorem NewT.imp {H H1 : Hp} {g : List Nat} {Q : VK} (h : NewT H g Q) (e : Same H H1) : NewT H1 g Q := fun H' p sm hp hq => h H' p (e.trans sm) (Same.free e hp) hq
theorem same_make {H H' : Hp} {x dx C : Addr} {fs : List (Str × V)} (n1 : H x = none) (n2 : H dx = none) (o : Ox x (upd (upd H dx (.own x)) x (.ins C dx fs)) H') : Same H H' := fun b u e => by
  have h1 := ne_of_none e n1
  have h2 := ne_of_none e n2
  exact o b u h1 (by rw [upd_ne h1, upd_ne h2]; exact e)
/-- a new effect that is known to have no attributes of its own -/
def NewF (H : Hp) (g : List Nat) (Q : VK) : Prop := ∀ H' p o, Same H H' → H p = none → H' p = some (.frz o (.tup (vN g))) → o.dict = none → Q (.ref p) H'
theorem NewF.imp {H H1 : Hp} {g : List Nat} {Q : VK} (h : NewF H g Q) (e : Same H H1) : NewF H1 g Q := fun H' p o sm hp hq hd => h H' p o (e.trans sm) (Same.free e hp) hq hd
def spEffectTicks (K : PySem.W.Frag) : Sp := fun vs H Q _ => ∃ (p : Addr) (t c : Int) (zs : List Int) (rs : List Ro), vs = [.ref p, .int t, .int c] ∧ PlanAt K H p zs rs ∧ Val zs rs ∧ (NewT H (effT rs.length zs rs t c) Q ∨ NewF H (effT rs.length zs rs t c) Q)
theorem ok_effectTicks (T : Bd P K mg) : FnOk P w K mg base CX0 5 T.aEffectTicks T.dEffectTicks ["plan", "time", "count"] (spEffectTicks K) := by
  have GI : FnOk P w K mg base CX0 3 T.aLap T.dLap ["self", "plan", "time"] (spLapInit K T.CLap) := ok_lapInit T
  have GR : FnOk P w K mg base CX0 3 T.aRepeated T.dRepeated ["effect", "count"] (spRepeated K) := ok_repeated T
  refine T.EffectTicks.F.ok scEffectTicks (fun vs H Q E h => ?_) (fun cdv A outer s H vs Q E hr h => ?_)
  · obtain ⟨p, t, c, zs, rs, rfl, _⟩ := h
    rfl
  · obtain ⟨p, t, c, zs, rs, rfl, hp, hv, q⟩ := h
    refine ⟨_, (pss_cons (ps_set (i := 3) scEffectTicks.nd rfl (Or.inr rfl) (pe_make T.lap.m GI hr (by rfl) T.lap.g T.lap.b .nil pass0 (pa_cons (pv 0) (pa_cons (pv 1) pa_nil))))
      (pss_cons (ps_asg (pe_callB call_divmod (by rfl) T.bt.divmod (by decide +kernel) (pa_cons (pv 2) (pa_cons (pe_fld (pv 3) rfl) pa_nil))) (pg_tup rfl (pgs_cons (pg_name (i := 4) scEffectTicks.nd rfl (.inl rfl)) (pgs_cons (pg_name (i := 5) scEffectTicks.nd rfl (.inr rfl)) pgs_nil))))
      (pss_one (ps_ret (pe_callTy mk_tupF (by rfl) T.bt.tuple b_tuple (pa_cons (pe_lc (own := [("place", 6)]) (g := gName 6) (tt := tYes) (te := tOp (rIxL K) (tOp (rIxL K) (tFld K (tVar 3) "stops") (tVar 6)) (tVar 5)) rfl scEffectTicks.nd (pi_tup (pe_call (E := E0) GR (hr.mono (by decide)) (by rfl) T.Repeated.g T.Repeated.F.kp T.Repeated.b .nil pass0 (pa_cons (pe_fld (pv 3) rfl) (pa_cons (pv 4) pa_nil)))) (blkOk_by (N := nEt) (sc := defScope sEffectTicks) (by decide +kernel)) (fun _ _ _ _ _ => pg_name (i := 6) scEffectTicks.nd rfl (Or.inl rfl)) (fun _ _ _ _ _ => pts_nil) (fun _ _ _ _ _ => pe_ix ix_list (pe_ix ix_list (pe_fld (pv 3) rfl) (pv 6) (fun _ _ => rfl)) (pv 5) (fun _ _ => rfl))) pa_nil)))))), ?_⟩
    have hN := hv.num
    obtain ⟨l1, l60⟩ := lc_le hv.r2
    refine ⟨.ref p, rfl, .int t, rfl, fun la dl n1 n2 ne => ⟨la, dl, p, t, zs, rs, rfl, upd_same, hp.same (same_of (same_upd n2) n1), hv, fun H1 o lap => ⟨rfl, ?_⟩⟩⟩
    have sm1 := same_make n1 n2 o
    obtain ⟨dx, st, le, ef, fs, srw, lrw, h1, h2, h3, h4, h5, h6, h7, h8, h9, h10⟩ := lap.ex
    refine ⟨.int c, rfl, .ref la, rfl, la, T.CLap, dx, fs, _, rfl, h1, T.lap.c, T.lap.n1, h2, c, (lc rs : Nat), rfl, ⟨by omega, by omega⟩, fun tp htp => ?_⟩
    have sm2 : Same H1 (upd H1 tp (.tup [.int (c / (lc rs : Nat)), .int (c % (lc rs : Nat))])) := same_upd htp
    have k3 : (upd H1 tp (.tup [.int (c / (lc rs : Nat)), .int (c % (lc rs : Nat))])) tp = some (.tup [.int (c / (lc rs : Nat)), .int (c % (lc rs : Nat))]) := upd_same
    generalize upd H1 tp (.tup [.int (c / (lc rs : Nat)), .int (c % (lc rs : Nat))]) = H3 at sm2 k3 ⊢
    refine ⟨tp, _, rfl, .inl (.inl k3), rfl, _, _, rfl, _, _, rfl, rfl, ?_⟩
    have wl := wh_len rs.length zs rs t
    have m0 := Int.emod_nonneg c (show ((lc rs : Nat) : Int) ≠ 0 by omega)
    have m1 := Int.emod_lt_of_pos c (show (0 : Int) < ((lc rs : Nat) : Int) by omega)
    obtain ⟨r, hr1⟩ : ∃ r : Nat, c % ((lc rs : Nat) : Int) = (r : Int) := ⟨_, (Int.toNat_of_nonneg m0).symm⟩
    refine ⟨.ref la, rfl, la, T.CLap, dx, fs, _, rfl, sm2 _ _ h1, T.lap.c, T.lap.n4, h5, .int (c / (lc rs : Nat)), rfl, ef, wh rs.length zs rs t, c / (lc rs : Nat), rfl, .inl (.inl (sm2 _ _ h10)), wh_eff .., by omega, fun H4 w1 sm4 nw1 kw1 => ?_⟩
    have smA := sm2.trans sm4
    have ee : effT rs.length zs rs t c = comp (rep (wh rs.length zs rs t) (c / (lc rs : Nat))) (fwd rs.length zs rs t r) := by
      unfold effT
      rw [hr1, Int.toNat_natCast]
    have rl := rep_len (wh rs.length zs rs t) (c / (lc rs : Nat))
    have re := rep_eff (wh_eff rs.length zs rs t) (c / (lc rs : Nat))
    have hsl := rowV_len h7
    have esl : (stopsV rs.length zs rs t (lc rs)).length = rs.length + sumN zs := by unfold stopsV; rw [List.length_map, List.length_range]
    have eln := effT_len rs.length zs rs t c
    rw [hr1]
    refine ⟨w1, rfl, ⟨_, .inl (.inl kw1)⟩, fun D hD => lc_tup (xs := vN (rep (wh rs.length zs rs t) (c / (lc rs : Nat)))) (fun k H' => Same H4 H' ∧ H' D = some (.lst (vN ((effT rs.length zs rs t c).take k)))) ⟨same_upd hD, upd_same⟩
      (fun k H' _ h => .inl (.inl (h.1 _ _ kw1))) (fun k y H' hy ⟨sm, kD⟩ => ?_) (fun H' ⟨sm, kD⟩ => ?_)⟩
    · obtain ⟨hk, rfl⟩ := vN_lt hy
      have ho := ap_lt re hk
      have smB := smA.trans sm
      generalize hoo : ap (rep (wh rs.length zs rs t) (c / (lc rs : Nat))) k = o at ho ⊢
      obtain ⟨q1, hq1⟩ : ∃ q1, srw[o]? = some q1 := ⟨_, List.getElem?_eq_getElem (by omega)⟩
      obtain ⟨s1, es1, kq1⟩ := rowV_at (rowV_imp (fun q _ o ho => smB _ _ ho) h7) hq1
      unfold stopsV at es1
      rw [List.getElem?_map, List.getElem?_range (by omega)] at es1
      obtain rfl := Option.some.inj es1
      have hV : (srw.map V.ref)[o]? = some (.ref q1) := by rw [List.getElem?_map, hq1]; rfl
      have hS : (stopV rs.length zs rs t (lc rs) o)[r]? = some (.int (ap (fwd rs.length zs rs t r) o : Nat)) := by
        unfold stopV
        rw [List.getElem?_map, List.getElem?_range (by omega)]
        rfl
      refine ⟨rfl, yes_go ⟨.ref la, rfl, la, T.CLap, dx, fs, _, rfl, smB _ _ h1, T.lap.c, T.lap.n2, h3, .int (o : Nat), rfl, st, _, _, .ref q1, rfl, rfl, .inl (.inl (smB _ _ h6)), atI_nat hV, .int (r : Nat), rfl, q1, _, _, _, rfl, rfl, .inl (.inl kq1), atI_nat hS, _, kD, ?_, same_of sm hD, ?_⟩⟩
      · rw [vN_len, List.length_take]
        exact small1000 (by omega)
      · have e1 : ap (effT rs.length zs rs t c) k = ap (fwd rs.length zs rs t r) o := by
          rw [ee, comp_ap hk, hoo]
        rw [upd_same, vN_snoc (by omega), e1]
    · rw [vN_len, rl, wl, ← eln, List.take_length] at kD
      refine ⟨D, _, rfl, .inl (.inl kD), ?_⟩
      have smZ := (sm1.trans smA).trans sm
      rcases q with q | q
      · exact .inl fun l hl => q _ l (smZ.trans (same_upd hl)) (Same.free smZ hl) upd_same
      · exact .inr fun l o hl hd => q _ l o (smZ.trans (same_upd hl)) (Same.free smZ hl) upd_same hd
end
end Sv
set_option maxHeartbeats 4000000
namespace Sv
open PySem PySem.Spec PyProof.Rows L2
section
abbrev zmA (h : Heap) (a : Addr) : Heap := h.push { cls := .type "list_iterator", data := .fields #[.ref a, .int 0 0] }
abbrev zmB (h : Heap) (a b : Addr) : Heap := (zmA h a).push { cls := .type "tuple_iterator", data := .fields #[.ref b, .int 0 0] }
abbrev zmC (h : Heap) (a b : Addr) : Heap := (zmB h a b).push { cls := .type "tuple", data := .seq #[.ref h.objs.size, .ref (zmA h a).objs.size] }
abbrev zmD (h : Heap) (a b : Addr) : Heap := (zmC h a b).push { cls := .type "tuple", data := .seq #[.none, .none] }
abbrev zmE (h : Heap) (a b : Addr) : Heap := (zmD h a b).push { cls := .type "zip", data := .fields #[.none, .bool false, .bool false, .ref (zmB h a b).objs.size, .ref (zmC h a b).objs.size] }
theorem zm_meets (a b : Addr) (xs ys : Array Value) :
    Meets (Builtin.«zip.__new__» ⟨[.type "zip", .ref a, .ref b], []⟩) (fun _ R s => s.heap.IsList a xs ∧ s.heap.IsTuple b ys ∧ R (.ok (.ret (.ref (zmD s.heap a b).objs.size))) { s with heap := zmE s.heap a b }) :=
  .of_wp fun prog w A R s h => by
    obtain ⟨hp, g, d, tk, os⟩ := s
    obtain ⟨ha, hb, h⟩ := h
    have z1 := sub_zip
    have la : Heap.IsList (Shared.heap ⟨hp, g, d, tk, os⟩) a xs := ha
    have lb : Heap.IsTuple (Shared.heap ⟨zmA hp a, g, d, tk, os⟩) b ys := Heap.IsTuple.push hb _
    wp_walk using wpAny_pyIter_list la, wpAny_pyIter_tuple lb
    exact ⟨_, rfl, h⟩
end
section
variable {prog : Program} {w : World} {A : Around} {E : Value → Shared → Prop} {s : Shared}
theorem call_zipM {a b : Addr} {xs ys : Array Value} {Q : Value → Shared → Prop} (ha : s.heap.IsList a xs) (hb : s.heap.IsTuple b ys)
    (q : ∀ h', IsZip h' (s.heap.objs.size + 4) (s.heap.objs.size + 2) (s.heap.objs.size + 3) .none → IsTupOf2 h' (s.heap.objs.size + 2) (.ref s.heap.objs.size) (.ref (s.heap.objs.size + 1)) → IsTupOf2 h' (s.heap.objs.size + 3) .none .none →
      h'.IsListIter s.heap.objs.size a 0 → h'.IsTupleIter (s.heap.objs.size + 1) b 0 → h'.objs.size = s.heap.objs.size + 5 → (∀ c o, s.heap.get? c = some o → h'.get? c = some o) → Q (.ref (s.heap.objs.size + 4)) { s with heap := h' }) :
    wpAny (model prog w) A (call (.type "zip") [.ref a, .ref b]) Q E s := by
  refine callType_new F.called_zip (by decide) (F.typeCall_zip_2 _ _) (F.newCall_zip_2 _ _) (fun obj => F.args_object_init_3 obj _ _) F.entry_zip_new (zm_meets a b xs ys) ⟨ha, hb, ?_⟩
  have n1 : (zmA s.heap a).objs.size = s.heap.objs.size + 1 := Heap.size_push ..
  have n2 : (zmB s.heap a b).objs.size = s.heap.objs.size + 2 := by rw [Heap.size_push, n1]
  have n3 : (zmC s.heap a b).objs.size = s.heap.objs.size + 3 := by rw [Heap.size_push, n2]
  have n4 : (zmD s.heap a b).objs.size = s.heap.objs.size + 4 := by rw [Heap.size_push, n3]
  have n5 : (zmE s.heap a b).objs.size = s.heap.objs.size + 5 := by rw [Heap.size_push, n4]
  have up : ∀ {h : Heap} {c : Addr} {o : Obj} (o2 : Obj), h.get? c = some o → (h.push o2).get? c = some o := fun o2 e => Heap.get?_push_of_some _ e
  have t5 : (zmE s.heap a b).get? (zmD s.heap a b).objs.size = some _ := Heap.get?_push_size _ rfl
  have t4 : (zmE s.heap a b).get? (zmC s.heap a b).objs.size = some _ := up _ (Heap.get?_push_size _ rfl)
  have t3 : (zmE s.heap a b).get? (zmB s.heap a b).objs.size = some _ := up _ (up _ (Heap.get?_push_size _ rfl))
  have t2 : (zmE s.heap a b).get? (zmA s.heap a).objs.size = some _ := up _ (up _ (up _ (Heap.get?_push_size _ rfl)))
  have t1 : (zmE s.heap a b).get? s.heap.objs.size = some _ := up _ (up _ (up _ (up _ (Heap.get?_push_size _ rfl))))
  show _ ∧ _
  rw [n2, n3, n4] at t5
  rw [n1, n2] at t3
  rw [n3] at t4
  rw [n1] at t2
  rw [n4]
  exact ⟨⟨_, t5, rfl⟩, q _ t5 t3 t4 ⟨_, t1, rfl, rfl⟩ ⟨_, t2, rfl, rfl⟩ n5 fun c o e => up _ (up _ (up _ (up _ (up _ e))))⟩
end
/-- the list at a and the tuple at b as they stand at each turn -/
def ItzM (K : PySem.W.Frag) (a b : Addr) : It :=
  ⟨fun i H => ∃ (xs ys : List V) (x y : V), SqL K H a xs ∧ SqT K H b ys ∧ xs[i]? = some x ∧ ys[i]? = some y,
    fun i H v H' => ∃ T x y, v = .ref T ∧ H T = none ∧ H' = upd H T (.tup [x, y]) ∧ (∀ l, SqL K H a l → l[i]? = some x) ∧ ∀ l, SqT K H b l → l[i]? = some y,
    fun i H => ∃ xs ys : List V, SqL K H a xs ∧ SqT K H b ys ∧ i = xs.length ∧ i = ys.length⟩
theorem zm_sep {n a b : Nat} (ha : a < n) (hb : b < n) : ZipSep2 (n + 4) (n + 2) (n + 3) n (n + 1) [n, a] [n + 1, b] := by
  have ne : ∀ {x y : Nat}, x < y ∨ y < x → x ≠ y := fun h e => by omega
  constructor <;> first | (apply ne; omega) | (intro m; simp at m; exact ne (by omega) m) | simp
theorem turn_zipM {P : Program} {w : World} {K : PySem.W.Frag} {elts : List Expr} {kk : Nat} {tpos : Pos} {a b n : Nat} (ha : a < n) (hb : b < n) :
    Turn P w K (.Tuple elts kk tpos) (ItzM K a b) [n + 4, n + 2, n + 3, n, n + 1] (n + 4) (fun i h => IsZip h (n + 4) (n + 2) (n + 3) .none ∧ IsTupOf2 h (n + 2) (.ref n) (.ref (n + 1)) ∧ (∃ x y, IsTupOf2 h (n + 3) x y) ∧ h.IsListIter n a i ∧ h.IsTupleIter (n + 1) b i) where
  mem := by simp
  obj := fun i h st c hc => by
    obtain ⟨u1, u2, ⟨x, y, u3⟩, ⟨o1, u4, _, d1⟩, ⟨o2, u5, _, d2⟩⟩ := st
    have cs : c = n + 4 ∨ c = n + 2 ∨ c = n + 3 ∨ c = n ∨ c = n + 1 := by simpa using hc
    rcases cs with q | q | q | q | q <;> subst q
    · exact ⟨_, u1, fun v q => nomatch q⟩
    · exact ⟨_, u2, fun v q => nomatch q⟩
    · exact ⟨_, u3, fun v q => nomatch q⟩
    · exact ⟨o1, u4, fun v q => by rw [d1] at q; cases q⟩
    · exact ⟨o2, u5, fun v q => by rw [d2] at q; cases q⟩
  keep := fun i h h' st k => by
    obtain ⟨u1, u2, ⟨x, y, u3⟩, u4, u5⟩ := st
    exact ⟨k _ (by simp) _ u1, k _ (by simp) _ u2, ⟨x, y, k _ (by simp) _ u3⟩, u4.at fun o q => k _ (by simp) o q, u5.at fun o q => k _ (by simp) o q⟩
  item := by
    intro X hP hw hK hc i pins s σ H E I hf st hg
    subst hP hw hK
    obtain ⟨u1, u2, ⟨x0, y0, u3⟩, u4, u5⟩ := st
    obtain ⟨xs, ys, x, y, qx, qy, hx, hy⟩ := hg
    obtain ⟨ia, ra, pa, _⟩ := I.list qx
    obtain ⟨ib, rb, pb, _⟩ := I.tuple qy
    obtain ⟨ux, hux, rx⟩ := ra.get hx
    obtain ⟨uy, huy, ry⟩ := rb.get hy
    have la : i < ia.toArray.size := by simpa using (List.getElem?_eq_some_iff.mp hux).1
    have lb : i < ib.toArray.size := by simpa using (List.getElem?_eq_some_iff.mp huy).1
    have hh : X.A.in1.handled = none := by simpa using I.ok.hd hc
    have zl := Heap.lt_size u1
    refine wpAny_pyNext_zipD2_item (zm_sep ha hb) (Draws.list hh n a (Nat.ne_of_lt ha) ia.toArray) (Draws.tuple hh (n + 1) b (Nat.ne_of_lt (Nat.lt_succ_of_lt hb)) ib.toArray) u1 u2 u3 ⟨u4, pa.isList⟩ ⟨u5, pb⟩ la lb fun v1 v2 h' tk e1 e2 b1 b2 d1 d2 hT hsz hk => ?_
    obtain rfl : v1 = ux := by
      have z : ia.toArray[i]? = some v1 := e1
      rw [show ia.toArray[i]? = some ux by simpa using hux] at z
      exact (Option.some.inj z).symm
    obtain rfl : v2 = uy := by
      have z : ib.toArray[i]? = some v2 := e2
      rw [show ib.toArray[i]? = some uy by simpa using huy] at z
      exact (Option.some.inj z).symm
    refine ⟨_, rfl, wpAny_letOwnedTupleGo_zip (s := { s with heap := h', toks := tk }) b1 fun h'' z'' sb => ?_⟩
    have nz : ∀ c, c ≠ n + 4 → h''.get? c = h'.get? c := fun c hc => sb.2 c hc
    have T2 : h''.get? s.heap.objs.size = some { cls := .type "tuple", data := .seq #[v1, v2] } := (nz _ (Nat.ne_of_gt zl)).trans hT
    have new : ObjOk X.prog X.w (upd H s.heap.objs.size (.tup [x, y])) h'' s.heap.objs.size (.tup [x, y]) :=
      ⟨by show 2 ≤ sizeLine; decide, [v1, v2], .cons rx (.cons ry .nil), ⟨_, T2, rfl, _, rfl⟩⟩
    have I1 : Inv X pins σ (upd H s.heap.objs.size (.tup [x, y])) { s with heap := h'', toks := tk } :=
      I.turnedNew (ch := [n + 4, n + 2, n + 3, n, n + 1]) (fun c o hb q => by
        have m1 : c ≠ n + 4 := fun z => hb (by simp [z])
        exact (nz c m1).trans (hk c o m1 (fun z => hb (by simp [z])) (fun z => hb (by simp [z])) (fun z => hb (by simp [z])) q)) hf (Nat.le_refl _) new
    have neq : ∀ {x y : Nat}, x < y ∨ y < x → x ≠ y := fun h e => by omega
    refine ⟨.ref s.heap.objs.size, _, I1, rfl, ⟨_, x, y, rfl, I.hok.fresh (Nat.le_refl _), rfl, fun l hl => by rw [I.list_inj hl qx]; exact hx, fun l hl => by rw [I.tuple_inj hl qy]; exact hy⟩, ⟨z'', ?_, ⟨v1, v2, ?_⟩, ?_, ?_⟩, fun c hcm => ?_⟩
    · exact (nz _ (neq (by omega))).trans (hk _ _ (neq (by omega)) (neq (by omega)) (neq (by omega)) (neq (by omega)) u2)
    · exact (nz _ (neq (by omega))).trans b2
    · exact d1.1.at fun o q => (nz _ (neq (by omega))).trans q
    · exact d2.1.at fun o q => (nz _ (neq (by omega))).trans q
    · have lt : c < s.heap.objs.size := by
        have cs : c = n + 4 ∨ c = n + 2 ∨ c = n + 3 ∨ c = n ∨ c = n + 1 := by simpa using hcm
        have le4 : ∀ k, k ≤ 4 → n + k < s.heap.objs.size := fun k hk => Nat.lt_of_le_of_lt (Nat.add_le_add_left hk n) zl
        rcases cs with q | q | q | q | q <;> subst q
        · exact le4 4 (by decide)
        · exact le4 2 (by decide)
        · exact le4 3 (by decide)
        · exact le4 0 (by decide)
        · exact le4 1 (by decide)
      rw [upd_ne (Nat.ne_of_lt lt)]
      exact (hf c hcm).1
  done := by
    intro X hP hw hK hc i pins s σ H E I hf st hg
    subst hP hw hK
    obtain ⟨u1, u2, ⟨x0, y0, u3⟩, u4, u5⟩ := st
    obtain ⟨xs, ys, qx, qy, e1, e2⟩ := hg
    obtain ⟨ia, ra, pa, _⟩ := I.list qx
    obtain ⟨ib, rb, pb, _⟩ := I.tuple qy
    have l1 := ra.length
    have l2 := rb.length
    have hh : X.A.in1.handled = none := by simpa using I.ok.hd hc
    have s1 : i = ia.toArray.size := by simp; omega
    have s2 : i = ib.toArray.size := by simp; omega
    exact wpAny_pyNext_zipD2_end (zm_sep ha hb) (Draws.list hh n a (Nat.ne_of_lt ha) ia.toArray) (Draws.tuple hh (n + 1) b (Nat.ne_of_lt (Nat.lt_succ_of_lt hb)) ib.toArray) u1 u2 u3 ⟨u4, pa.isList⟩ ⟨u5, pb⟩ (Nat.le_of_eq s1) (Nat.le_of_eq s2) (.inl s1) fun h' tk hk =>
      ⟨rfl, I.turnedL (t' := tk) (ch := [n + 4, n + 2, n + 3, n, n + 1]) (fun c o hb q => hk c o (fun z => hb (by simp [z])) (fun z => hb (by simp [z])) (fun z => hb (by simp [z])) (fun z => hb (by simp [z])) q) hf⟩
  self := fun A i s Q E st h => wpAny_pyIter_zip st.1 h
def iZipM (K : PySem.W.Frag) (ta : TA) : TI := fun σ H R => ta σ H fun vs H1 => ∃ a b xs ys, vs = [.ref a, .ref b] ∧ SqL K H1 a xs ∧ SqT K H1 b ys ∧ R (ItzM K a b) H1
theorem pi_zipM {X : Cx} {e e2 : Expr} {ta : TA} {p pos tpos : Pos} {elts : List Expr} {kk : Nat} (hg : Gl X "zip") (hm : X.mg "zip" = none) (ha : PA X [e, e2] ta)
    (h1 : starEach [e, e2] X.env = (false, eval e X.env) :: starEach [e2] X.env := by rfl) (h2 : (backTo pos (starEach [e2] X.env)).any (·.1) = false := by rfl) : PI X (.Tuple elts kk tpos) (.Call (.Name "zip" p) [e, e2] [] pos) (iZipM X.K ta) := by
  refine ⟨fun pins s σ H R I h => Call_ (ld_blt I hg hm PyProof.Rows.boot_zip (PyProof.Rows.callWith_type1 (thn (ha.run pos pins s σ H _ I h) fun us s1 ⟨vs, H1, I1, r1, a, b, xs, ys, ex, qx, qy, q⟩ => ?_) h1 h2))⟩
  subst ex
  cases r1 with
  | cons r rr =>
  cases rr with
  | cons r' rr =>
  cases rr
  cases r
  cases r'
  obtain ⟨ia, ra, pa, _⟩ := I1.list qx
  obtain ⟨ib, rb, pb, _⟩ := I1.tuple qy
  have lb : b < s1.heap.objs.size := (let ⟨_, z, _⟩ := pb; Heap.lt_size z)
  refine call_zipM pa.isList pb fun h' z1 z2 z3 z4 z5 zs hk => wpAny_pyIter_zip z1 ?_
  have I2 : Inv X pins σ H1 { s1 with heap := h' } := I1.kept (t' := s1.toks) hk
  refine ⟨s1.heap.objs.size + 4, [s1.heap.objs.size + 4, s1.heap.objs.size + 2, s1.heap.objs.size + 3, s1.heap.objs.size, s1.heap.objs.size + 1], _, _, H1, rfl, I2, turn_zipM pa.lt lb, ⟨z1, z2, ⟨_, _, z3⟩, z4, z5⟩, fun c hcm => ?_, q⟩
  have le : s1.heap.objs.size ≤ c := by
    have cs : c = s1.heap.objs.size + 4 ∨ c = s1.heap.objs.size + 2 ∨ c = s1.heap.objs.size + 3 ∨ c = s1.heap.objs.size ∨ c = s1.heap.objs.size + 1 := by simpa using hcm
    rcases cs with z | z | z | z | z <;> rw [z] <;> first | exact Nat.le_refl _ | exact Nat.le_add_right _ _
  exact I1.fpOk le (I1.hok.fresh le)
/-- a loop over zip of a list and a tuple of one length -/
theorem for_zipM {K : PySem.W.Frag} {a b : Addr} {xs ys : List V} {g : TG} {tb : TS} {D : Ends} {σ : L2.St} {H : Hp} (hl : xs.length = ys.length) (Pv : Nat → L2.St → Hp → Prop) (h0 : Pv 0 σ H) (hq : ∀ i σ H, Pv i σ H → SqL K H a xs ∧ SqT K H b ys)
    (turn : ∀ (i : Nat) (x y : V) (T : Addr) (σ : L2.St) (H : Hp), xs[i]? = some x → ys[i]? = some y → Pv i σ H → H T = none → g (.ref T) σ (upd H T (.tup [x, y])) fun σ2 H2 => tb { D with nx := Pv (i + 1), ct := Pv (i + 1), bk := D.nx } σ2 H2) (after : ∀ σ H, Pv xs.length σ H → D.nx σ H) :
    ∃ W : Nat → Nat → L2.St → Hp → Prop, (∃ m, W 0 m σ H) ∧ ∀ i m σ H, W i m σ H →
      ((ItzM K a b).stop i H ∧ D.nx σ H) ∨ ((ItzM K a b).go i H ∧ ∃ N : L2.St → Hp → Prop, (∀ σ' H', N σ' H' → ∃ m', m' < m ∧ W (i + 1) m' σ' H') ∧ ∀ v H', (ItzM K a b).yld i H v H' → g v σ H' fun σ2 H2 => tb { D with nx := N, ct := N, bk := D.nx } σ2 H2) := by
  refine ⟨fun i m σ H => i + m = xs.length ∧ Pv i σ H, ⟨xs.length, Nat.zero_add _, h0⟩, fun i m σ H ⟨em, hP⟩ => ?_⟩
  obtain ⟨qx, qy⟩ := hq i σ H hP
  by_cases hi : i < xs.length
  · have gx : xs[i]? = some xs[i] := List.getElem?_eq_getElem hi
    have gy : ys[i]? = some (ys[i]'(by omega)) := List.getElem?_eq_getElem (by omega)
    refine .inr ⟨⟨xs, ys, _, _, qx, qy, gx, gy⟩, Pv (i + 1), fun σ' H' z => ⟨m - 1, by omega, by omega, z⟩, fun v H' hy => ?_⟩
    obtain ⟨T, x', y', rfl, nT, rfl, f1, f2⟩ := hy
    exact turn i x' y' T σ H (f1 xs qx) (f2 ys qy) hP nT
  · have e : i = xs.length := by omega
    subst e
    exact .inl ⟨⟨xs, ys, qx, qy, rfl, hl⟩, after σ H hP⟩
end Sv
set_option maxHeartbeats 4000000
namespace Sv
open PySem PySem.Spec PyProof.Rows L2
theorem range_getD (ns : List Int) : (List.range ns.length).map (fun i => ns.getD i 0) = ns := by
  refine List.ext_getElem? fun i => ?_
  by_cases h : i < ns.length
  · rw [List.getElem?_map, List.getElem?_range h, Option.map_some, List.getD_eq_getElem?_getD, List.getElem?_eq_getElem h]
    rfl
  · rw [List.getElem?_eq_none (by simp; omega), List.getElem?_eq_none (by omega)]
theorem any_mem (ns : List Int) (k : Int) : (ns.any (· == k)) = decide (k ∈ ns) := by
  rw [Bool.eq_iff_iff, List.any_eq_true, decide_eq_true_iff]
  exact ⟨fun ⟨x, hx, e⟩ => by rw [← beq_iff_eq.mp e]; exact hx, fun h => ⟨k, h, beq_self_eq_true k⟩⟩
theorem fm_nodup (val : Nat → Int) : ∀ i, (PyProof.Rows.firstMet val i).Nodup
  | 0 => by rw [PyProof.Rows.firstMet_zero]; exact List.nodup_nil
  | i + 1 => by
    rw [PyProof.Rows.firstMet_succ]
    have ih := fm_nodup val i
    unfold PyProof.Rows.step_dedup
    split
    · exact ih
    · rename_i h
      refine List.nodup_append.mpr ⟨ih, by simp, fun x hx y hy z => h ?_⟩
      rw [List.mem_singleton.mp hy] at z
      exact List.any_eq_true.mpr ⟨x, hx, beq_iff_eq.mpr z⟩
def tLenSetL (K : PySem.W.Frag) (ta : TE) : TE := fun σ H Q => ta σ H fun x H1 => ∃ (l : Addr) (ns : List Int), x = .ref l ∧ SqL K H1 l (ns.map V.int) ∧ ns.length ≤ 4000 ∧ ∀ c : Nat, c ≤ ns.length → (c = ns.length ↔ ns.Nodup) → Q (.int c) H1
theorem pe_lenSetL {X : Cx} {a : Expr} {ta : TE} {p p2 q pos : Pos} (hg : Gl X "len") (hm : X.mg "len" = none) (hg2 : Gl X "set") (hm2 : X.mg "set" = none) (ha : PE X a ta) (hc : X.calm = true := by rfl)
    (na : starEach [a] X.env = (false, eval a X.env) :: starEach [] X.env := by rfl) : PE X (.Call (.Name "len" p) [.Call (.Name "set" p2) [a] [] q] [] pos) (tLenSetL X.K ta) := by
  refine ⟨fun pins s σ H Q I h => Call_ (ld_blt I hg hm boot_len (PyProof.Rows.callWith_builtin1 (PyProof.Rows.args_cons (Call_ (ld_blt I hg2 hm2 boot_set ?_)) rfl) rfl rfl))⟩
  refine PyProof.Rows.callWith_type1 (PyProof.Rows.args_cons (thn (ha.run pins s σ H _ I h) fun v s1 ⟨x, H1, I1, r1, l, ns, ex, hq, hl, q1⟩ => PyProof.Rows.args_nil ?_) na) na rfl
  subst ex
  cases r1
  obtain ⟨its, r, pl, hz⟩ := I1.list hq
  have hlen : its.toArray.size = ns.length := by rw [List.size_toArray, ← r.length, List.length_map]
  refine call_set_list (I1.ok.hd hc) pl.isList (by simpa using RZ.intsAre_vals r) (by rw [hlen]; unfold scanBound; omega) fun h' tk hS hk => PyProof.Rows.args_nil ?_
  have fl := PyProof.Rows.firstMet_length_le (fun i => ns.getD i 0) its.toArray.size
  have fm : ∀ k, k ∈ PyProof.Rows.firstMet (fun i => ns.getD i 0) its.toArray.size ↔ k ∈ ns := fun k => by
    have z := PyProof.Rows.firstMet_any (fun i => ns.getD i 0) its.toArray.size k
    rw [hlen, range_getD, any_mem, any_mem] at z
    rw [hlen]
    simpa using z
  have fn := fm_nodup (fun i => ns.getD i 0) its.toArray.size
  generalize (PyProof.Rows.firstMet (fun i => ns.getD i 0) its.toArray.size) = m at hS fl fm fn
  obtain ⟨o, es, ep, t, ho, hex, hd, _, _, _, hf, hn⟩ := hS
  have I2 : Inv X pins σ H1 { s1 with heap := h', toks := tk } := I1.kept fun b o e => hk b o (Heap.lt_size e) e
  refine call_len_set ho hex hd hf (by rw [hn]; have : (4000 : Nat) < 2 ^ 63 := by decide
                                       omega) ⟨.int m.length, H1, I2.tok _, ⟨_, by rw [hn]⟩, q1 m.length (by omega) ⟨fun e => ?_, fun e => ?_⟩⟩
  · exact nodup_of_len fn (fun x hx => (fm x).mp hx) (by rw [e]; exact Nat.le_refl _)
  · have z := nodup_sub_len e fun x hx => (fm x).mpr hx
    omega
end Sv
set_option maxHeartbeats 4000000
namespace Sv
open PySem PySem.Spec PyProof.Rows L2
abbrev TimeOk (t : Int) : Prop := -1000000000000000000000000000000 ≤ t ∧ t ≤ 1000000000000000000000000000000
def OkP (ns : List Int) : Prop := (∀ x ∈ ns, 1 ≤ x ∧ x ≤ 999) ∧ ns.Nodup
instance (ns : List Int) : Decidable (OkP ns) := by unfold OkP; infer_instance
instance (n : Nat) (zs : List Int) (L : Lay Int) : Decidable (Fits n zs L) := by unfold Fits; infer_instance
structure StOk (zs : List Int) (rs : List Ro) (t : Int) (L : Lay Int) : Prop where
  t : TimeOk t
  f : Fits rs.length zs L
  p : OkP (join L)
instance (zs : List Int) (rs : List Ro) (t : Int) (L : Lay Int) : Decidable (StOk zs rs t L) :=
  if h : TimeOk t ∧ Fits rs.length zs L ∧ OkP (join L) then isTrue ⟨h.1, h.2.1, h.2.2⟩ else isFalse fun z => h ⟨z.t, z.f, z.p⟩
/-- a state in its place -/
structure StateAt (K : PySem.W.Frag) (H : Hp) (s : Addr) (t : Int) (L : Lay Int) : Prop where
  ex : ∃ ca sh : Addr, SqT K H s [.int t, .ref ca, .ref sh] ∧ LayT K H ca sh L.1 L.2
theorem StateAt.imp {K : PySem.W.Frag} {H H' : Hp} {s : Addr} {t : Int} {L : Lay Int} (x : StateAt K H s t L) (e : ∀ a xs, SqT K H a xs → SqT K H' a xs) : StateAt K H' s t L := by
  obtain ⟨ca, sh, h1, h2⟩ := x.ex
  exact ⟨ca, sh, e _ _ h1, h2.imp e⟩
theorem StateAt.same {K : PySem.W.Frag} {H H' : Hp} {s : Addr} {t : Int} {L : Lay Int} (x : StateAt K H s t L) (e : Same H H') : StateAt K H' s t L := x.imp fun _ _ => sqT_same e
section
variable {P : Program} {w : World} {K : PySem.W.Frag} {mg : Str → Option Value} {base : Heap}
theorem scTupOf : FnScope ["row", "length"] ["row", "length"] (defScope sTupOf) := ⟨rfl, rfl, rfl, by decide +kernel, rfl, by decide +kernel, by decide +kernel⟩
def spTupOf (K : PySem.W.Frag) : Sp := fun vs H Q _ => ∃ (a : Addr) (n : Int) (xs : List V), vs = [.ref a, .int n] ∧ SqT K H a xs ∧ Q (.bl (decide ((xs.length : Int) = n))) H
theorem int_eqV (a b : Int) : decide (V.int a = V.int b) = decide (a = b) := by
  by_cases h : a = b
  · rw [decide_eq_true h, decide_eq_true (by rw [h])]
  · rw [decide_eq_false h, decide_eq_false fun z => h (V.int.inj z)]
theorem ok_tupOf (T : Bd P K mg) : FnOk P w K mg base CX0 1 T.aTupOf T.dTupOf ["row", "length"] (spTupOf K) := by
  refine T.TupOf.F.ok scTupOf (fun vs H Q E h => ?_) (fun cdv A outer s H vs Q E hr h => ?_)
  · obtain ⟨a, n, xs, rfl, _⟩ := h
    rfl
  · obtain ⟨a, n, xs, rfl, hA, q⟩ := h
    refine ⟨_, pss_one (ps_ret (pe_and (pe_callB call_isi (by rfl) T.bt.isinstance b_isinstance (pa_cons (pv 0) (pa_cons (pe_ty (by rfl) T.bt.tuple b_tuple) pa_nil)))
      (pe_one (pe_cmpR op_eq (pe_callB call_len_seq (by rfl) T.bt.len b_len (pa_cons (pv 0) pa_nil)) (pv 1) (nomark _))))), ?_⟩
    refine ⟨.ref a, rfl, .ref a, .ty "tuple", _, _, true, rfl, .ty "tuple", tyx_tup hA, kit_ty (by decide +kernel), true, rfl, ?_⟩
    rw [if_pos rfl]
    refine ⟨.ref a, rfl, a, _, rfl, .inr hA, .int n, rfl, rfl, ?_⟩
    show Q (.bl (decide (V.int (xs.length : Nat) = V.int n))) H
    rw [int_eqV]
    exact q
theorem scParcels : FnScope ["parcels", "parcel"] ["parcels"] (defScope sParcels) := ⟨rfl, rfl, rfl, by decide +kernel, rfl, by decide +kernel, by decide +kernel⟩
def spParcels (K : PySem.W.Frag) : Sp := fun vs H Q _ => ∃ (l : Addr) (ns : List Int), vs = [.ref l] ∧ SqL K H l (ns.map V.int) ∧ ns.length ≤ 2000 ∧ Q (.bl (decide (OkP ns))) H
theorem ok_parcels (T : Bd P K mg) : FnOk P w K mg base CX0 2 T.aParcels T.dParcels ["parcels"] (spParcels K) := by
  have GW : FnOk P w K mg base CX0 1 T.aWithin T.dWithin ["number", "low", "high"] spWithin := ok_within T.Within.F T.bt.isinstance T.bt.bool T.bt.int
  obtain ⟨tl, hlast⟩ := T.lastP
  refine T.Parcels.F.ok scParcels (fun vs H Q E h => ?_) (fun cdv A outer s H vs Q E hr h => ?_)
  · obtain ⟨l, ns, rfl, _⟩ := h
    rfl
  · obtain ⟨l, ns, rfl, hL, hl, q⟩ := h
    refine ⟨_, pss_cons (ps_for PassesOwn.never rfl (pi_list (pv 0)) (pg_name (i := 1) scParcels.nd rfl (Or.inl rfl))
        (pss_one (ps_if (pt_not (pt_val (pe_call GW hr (by rfl) T.Within.g T.Within.F.kp T.Within.b .nil pass0 (pa_cons (pv 1) (pa_cons pe_int (pa_cons (pe_glob (v := .int 999) (by rfl) hlast ⟨_, rfl⟩) pa_nil)))))) (pss_one (ps_ret pe_bl)) pss_nil)))
      (pss_one (ps_ret (pe_cmpR op_eq (pe_lenSetL (by rfl) T.bt.len (by rfl) T.bt.set (pv 0)) (pe_callB call_len_seq (by rfl) T.bt.len b_len (pa_cons (pv 0) pa_nil)) (nomark _)))), ?_⟩
    have hlen : (ns.map V.int).length = ns.length := by rw [List.length_map]
    refine ⟨.ref l, rfl, l, rfl, ⟨_, hL⟩, for_list (xs := ns.map V.int) (fun i σ H' => (∃ y, σ = [some (.ref l), y]) ∧ H' = H ∧ ∀ j x, j < i → ns[j]? = some x → 1 ≤ x ∧ x ≤ 999) ⟨⟨none, rfl⟩, rfl, fun j x hj => by omega⟩ (fun i σ H' _ h => by rw [h.2.1]; exact hL)
      (fun i x σ H' hx ⟨⟨y, es⟩, eH, hok⟩ => ?_) (fun σ H' ⟨⟨y, es⟩, eH, hok⟩ => ?_)⟩
    · subst es
      subst eH
      obtain ⟨n, hn, rfl⟩ := iV_lt hx
      refine ⟨.int n, rfl, n, 1, 999, rfl, _, rfl, ?_⟩
      by_cases h : 1 ≤ n ∧ n ≤ 999
      · rw [decide_eq_true h]
        refine iteF ⟨⟨_, rfl⟩, rfl, fun j x hj e => ?_⟩
        by_cases hji : j = i
        · rw [hji, hn] at e
          rw [← Option.some.inj e]
          exact h
        · exact hok j x (by omega) e
      · rw [decide_eq_false h]
        have e : decide (OkP ns) = false := decide_eq_false fun z => h (z.1 n (List.mem_of_getElem? hn))
        rw [e] at q
        exact iteT q
    · subst es
      subst eH
      rw [hlen] at hok
      refine ⟨.ref l, rfl, l, ns, rfl, hL, by omega, fun c hc hiff => ?_⟩
      refine ⟨.ref l, rfl, l, _, rfl, .inl hL, rfl, ?_⟩
      rw [hlen]
      show Q (.bl (decide (V.int (c : Int) = V.int (ns.length : Nat)))) H'
      rw [int_eqV]
      have h1 : ∀ x ∈ ns, 1 ≤ x ∧ x ≤ 999 := fun x hx => by
        obtain ⟨j, hj⟩ := List.mem_iff_getElem?.mp hx
        exact hok j x (List.getElem?_eq_some_iff.mp hj).1 hj
      have e : decide ((c : Int) = (ns.length : Nat)) = decide (OkP ns) := by
        by_cases h : c = ns.length
        · rw [decide_eq_true (by rw [h]), decide_eq_true ⟨h1, hiff.mp h⟩]
        · rw [decide_eq_false (by omega), decide_eq_false fun z => h (hiff.mpr z.2)]
      rw [e]
      exact q
def nFi : List Str := ["plan", "carried", "shelves", "sizes", "routes", "size", "shelf"]
theorem scFits : FnScope nFi ["plan", "carried", "shelves"] (defScope sFits) := ⟨rfl, rfl, rfl, by decide +kernel, rfl, by decide +kernel, by decide +kernel⟩
def spFits (K : PySem.W.Frag) : Sp := fun vs H Q _ => ∃ (p ca sh : Addr) (zs : List Int) (rs : List Ro) (L : Lay Int), vs = [.ref p, .ref ca, .ref sh] ∧ PlanAt K H p zs rs ∧ (∀ z ∈ zs, 0 ≤ z) ∧ LayT K H ca sh L.1 L.2 ∧ ∀ H', Same H H' → Q (.bl (decide (Fits rs.length zs L))) H'
theorem fits_no {n : Nat} {zs : List Int} {L : Lay Int} {i : Nat} {z : Int} {s : List Int} (hz : zs[i]? = some z) (h0 : 0 ≤ z) (hs : L.2[i]? = some s) (h : ¬ (s.length : Int) = z) : ¬ Fits n zs L := fun f => by
  have h1 : (L.2.map List.length)[i]? = some s.length := by rw [List.getElem?_map, hs]; rfl
  rw [f.2, List.getElem?_map, hz] at h1
  have := Option.some.inj h1
  omega
theorem ok_fits (T : Bd P K mg) : FnOk P w K mg base CX0 2 T.aFits T.dFits ["plan", "carried", "shelves"] (spFits K) := by
  have GT : FnOk P w K mg base CX0 1 T.aTupOf T.dTupOf ["row", "length"] (spTupOf K) := ok_tupOf T
  refine T.Fits.F.ok scFits (fun vs H Q E h => ?_) (fun cdv A outer s H vs Q E hr h => ?_)
  · obtain ⟨p, ca, sh, zs, rs, L, rfl, _⟩ := h
    rfl
  · obtain ⟨p, ca, sh, zs, rs, L, rfl, hp, hz, hL, q⟩ := h
    obtain ⟨a, b, hp1, ha, hb⟩ := hp.ex
    obtain ⟨rqs, hA, hP⟩ := hb.ex
    have hrl := paired_len hP
    obtain ⟨qs, hs1, hs2⟩ := hL.s
    have hql := segT_len hs2
    refine ⟨_, pss_cons (ps_asg (pv 0) (pg_tup rfl (pgs_cons (pg_name (i := 3) scFits.nd rfl (.inl rfl)) (pgs_cons (pg_name (i := 4) scFits.nd rfl (.inl rfl)) pgs_nil))))
      (pss_cons (ps_if (pw_or (pt_not (pt_val (pe_call (E := E0) GT hr (by rfl) T.TupOf.g T.TupOf.F.kp T.TupOf.b .nil pass0 (pa_cons (pv 1) (pa_cons (pe_callB call_len_seq (by rfl) T.bt.len b_len (pa_cons (pv 4) pa_nil)) pa_nil)))))
          (pw_or1 (pt_not (pt_val (pe_call (E := E0) GT hr (by rfl) T.TupOf.g T.TupOf.F.kp T.TupOf.b .nil pass0 (pa_cons (pv 2) (pa_cons (pe_callB call_len_seq (by rfl) T.bt.len b_len (pa_cons (pv 3) pa_nil)) pa_nil))))))).pt (pss_one (ps_ret pe_bl)) pss_nil)
      (pss_cons (ps_for PassesOwn.never rfl (RZ.pi_zipA (by rfl) T.bt.zip (pa_cons (pv 3) (pa_cons (pv 2) pa_nil))) (pg_tup rfl (pgs_cons (pg_name (i := 5) scFits.nd rfl (.inl rfl)) (pgs_cons (pg_name (i := 6) scFits.nd rfl (.inl rfl)) pgs_nil)))
        (pss_one (ps_if (pt_not (pt_val (pe_call (E := E0) GT hr (by rfl) T.TupOf.g T.TupOf.F.kp T.TupOf.b .nil pass0 (pa_cons (pv 6) (pa_cons (pv 5) pa_nil))))) (pss_one (ps_ret pe_bl)) pss_nil)))
      (pss_one (ps_ret pe_bl)))), ?_⟩
    refine ⟨.ref p, rfl, p, _, rfl, hp1, rfl, _, _, rfl, _, _, rfl, rfl, ?_⟩
    refine ⟨.ref ca, rfl, .ref b, rfl, b, _, rfl, .inr hA, ca, _, _, rfl, hL.c, _, rfl, ?_⟩
    rw [List.length_map, List.length_map, hrl]
    have no : ¬ Fits rs.length zs L → Q (.bl false) H := fun h => by
      have := q H (Same.refl H)
      rwa [decide_eq_false h] at this
    by_cases h1 : ((L.1.length : Nat) : Int) = (rs.length : Nat)
    · rw [decide_eq_true h1]
      refine iteF ⟨.ref sh, rfl, .ref a, rfl, a, _, rfl, .inr ha, sh, _, _, rfl, hs1, _, rfl, ?_⟩
      rw [List.length_map, List.length_map, hql]
      by_cases h2 : ((L.2.length : Nat) : Int) = (zs.length : Nat)
      · rw [decide_eq_true h2]
        refine iteF ⟨.ref a, rfl, .ref sh, rfl, a, sh, zs.map V.int, qs.map V.ref, rfl, .inr ⟨ha, hs1, RZ.for_zipT (by rw [List.length_map, List.length_map]; omega) (fun i σ H' => (∃ y5 y6, σ = [some (.ref p), some (.ref ca), some (.ref sh), some (.ref a), some (.ref b), y5, y6]) ∧ Same H H' ∧ ∀ j z s, j < i → zs[j]? = some z → L.2[j]? = some s → (s.length : Int) = z)
          ⟨⟨_, _, rfl⟩, Same.refl H, fun j z s hj => by omega⟩ (fun i σ H' h => ⟨sqT_same h.2.1 ha, sqT_same h.2.1 hs1⟩) (fun i x y U σ H' hx hy ⟨⟨y5, y6, es⟩, sm, hok⟩ hU => ?_) (fun σ H' ⟨⟨y5, y6, es⟩, sm, hok⟩ => ?_)⟩⟩
        · subst es
          obtain ⟨z, hz1, rfl⟩ := iV_lt hx
          obtain ⟨q1, hq1, rfl⟩ := refs_lt hy
          obtain ⟨s1, hs3, hq2⟩ := segT_at hs2 hq1
          have smU : Same H (upd H' U (.tup [.int z, .ref q1])) := same_of sm (Same.free sm hU)
          refine ⟨U, _, rfl, .inl (.inl upd_same), rfl, _, _, rfl, _, _, rfl, rfl, ?_⟩
          refine ⟨.ref q1, rfl, .int z, rfl, q1, z, _, rfl, sqT_same smU hq2, _, rfl, ?_⟩
          rw [List.length_map]
          by_cases h3 : (s1.length : Int) = z
          · rw [decide_eq_true h3]
            refine iteF ⟨⟨_, _, rfl⟩, smU, fun j z' s' hj e1 e2 => ?_⟩
            by_cases hji : j = i
            · subst hji
              rw [hz1] at e1
              rw [hs3] at e2
              rw [← Option.some.inj e1, ← Option.some.inj e2]
              exact h3
            · exact hok j z' s' (by omega) e1 e2
          · rw [decide_eq_false h3]
            have e : decide (Fits rs.length zs L) = false := decide_eq_false (fits_no hz1 (hz z (List.mem_of_getElem? hz1)) hs3 h3)
            have := q _ smU
            rw [e] at this
            exact iteT this
        · subst es
          rw [List.length_map] at hok
          have f : Fits rs.length zs L := by
            refine ⟨by omega, List.ext_getElem? fun i => ?_⟩
            by_cases hi : i < zs.length
            · have g1 : zs[i]? = some zs[i] := List.getElem?_eq_getElem hi
              have hi2 : i < L.2.length := by omega
              have g2 : L.2[i]? = some L.2[i] := List.getElem?_eq_getElem hi2
              have := hok i _ _ hi g1 g2
              rw [List.getElem?_map, List.getElem?_map, g1, g2]
              show some (L.2[i].length) = some (zs[i].toNat)
              congr 1
              omega
            · rw [List.getElem?_eq_none (by rw [List.length_map]; omega), List.getElem?_eq_none (by rw [List.length_map]; omega)]
          have := q _ sm
          rwa [decide_eq_true f] at this
      · rw [decide_eq_false h2]
        refine iteT (no fun f => h2 ?_)
        have := congrArg List.length f.2
        rw [List.length_map, List.length_map] at this
        omega
    · rw [decide_eq_false h1]
      exact iteT (no fun f => h1 (by rw [f.1]))
end
end Sv
set_option maxHeartbeats 4000000
namespace Sv
open PySem PySem.Spec PyProof.Rows L2
/-- the first k things moved by an effect -/
def mvN (e : List Nat) (cs : List Int) : Nat → List Int
  | 0 => cs
  | k + 1 => (mvN e cs k).set (ap e k) (cs.getD k 0)
theorem mvN_len (e : List Nat) (cs : List Int) : ∀ k, (mvN e cs k).length = cs.length
  | 0 => rfl
  | k + 1 => by
    show ((mvN e cs k).set _ _).length = _
    rw [List.length_set, mvN_len e cs k]
theorem mvN_at {e : List Nat} (E : Eff e) {cs : List Int} (hl : cs.length = e.length) : ∀ k, k ≤ e.length → ∀ i, i < k → (mvN e cs k)[ap e i]? = some (cs.getD i 0)
  | 0, _, i, hi => by omega
  | k + 1, hk, i, hi => by
    show ((mvN e cs k).set (ap e k) (cs.getD k 0))[ap e i]? = _
    by_cases h : i = k
    · subst h
      rw [List.getElem?_set_self (by rw [mvN_len, hl]; exact ap_lt E (by omega))]
    · rw [List.getElem?_set_ne fun q => h (ap_inj E (by omega) (by omega) q).symm]
      exact mvN_at E hl k (by omega) i (by omega)
/-- all things moved -/
def move (e : List Nat) (cs : List Int) : List Int := (inv e).map fun i => cs.getD i 0
theorem move_len (e : List Nat) (cs : List Int) : (move e cs).length = e.length := by unfold move; rw [List.length_map, inv_len]
theorem mvN_move {e : List Nat} (E : Eff e) {cs : List Int} (hl : cs.length = e.length) : mvN e cs e.length = move e cs := by
  refine List.ext_getElem? fun q => ?_
  by_cases hq : q < e.length
  · have h1 : ap (inv e) q < e.length := by
      have := ap_lt (inv_eff E) (x := q) (by rw [inv_len]; exact hq)
      rwa [inv_len] at this
    have h2 := mvN_at E hl e.length (Nat.le_refl _) (ap (inv e) q) h1
    rw [ap_inv E hq] at h2
    rw [h2]
    unfold move
    rw [List.getElem?_map, ap_at (by rw [inv_len]; exact hq)]
    rfl
  · rw [List.getElem?_eq_none (by rw [mvN_len]; omega), List.getElem?_eq_none (by rw [move_len]; omega)]
section
variable {P : Program} {w : World} {K : PySem.W.Frag} {mg : Str → Option Value} {base : Heap}
def nCs : List Str := ["plan", "state", "time", "carried", "shelves"]
theorem scCheckState : FnScope nCs ["plan", "state"] (defScope sCheckState) := ⟨rfl, rfl, rfl, by decide +kernel, rfl, by decide +kernel, by decide +kernel⟩
def spCheckState (K : PySem.W.Frag) (CS : Addr) : Sp := fun vs H Q E => ∃ (p s : Addr) (zs : List Int) (rs : List Ro) (t : Int) (L : Lay Int), vs = [.ref p, .ref s] ∧ PlanAt K H p zs rs ∧ Val zs rs ∧ StateAt K H s t L ∧
  (StOk zs rs t L → ∀ H', Same H H' → Q .non H') ∧ (¬ StOk zs rs t L → ∀ H', Same H H' → E (.ref CS) none H')
theorem ok_checkState (T : Bd P K mg) : FnOk P w K mg base (L2.CX P w) 3 T.aCheckState T.dCheckState ["plan", "state"] (spCheckState K T.CS) := by
  have GW : FnOk P w K mg base CX0 1 T.aWithin T.dWithin ["number", "low", "high"] spWithin := ok_within T.Within.F T.bt.isinstance T.bt.bool T.bt.int
  have GF : FnOk P w K mg base CX0 2 T.aFits T.dFits ["plan", "carried", "shelves"] (spFits K) := ok_fits T
  have GJ : FnOk P w K mg base CX0 1 T.aJoin T.dJoin ["carried", "shelves"] (spJoin K) := ok_join T
  have GP : FnOk P w K mg base CX0 2 T.aParcels T.dParcels ["parcels"] (spParcels K) := ok_parcels T
  obtain ⟨tl, hlim⟩ := T.tlim
  refine T.CheckState.F.okX scCheckState (fun vs H Q E h => ?_) (fun cdv A outer s H vs Q E hr h => ?_)
  · obtain ⟨p, s, zs, rs, t, L, rfl, _⟩ := h
    rfl
  · obtain ⟨p, s, zs, rs, t, L, rfl, hp, hv, hs, q1, q2⟩ := h
    obtain ⟨ca, sh, hs1, hL⟩ := hs.ex
    refine ⟨_, pss_cons (ps_if (pw_or (pt_not (pt_val (pe_callB call_isi (by rfl) T.bt.isinstance b_isinstance (pa_cons (pv 1) (pa_cons (pe_ty (by rfl) T.bt.tuple b_tuple) pa_nil)))))
          (pw_or1 (pt_cmpR op_ne (pe_callB call_len_seq (by rfl) T.bt.len b_len (pa_cons (pv 1) pa_nil)) pe_int (nomark _)))).pt
        (pss_one (ps_raise rfl (takes_of rfl rfl rfl rfl) (pmk_own PySem.F.excBase_ValueError T.cs.x T.cs.g T.cs.k (raises_own T.cs.b T.cs.t) rfl))) pss_nil)
      (pss_cons (ps_asg (pv 1) (pg_tup rfl (pgs_cons (pg_name (i := 2) scCheckState.nd rfl (.inl rfl)) (pgs_cons (pg_name (i := 3) scCheckState.nd rfl (.inl rfl)) (pgs_cons (pg_name (i := 4) scCheckState.nd rfl (.inl rfl)) pgs_nil)))))
      (pss_cons (ps_if (pt_not (pt_val (pe_call (E := E0) GW (hr.mono (by decide)) (by rfl) T.Within.g T.Within.F.kp T.Within.b .nil pass0 (pa_cons (pv 2) (pa_cons (pe_un un_neg (pe_glob (v := .int 1000000000000000000000000000000) (by rfl) hlim ⟨_, rfl⟩)) (pa_cons (pe_glob (v := .int 1000000000000000000000000000000) (by rfl) hlim ⟨_, rfl⟩) pa_nil))))))
        (pss_one (ps_raise rfl (takes_of rfl rfl rfl rfl) (pmk_own PySem.F.excBase_ValueError T.cs.x T.cs.g T.cs.k (raises_own T.cs.b T.cs.t) rfl))) pss_nil)
      (pss_cons (ps_if (pt_not (pt_val (pe_call (E := E0) GF hr (by rfl) T.Fits.g T.Fits.F.kp T.Fits.b .nil pass0 (pa_cons (pv 0) (pa_cons (pv 3) (pa_cons (pv 4) pa_nil))))))
        (pss_one (ps_raise rfl (takes_of rfl rfl rfl rfl) (pmk_own PySem.F.excBase_ValueError T.cs.x T.cs.g T.cs.k (raises_own T.cs.b T.cs.t) rfl))) pss_nil)
      (pss_one (ps_if (pt_not (pt_val (pe_call (E := E0) GP hr (by rfl) T.Parcels.g T.Parcels.F.kp T.Parcels.b .nil pass0 (pa_cons (pe_call (E := E0) GJ (hr.mono (by decide)) (by rfl) T.Join.g T.Join.F.kp T.Join.b .nil pass0 (pa_cons (pv 3) (pa_cons (pv 4) pa_nil))) pa_nil))))
        (pss_one (ps_raise rfl (takes_of rfl rfl rfl rfl) (pmk_own PySem.F.excBase_ValueError T.cs.x T.cs.g T.cs.k (raises_own T.cs.b T.cs.t) rfl))) pss_nil))))), ?_⟩
    refine ⟨.ref s, rfl, .ref s, .ty "tuple", _, _, true, rfl, .ty "tuple", tyx_tup hs1, kit_ty (by decide +kernel), true, rfl, iteF ?_⟩
    refine ⟨.ref s, rfl, s, _, rfl, .inr hs1, rfl, _, rfl, iteF ?_⟩
    refine ⟨.ref s, rfl, s, _, rfl, hs1, rfl, _, _, rfl, _, _, rfl, _, _, rfl, rfl, ?_⟩
    refine ⟨.int t, rfl, _, rfl, t, -1000000000000000000000000000000, 1000000000000000000000000000000, rfl, _, rfl, ?_⟩
    by_cases h1 : TimeOk t
    · rw [decide_eq_true h1]
      refine iteF ⟨.ref p, rfl, .ref ca, rfl, .ref sh, rfl, p, ca, sh, zs, rs, L, rfl, hp, fun z hz => (hv.z2 z hz).1, hL, fun H1 sm1 => ⟨_, rfl, ?_⟩⟩
      by_cases h2 : Fits rs.length zs L
      · rw [decide_eq_true h2]
        have jl := join_len h2
        have hn := hv.num
        have jl2 : L.1.length + L.2.flatten.length = rs.length + sumN zs := by
          rw [← jl]
          unfold join
          rw [List.length_append]
        refine iteF ⟨.ref ca, rfl, .ref sh, rfl, ca, sh, L.1, L.2, rfl, hL.same sm1, by omega, fun H2 f sm2 nf kf => ⟨f, L.1 ++ L.2.flatten, rfl, .inl (.inl kf), by rw [List.length_append]; omega, _, rfl, ?_⟩⟩
        by_cases h3 : OkP (L.1 ++ L.2.flatten)
        · rw [decide_eq_true h3]
          exact iteF (q1 ⟨h1, h2, h3⟩ _ (sm1.trans sm2))
        · rw [decide_eq_false h3]
          exact iteT (q2 (fun z => h3 z.p) _ (sm1.trans sm2))
      · rw [decide_eq_false h2]
        exact iteT (q2 (fun z => h2 z.f) _ sm1)
    · rw [decide_eq_false h1]
      exact iteT (q2 (fun z => h1 z.t) _ (Same.refl H))
end
end Sv
set_option maxHeartbeats 4000000
namespace Sv
open PySem PySem.Spec PyProof.Rows L2
section
variable {P : Program} {w : World} {K : PySem.W.Frag} {mg : Str → Option Value} {base : Heap}
theorem scParcelsIn : FnScope ["state", "_", "carried", "shelves"] ["state"] (defScope sParcelsIn) := ⟨rfl, rfl, rfl, by decide +kernel, rfl, by decide +kernel, by decide +kernel⟩
def spParcelsIn (K : PySem.W.Frag) : Sp := fun vs H Q _ => ∃ (s : Addr) (t : Int) (L : Lay Int), vs = [.ref s] ∧ StateAt K H s t L ∧ (join L).length ≤ 1000 ∧ NewL H (join L) Q
theorem NewL.imp {H H1 : Hp} {l : List Int} {Q : VK} (h : NewL H l Q) (e : Same H H1) : NewL H1 l Q := fun H' f sm hf => h H' f (e.trans sm) (Same.free e hf)
theorem ok_parcelsIn (T : Bd P K mg) : FnOk P w K mg base CX0 2 T.aParcelsIn T.dParcelsIn ["state"] (spParcelsIn K) := by
  have GJ : FnOk P w K mg base CX0 1 T.aJoin T.dJoin ["carried", "shelves"] (spJoin K) := ok_join T
  refine T.ParcelsIn.F.ok scParcelsIn (fun vs H Q E h => ?_) (fun cdv A outer s H vs Q E hr h => ?_)
  · obtain ⟨s, t, L, rfl, _⟩ := h
    rfl
  · obtain ⟨s, t, L, rfl, hst, hl, q⟩ := h
    obtain ⟨ca, sh, hs1, hL⟩ := hst.ex
    exact ⟨_, (pss_cons (ps_asg (pv 0) (pg_tup rfl (pgs_cons (pg_name (i := 1) scParcelsIn.nd rfl (.inl rfl)) (pgs_cons (pg_name (i := 2) scParcelsIn.nd rfl (.inl rfl)) (pgs_cons (pg_name (i := 3) scParcelsIn.nd rfl (.inl rfl)) pgs_nil)))))
      (pss_one (ps_ret (pe_call (E := E0) GJ hr (by rfl) T.Join.g T.Join.F.kp T.Join.b .nil pass0 (pa_cons (pv 2) (pa_cons (pv 3) pa_nil)))))), .ref s, rfl, s, _, rfl, hs1, rfl, _, _, rfl, _, _, rfl, _, _, rfl, rfl, .ref ca, rfl, .ref sh, rfl, ca, sh, L.1, L.2, rfl, hL, by rw [← List.length_append]; exact hl, q⟩
/-- a new state -/
def NewSt (K : PySem.W.Frag) (H : Hp) (t : Int) (L : Lay Int) (Q : VK) : Prop := ∀ H' s, Same H H' → H s = none → StateAt K H' s t L → Q (.ref s) H'
theorem NewSt.imp {K : PySem.W.Frag} {H H1 : Hp} {t : Int} {L : Lay Int} {Q : VK} (h : NewSt K H t L Q) (e : Same H H1) : NewSt K H1 t L Q := fun H' s sm hs => h H' s (e.trans sm) (Same.free e hs)
/-- a state with the same time, its parcels moved -/
def mvL (n : Nat) (zs : List Int) (e : List Nat) (L : Lay Int) : Lay Int := spl n zs (move e (join L))
theorem scStateOf : FnScope ["plan", "time", "parcels", "carried", "shelves"] ["plan", "time", "parcels"] (defScope sStateOf) := ⟨rfl, rfl, rfl, by decide +kernel, rfl, by decide +kernel, by decide +kernel⟩
def spStateOf (K : PySem.W.Frag) : Sp := fun vs H Q _ => ∃ (p l : Addr) (zs : List Int) (rs : List Ro) (t : Int) (cs : List Int), vs = [.ref p, .int t, .ref l] ∧ PlanAt K H p zs rs ∧ Val zs rs ∧ SqL K H l (cs.map V.int) ∧ cs.length ≤ 1000 ∧ NewSt K H t (spl rs.length zs cs) Q
theorem ok_stateOf (T : Bd P K mg) : FnOk P w K mg base CX0 2 T.aStateOf T.dStateOf ["plan", "time", "parcels"] (spStateOf K) := by
  have GL : FnOk P w K mg base CX0 1 T.aSplit T.dSplit ["plan", "contents"] (spSplit K) := ok_split T
  refine T.StateOf.F.ok scStateOf (fun vs H Q E h => ?_) (fun cdv A outer s H vs Q E hr h => ?_)
  · obtain ⟨p, l, zs, rs, t, cs, rfl, _⟩ := h
    rfl
  · obtain ⟨p, l, zs, rs, t, cs, rfl, hp, hv, hl, hc, q⟩ := h
    refine ⟨_, (pss_cons (ps_asg (pe_call (E := E0) GL (hr.mono (by decide)) (by rfl) T.Split.g T.Split.F.kp T.Split.b .nil pass0 (pa_cons (pv 0) (pa_cons (pv 2) pa_nil))) (pg_tup rfl (pgs_cons (pg_name (i := 3) scStateOf.nd rfl (.inl rfl)) (pgs_cons (pg_name (i := 4) scStateOf.nd rfl (.inl rfl)) pgs_nil))))
      (pss_one (ps_ret (pe_tup (pa_cons (pv 1) (pa_cons (pv 3) (pa_cons (pv 4) pa_nil))))))), ?_⟩
    refine ⟨.ref p, rfl, .ref l, rfl, p, l, zs, rs, cs, rfl, hp, hl, hv.z2, hv.z1.2, hv.r1.2, hc, fun H5 tp c2 s2 sm5 ht lay => ?_⟩
    refine ⟨tp, _, rfl, .inl (.inl ht), rfl, _, _, rfl, _, _, rfl, rfl, ?_⟩
    refine ⟨.int t, rfl, .ref c2, rfl, .ref s2, rfl, (by show 3 ≤ sizeLine; decide), fun t2 ht2 => ?_⟩
    have sm6 := same_upd (o := .tup [.int t, .ref c2, .ref s2]) ht2
    exact q _ t2 (sm5.trans sm6) (Same.free sm5 ht2) ⟨c2, s2, .inl (.inl upd_same), (lay.same sm6).t⟩
def nMv : List Str := ["plan", "state", "effect", "before", "after", "parcel", "target"]
theorem scMoved : FnScope nMv ["plan", "state", "effect"] (defScope sMoved) := ⟨rfl, rfl, rfl, by decide +kernel, rfl, by decide +kernel, by decide +kernel⟩
def spMoved (K : PySem.W.Frag) : Sp := fun vs H Q _ => ∃ (p s a : Addr) (zs : List Int) (rs : List Ro) (t : Int) (L : Lay Int) (e : List Nat), vs = [.ref p, .ref s, .ref a] ∧ PlanAt K H p zs rs ∧ Val zs rs ∧ StateAt K H s t L ∧ Fits rs.length zs L ∧ SqT K H a (vN e) ∧ Eff e ∧ e.length = rs.length + sumN zs ∧ NewSt K H t (mvL rs.length zs e L) Q
theorem ok_moved (T : Bd P K mg) : FnOk P w K mg base CX0 3 T.aMoved T.dMoved ["plan", "state", "effect"] (spMoved K) := by
  have GJ : FnOk P w K mg base CX0 2 T.aParcelsIn T.dParcelsIn ["state"] (spParcelsIn K) := ok_parcelsIn T
  have GL : FnOk P w K mg base CX0 2 T.aStateOf T.dStateOf ["plan", "time", "parcels"] (spStateOf K) := ok_stateOf T
  refine T.Moved.F.ok scMoved (fun vs H Q E h => ?_) (fun cdv A outer s H vs Q E hr h => ?_)
  · obtain ⟨p, s, a, zs, rs, t, L, e, rfl, _⟩ := h
    rfl
  · obtain ⟨p, s, a, zs, rs, t, L, e, rfl, hp, hv, hst, hf, hA, hE, hlen, q⟩ := h
    refine ⟨_, (pss_cons (ps_set (i := 3) scMoved.nd rfl (Or.inl rfl) (pe_call (E := E0) GJ (hr.mono (by decide)) (by rfl) T.ParcelsIn.g T.ParcelsIn.F.kp T.ParcelsIn.b .nil pass0 (pa_cons (pv 1) pa_nil)))
      (pss_cons (ps_set (i := 4) scMoved.nd rfl (Or.inl rfl) (pe_callTy call_list_of (by rfl) T.bt.list b_list (pa_cons (pv 3) pa_nil)))
      (pss_cons (ps_for PassesOwn.never rfl (pi_zipM (by rfl) T.bt.zip (pa_cons (pv 3) (pa_cons (pv 2) pa_nil))) (pg_tup rfl (pgs_cons (pg_name (i := 5) scMoved.nd rfl (.inl rfl)) (pgs_cons (pg_name (i := 6) scMoved.nd rfl (.inl rfl)) pgs_nil))) (pss_one (ps_asg (pv 5) (pg_sub (pv 4) (pv 6) set_list))))
      (pss_one (ps_ret (pe_call (E := E0) GL (hr.mono (by decide)) (by rfl) T.StateOf.g T.StateOf.F.kp T.StateOf.b .nil pass0 (pa_cons (pv 0) (pa_cons (pe_ix ix_tup (pv 1) pe_int (fun _ _ => rfl)) (pa_cons (pv 4) pa_nil))))))))), ?_⟩
    have hn := hv.num
    have jl := join_len hf
    refine ⟨.ref s, rfl, s, t, L, rfl, hst, by omega, fun H3 f smB nf kf => ?_⟩
    refine ⟨.ref f, rfl, f, _, rfl, .inl (.inl (.inl kf)), fun g hg => ?_⟩
    have fg : f ≠ g := ne_of_none kf hg
    have kf2 : (upd H3 g (.lst ((join L).map V.int))) f = some (.lst ((join L).map V.int)) := by rw [upd_ne fg]; exact kf
    have smC : Same H (upd H3 g (.lst ((join L).map V.int))) := smB.trans (same_upd hg)
    have kg : (upd H3 g (.lst ((join L).map V.int))) g = some (.lst ((mvN e (join L) 0).map V.int)) := upd_same
    have ng : H g = none := Same.free smB hg
    generalize upd H3 g (.lst ((join L).map V.int)) = H4 at kf2 smC kg ⊢
    have hA4 := sqT_same smC hA
    refine ⟨.ref f, rfl, .ref a, rfl, f, a, (join L).map V.int, vN e, rfl, .inl (.inl kf2), hA4, for_zipM (by rw [List.length_map, vN_len]; omega) (fun i σ H' => (∃ y5 y6, σ = [some (.ref p), some (.ref s), some (.ref a), some (.ref f), some (.ref g), y5, y6]) ∧ Same H H' ∧ H' f = some (.lst ((join L).map V.int)) ∧ H' g = some (.lst ((mvN e (join L) i).map V.int)))
      ⟨⟨_, _, rfl⟩, smC, kf2, kg⟩ (fun i σ H' h => ⟨.inl (.inl h.2.2.1), sqT_same h.2.1 hA⟩) (fun i x y U σ H' hx hy ⟨⟨y5, y6, es⟩, sm, k1, k2⟩ hU => ?_) (fun σ H' ⟨⟨y5, y6, es⟩, sm, k1, k2⟩ => ?_)⟩
    · subst es
      obtain ⟨z, hz1, rfl⟩ := iV_lt hx
      obtain ⟨hi, rfl⟩ := vN_lt hy
      have smU : Same H (upd H' U (.tup [.int z, .int (ap e i : Nat)])) := same_of sm (Same.free sm hU)
      have gU : g ≠ U := ne_of_none k2 hU
      have fU : f ≠ U := ne_of_none k1 hU
      refine ⟨U, _, rfl, .inl (.inl upd_same), rfl, _, _, rfl, _, _, rfl, rfl, ?_⟩
      refine ⟨.int z, rfl, .ref g, rfl, .int (ap e i : Nat), rfl, g, _, _, ap e i, rfl, rfl, by rw [upd_ne gU]; exact k2, ?_, ⟨_, _, rfl⟩, same_of smU ng, ?_, ?_⟩
      · rw [List.length_map, mvN_len, jl, ← hlen]
        exact ixN_nat (ap_lt hE hi)
      · rw [upd_ne fg, upd_ne fU]
        exact k1
      · rw [upd_same, ← List.map_set]
        have ez : (join L).getD i 0 = z := by rw [List.getD_eq_getElem?_getD, hz1]; rfl
        show some (HO.lst (((mvN e (join L) i).set (ap e i) z).map V.int)) = some (HO.lst (((mvN e (join L) i).set (ap e i) ((join L).getD i 0)).map V.int))
        rw [ez]
    · subst es
      rw [List.length_map, jl, ← hlen, mvN_move hE (by omega)] at k2
      have ml := move_len e (join L)
      obtain ⟨ca, sh, hs1, hL⟩ := (hst.same sm).ex
      refine ⟨.ref p, rfl, .ref s, rfl, s, _, 0, .int t, rfl, rfl, hs1, rfl, .ref g, rfl, p, g, zs, rs, t, move e (join L), rfl, hp.same sm, hv, .inl (.inl k2), by omega, q.imp sm⟩
end
end Sv
set_option maxHeartbeats 4000000
namespace Sv
open PySem PySem.Spec PyProof.Rows L2
section
variable {P : Program} {w : World} {K : PySem.W.Frag} {mg : Str → Option Value} {base : Heap}
def spPlanG (K : PySem.W.Frag) : Sp := fun vs H Q _ => ∃ (h l : Addr) (ns nc : Int), vs = [.ref h, .int ns, .int nc] ∧ LawH H h l ∧ (1 ≤ ns ∧ ns ≤ 12) ∧ (1 ≤ nc ∧ nc ≤ 6) ∧ ∀ H' p zs rs, St h l H H' → PlanAt K H' p zs rs → Val zs rs → (zs.length : Int) ≤ ns → (rs.length : Int) ≤ nc → Q (.ref p) H'
theorem ok_planG (T : Bd P K mg) : FnOk P w K mg base CX0 2 T.aLPlan T.dLPlan ["_law_h", "_law_shelves", "_law_carriers"] (spPlanG K) := by
  have GN : FnOk P w K mg base CX0 1 T.aLNext T.dLNext ["_law_h", "_law_limit"] qNext := by unfold qNext; exact ok_next T.LNext.F T.bt
  refine T.LPlan.F.ok scPlan (fun vs H Q E h => ?_) (fun cdv A outer s H vs Q E hr h => ?_)
  · obtain ⟨h, l, ns, nc, rfl, _⟩ := h
    rfl
  · obtain ⟨h, l, ns, nc, rfl, LH, hns, hnc, q⟩ := h
    have p64 : (1000 : Int) < 2 ^ 64 := by decide
    have p62 : (1000 : Int) < 2 ^ 62 := by decide
    refine ⟨_, pss_cons (ps_set (i := 3) scPlan.nd rfl (Or.inl rfl) (pe_lst pa_nil))
      (pss_cons (ps_for PassesOwn.never rfl (pi_range1 (by rfl) T.bt.range (pa_cons (pe_op op_add pe_int (pe_call (E := E0) GN hr (by rfl) T.LNext.g T.LNext.F.kp T.LNext.b .nil pass0 (pa_cons (pv 0) (pa_cons (pv 1) pa_nil)))) pa_nil)) (pg_name (i := 4) scPlan.nd rfl (Or.inl rfl))
        (pss_one (ps_expr (pe_bm PySem.F.plainAttrs_list PySem.F.slot_list_append PySem.F.type_list_append mt_append (pv 3) (pa_cons (pe_ix ix_list (pe_lst (pa_cons (pe_call (E := E0) GN hr (by rfl) T.LNext.g T.LNext.F.kp T.LNext.b .nil pass0 (pa_cons (pv 0) (pa_cons pe_int pa_nil))) (pa_cons (pe_call (E := E0) GN hr (by rfl) T.LNext.g T.LNext.F.kp T.LNext.b .nil pass0 (pa_cons (pv 0) (pa_cons pe_int pa_nil))) pa_nil)))
          (pe_op op_fdiv (pe_call (E := E0) GN hr (by rfl) T.LNext.g T.LNext.F.kp T.LNext.b .nil pass0 (pa_cons (pv 0) (pa_cons pe_int pa_nil))) pe_int) (fun _ _ => rfl)) pa_nil)))))
      (pss_cons (ps_set (i := 5) scPlan.nd rfl (Or.inl rfl) (pe_lst pa_nil))
      (pss_cons (ps_for PassesOwn.never rfl (pi_range1 (by rfl) T.bt.range (pa_cons (pe_op op_add pe_int (pe_call (E := E0) GN hr (by rfl) T.LNext.g T.LNext.F.kp T.LNext.b .nil pass0 (pa_cons (pv 0) (pa_cons (pv 2) pa_nil)))) pa_nil)) (pg_name (i := 6) scPlan.nd rfl (Or.inl rfl))
        (pss_cons (ps_set (i := 7) scPlan.nd rfl (Or.inl rfl) (pe_lst pa_nil))
        (pss_cons (ps_for PassesOwn.never rfl (pi_range1 (by rfl) T.bt.range (pa_cons (pe_op op_add pe_int (pe_call (E := E0) GN hr (by rfl) T.LNext.g T.LNext.F.kp T.LNext.b .nil pass0 (pa_cons (pv 0) (pa_cons (pe_ix ix_list (pe_lst (pa_cons pe_int (pa_cons pe_int pa_nil))) (pe_call (E := E0) GN hr (by rfl) T.LNext.g T.LNext.F.kp T.LNext.b .nil pass0 (pa_cons (pv 0) (pa_cons pe_int pa_nil))) (fun _ _ => rfl)) pa_nil)))) pa_nil)) (pg_name (i := 8) scPlan.nd rfl (Or.inl rfl))
          (pss_one (ps_expr (pe_bm PySem.F.plainAttrs_list PySem.F.slot_list_append PySem.F.type_list_append mt_append (pv 7) (pa_cons (pe_ifExp (pt_cmpR op_eq (pe_call (E := E0) GN hr (by rfl) T.LNext.g T.LNext.F.kp T.LNext.b .nil pass0 (pa_cons (pv 0) (pa_cons pe_int pa_nil))) pe_int (nomark _)) pe_non
            (pe_call (E := E0) GN hr (by rfl) T.LNext.g T.LNext.F.kp T.LNext.b .nil pass0 (pa_cons (pv 0) (pa_cons (pe_callB call_len_seq (by rfl) T.bt.len b_len (pa_cons (pv 3) pa_nil)) pa_nil)))) pa_nil)))))
        (pss_one (ps_expr (pe_bm PySem.F.plainAttrs_list PySem.F.slot_list_append PySem.F.type_list_append mt_append (pv 5) (pa_cons (pe_callTy call_tuple_of (by rfl) T.bt.tuple b_tuple (pa_cons (pv 7) pa_nil)) pa_nil)))))))
      (pss_one (ps_ret (pe_tup (pa_cons (pe_callTy call_tuple_of (by rfl) T.bt.tuple b_tuple (pa_cons (pv 3) pa_nil)) (pa_cons (pe_callTy call_tuple_of (by rfl) T.bt.tuple b_tuple (pa_cons (pv 5) pa_nil)) pa_nil)))))))), ?_⟩
    refine ⟨Nat.zero_le _, fun fs hfs => ?_⟩
    obtain ⟨fh, fl⟩ := LH.nh hfs
    have S1 := (St.refl LH).upd (o := .lst []) hfs fh fl
    have k1 : (upd H fs (.lst [])) fs = some (.lst []) := upd_same
    generalize upd H fs (.lst []) = H1 at S1 k1 ⊢
    -- the sizes
    refine ⟨.ref h, rfl, .int ns, rfl, ?_⟩
    show qNext _ _ _ _
    refine go_next S1.law (by omega) (by omega) fun n1 H2 hn1 L2 x2 => ⟨1, n1, rfl, rfl, _, rfl, by omega, by omega, ?_⟩
    refine for_range (lo := 0) (n := ((1 : Int) + (n1 : Nat)).toNat) (fun i σ H' => (∃ y4, σ = [some (.ref h), some (.int ns), some (.int nc), some (.ref fs), y4, none, none, none, none]) ∧ St h l H H' ∧ ∃ zs : List Int, zs.length = i ∧ (∀ z ∈ zs, 0 ≤ z ∧ z ≤ 9) ∧ H' fs = some (.lst (zs.map V.int)))
      ⟨⟨none, rfl⟩, S1.next L2 x2, [], rfl, fun z hz => (List.not_mem_nil hz).elim, x2 _ _ fh fl k1⟩ (fun i σ H' hi ⟨⟨y4, es⟩, S, zs, zl, hz, kf⟩ => ?_) (fun σ H' ⟨⟨y4, es⟩, S, zs, zl, hz, kf⟩ => ?_)
    · subst es
      have hi12 : i < 12 := by omega
      refine ⟨.ref fs, rfl, .inl ⟨rfl, _, .inl (.inl kf)⟩, .ref h, rfl, ?_⟩
      show qNext _ _ _ _
      refine go_next S.law (by decide) (by decide) fun a H3 ha L3 x3 => ⟨.ref h, rfl, ?_⟩
      have S3 := S.next L3 x3
      show qNext _ _ _ _
      refine go_next S3.law (by decide) (by decide) fun b H4 hb L4 x4 => ⟨(by show 2 ≤ sizeLine; decide), fun D hD => ⟨.ref h, rfl, ?_⟩⟩
      have S4 := S3.next L4 x4
      obtain ⟨Dh, Dl⟩ := L4.nh hD
      have S5 := S4.same (same_upd (o := .lst [.int (a : Nat), .int (b : Nat)]) hD)
      have kD : (upd H4 D (.lst [.int (a : Nat), .int (b : Nat)])) D = some (.lst [.int (a : Nat), .int (b : Nat)]) := upd_same
      have kf5 := (same_upd (o := .lst [.int (a : Nat), .int (b : Nat)]) hD) _ _ (x4 _ _ fh fl (x3 _ _ fh fl kf))
      generalize upd H4 D (.lst [.int (a : Nat), .int (b : Nat)]) = H5 at S5 kD kf5 ⊢
      show qNext _ _ _ _
      refine go_next S5.law (by decide) (by decide) fun c H6 hc L6 x6 => ⟨c, 4, rfl, rfl, ⟨by decide, by decide⟩, ?_⟩
      have S6 := S5.next L6 x6
      have kD6 := x6 _ _ Dh Dl kD
      have kf6 := x6 _ _ fh fl kf5
      obtain ⟨z, hz0, hat⟩ : ∃ z : Int, (0 ≤ z ∧ z ≤ 9) ∧ atI [V.int (a : Nat), V.int (b : Nat)] ((c : Int) / 4) = some (.int z) := by
        have : c = 0 ∨ c = 1 ∨ c = 2 ∨ c = 3 ∨ c = 4 := by omega
        rcases this with rfl | rfl | rfl | rfl | rfl
        · exact ⟨a, ⟨by omega, by omega⟩, rfl⟩
        · exact ⟨a, ⟨by omega, by omega⟩, rfl⟩
        · exact ⟨a, ⟨by omega, by omega⟩, rfl⟩
        · exact ⟨a, ⟨by omega, by omega⟩, rfl⟩
        · exact ⟨b, ⟨by omega, by omega⟩, rfl⟩
      refine ⟨D, _, _, _, rfl, rfl, .inl (.inl kD6), hat, fs, _, _, rfl, rfl, kf6, ?_, ⟨_, rfl⟩, S6.upd hfs fh fl, zs ++ [z], by rw [List.length_append, zl]; rfl, fun y hy => ?_, ?_⟩
      · rw [List.length_map]
        exact small1000 (by omega)
      · rcases List.mem_append.mp hy with hy | hy
        · exact hz y hy
        · rw [List.mem_singleton.mp hy]
          exact hz0
      · rw [upd_same, List.map_append]
        rfl
    subst es
    have zl12 : 1 ≤ zs.length ∧ zs.length ≤ 12 := by rw [zl]; omega
    -- the routes
    refine ⟨Nat.zero_le _, fun fr hfr => ?_⟩
    obtain ⟨rh, rl⟩ := S.law.nh hfr
    have nfr := S.none hfr
    have S7 := S.same (same_upd (o := .lst []) hfr)
    have kr : (upd H' fr (.lst [])) fr = some (.lst []) := upd_same
    have kf7 := (same_upd (o := .lst []) hfr) _ _ kf
    generalize upd H' fr (.lst []) = H7 at S7 kr kf7 ⊢
    refine ⟨.ref h, rfl, .int nc, rfl, ?_⟩
    show qNext _ _ _ _
    refine go_next S7.law (by omega) (by omega) fun n2 H8 hn2 L8 x8 => ⟨1, n2, rfl, rfl, _, rfl, by omega, by omega, ?_⟩
    refine for_range (lo := 0) (n := ((1 : Int) + (n2 : Nat)).toNat) (fun i σ H' => (∃ y4 y6 y7 y8, σ = [some (.ref h), some (.int ns), some (.int nc), some (.ref fs), y4, some (.ref fr), y6, y7, y8]) ∧ St h l H H' ∧ H' fs = some (.lst (zs.map V.int)) ∧
        ∃ (qs : List Addr) (rs : List Ro), rs.length = i ∧ H' fr = some (.lst (qs.map V.ref)) ∧ Paired (fun q r => SqT K H' q (rV r)) qs rs ∧ ∀ r ∈ rs, (1 ≤ r.length ∧ r.length ≤ 6) ∧ ∀ e ∈ r, okE zs.length e = true)
      ⟨⟨_, _, _, _, rfl⟩, S7.next L8 x8, x8 _ _ fh fl kf7, [], [], rfl, x8 _ _ rh rl kr, .nil, fun r hr => (List.not_mem_nil hr).elim⟩ (fun i σ H9 hi ⟨⟨y4, y6, y7, y8, es⟩, S9, kf9, qs, rs, rl9, kr9, hP, hR⟩ => ?_) (fun σ H9 ⟨⟨y4, y6, y7, y8, es⟩, S9, kf9, qs, rs, rl9, kr9, hP, hR⟩ => ?_)
    · subst es
      have hi6 : i < 6 := by omega
      refine ⟨Nat.zero_le _, fun fe hfe => ?_⟩
      obtain ⟨eh, el⟩ := S9.law.nh hfe
      have ef : fe ≠ fs := (ne_of_none kf9 hfe).symm
      have er : fe ≠ fr := (ne_of_none kr9 hfe).symm
      have T10 := (St.refl S9.law).upd (o := .lst []) hfe eh el
      have ke : (upd H9 fe (.lst [])) fe = some (.lst []) := upd_same
      generalize upd H9 fe (.lst []) = H10 at T10 ke ⊢
      refine ⟨.ref h, rfl, (by show 2 ≤ sizeLine; decide), fun D hD => ⟨.ref h, rfl, ?_⟩⟩
      obtain ⟨Dh, Dl⟩ := T10.law.nh hD
      have T11 := T10.same (same_upd (o := .lst [.int 3, .int 6]) hD)
      have kD : (upd H10 D (.lst [.int 3, .int 6])) D = some (.lst [.int 3, .int 6]) := upd_same
      have ke11 := (same_upd (o := .lst [.int 3, .int 6]) hD) _ _ ke
      generalize upd H10 D (.lst [.int 3, .int 6]) = H11 at T11 kD ke11 ⊢
      show qNext _ _ _ _
      refine go_next T11.law (by decide) (by decide) fun u H12 hu L12 x12 => ?_
      have T12 := T11.next L12 x12
      obtain ⟨lim, l1, l2, hat⟩ : ∃ lim : Int, 0 < lim ∧ lim ≤ 6 ∧ atI [V.int 3, V.int 6] (u : Nat) = some (.int lim) := by
        have : u = 0 ∨ u = 1 := by omega
        rcases this with rfl | rfl
        · exact ⟨3, by decide, by decide, rfl⟩
        · exact ⟨6, by decide, by decide, rfl⟩
      refine ⟨D, _, _, _, rfl, rfl, .inl (.inl (x12 _ _ Dh Dl kD)), hat, ?_⟩
      show qNext _ _ _ _
      have p64 : (1000 : Int) < 2 ^ 64 := by decide
      refine go_next T12.law l1 (by omega) fun n3 H13 hn3 L13 x13 => ⟨1, n3, rfl, rfl, _, rfl, by omega, by omega, ?_⟩
      have T13 := T12.next L13 x13
      have ke13 := x13 _ _ eh el (x12 _ _ eh el ke11)
      refine for_range (lo := 0) (n := ((1 : Int) + (n3 : Nat)).toNat) (fun j σ H' => (∃ y8, σ = [some (.ref h), some (.int ns), some (.int nc), some (.ref fs), y4, some (.ref fr), some (.int (0 + (i : Nat))), some (.ref fe), y8]) ∧ St h l H9 H' ∧ ∃ r : Ro, r.length = j ∧ H' fe = some (.lst (rV r)) ∧ ∀ e ∈ r, okE zs.length e = true)
        ⟨⟨_, rfl⟩, T13, [], rfl, ke13, fun e he => (List.not_mem_nil he).elim⟩ (fun j σ H14 hj ⟨⟨y8, es⟩, T14, r, rlen, ke14, hre⟩ => ?_) (fun σ H14 ⟨⟨y8, es⟩, T14, r, rlen, ke14, hre⟩ => ?_)
      · subst es
        have hj6 : j < 6 := by omega
        refine ⟨.ref fe, rfl, .inl ⟨rfl, _, .inl (.inl ke14)⟩, .ref h, rfl, ?_⟩
        show qNext _ _ _ _
        refine go_next T14.law (by decide) (by decide) fun v H15 hv L15 x15 => ⟨rfl, _, rfl, ?_⟩
        have T15 := T14.next L15 x15
        have ke15 := x15 _ _ eh el ke14
        by_cases hv0 : v = 0
        · rw [decide_eq_true (by rw [hv0]; rfl)]
          refine iteT ⟨fe, _, _, rfl, rfl, ke15, ?_, ⟨_, rfl⟩, T15.upd hfe eh el, r ++ [none], by rw [List.length_append, rlen]; rfl, ?_, fun x hx => ?_⟩
          · rw [rV_len]
            exact small1000 (by omega)
          · rw [upd_same]
            unfold rV
            rw [List.map_append]
            rfl
          · rcases List.mem_append.mp hx with hx | hx
            · exact hre x hx
            · rw [List.mem_singleton.mp hx]
              rfl
        · rw [decide_eq_false fun z => hv0 (by have := V.int.inj z; omega)]
          have kf15 := T15.k _ _ fh fl kf9
          refine iteF ⟨.ref h, rfl, .ref fs, rfl, fs, _, rfl, .inl (.inl (.inl kf15)), ?_⟩
          rw [List.length_map]
          show qNext _ _ _ _
          refine go_next T15.law (by omega) (by omega) fun e H16 he L16 x16 => ?_
          have T16 := T15.next L16 x16
          refine ⟨fe, _, _, rfl, rfl, x16 _ _ eh el ke15, ?_, ⟨_, rfl⟩, T16.upd hfe eh el, r ++ [some (e : Int)], by rw [List.length_append, rlen]; rfl, ?_, fun x hx => ?_⟩
          · rw [rV_len]
            exact small1000 (by omega)
          · rw [upd_same]
            unfold rV
            rw [List.map_append]
            rfl
          · rcases List.mem_append.mp hx with hx | hx
            · exact hre x hx
            · rw [List.mem_singleton.mp hx]
              exact decide_eq_true ⟨by omega, by omega⟩
      · subst es
        have kr14 := T14.k _ _ rh rl kr9
        refine ⟨.ref fr, rfl, .inl ⟨rfl, _, .inl (.inl kr14)⟩, .ref fe, rfl, fe, _, rfl, .inl ⟨.inl (.inl ke14), fun t ht => ?_⟩⟩
        have U15 := T14.same (same_upd (o := .tup (rV r)) ht)
        have kt : (upd H14 t (.tup (rV r))) t = some (.tup (rV r)) := upd_same
        generalize upd H14 t (.tup (rV r)) = H15 at U15 kt ⊢
        have kr15 := U15.k _ _ rh rl kr9
        have kf15 := U15.k _ _ fh fl kf9
        have hql : qs.length = i := by rw [paired_len hP, rl9]
        refine ⟨fr, _, _, rfl, rfl, kr15, ?_, ⟨_, _, _, _, rfl⟩, (S9.trans U15).upd nfr rh rl, ?_, qs ++ [t], rs ++ [r], by rw [List.length_append, rl9]; rfl, ?_, ?_, fun x hx => ?_⟩
        · rw [List.length_map]
          exact small1000 (by omega)
        · rw [upd_ne (ne_of_none kf hfr)]
          exact kf15
        · rw [upd_same, List.map_append]
          rfl
        · exact paired_snoc (sqT_lst kr15 (.inl (.inl kt))) (paired_imp (fun a xs s => sqT_lst kr15 (sqT_x S9.law U15.k s)) hP)
        · rcases List.mem_append.mp hx with hx | hx
          · exact hR x hx
          · rw [List.mem_singleton.mp hx]
            exact ⟨by rw [rlen]; omega, hre⟩
    subst es
    refine ⟨.ref fs, rfl, fs, _, rfl, .inl ⟨.inl (.inl kf9), fun a ha => ?_⟩⟩
    have ma : Same H9 (upd H9 a (.tup (zs.map V.int))) := same_upd ha
    have ka : (upd H9 a (.tup (zs.map V.int))) a = some (.tup (zs.map V.int)) := upd_same
    generalize upd H9 a (.tup (zs.map V.int)) = Ha at ma ka ⊢
    refine ⟨.ref fr, rfl, fr, _, rfl, .inl ⟨.inl (.inl (ma _ _ kr9)), fun b hb => ?_⟩⟩
    have mb : Same Ha (upd Ha b (.tup (qs.map V.ref))) := same_upd hb
    have kb : (upd Ha b (.tup (qs.map V.ref))) b = some (.tup (qs.map V.ref)) := upd_same
    generalize upd Ha b (.tup (qs.map V.ref)) = Hb at mb kb ⊢
    refine ⟨(by show 2 ≤ sizeLine; decide), fun p hp => ?_⟩
    have mp : Same Hb (upd Hb p (.tup [.ref a, .ref b])) := same_upd hp
    refine q _ p zs rs (((S9.same ma).same mb).same mp) ⟨a, b, .inl (.inl upd_same), .inl (.inl (mp _ _ (mb _ _ ka))), qs, .inl (.inl (mp _ _ kb)), paired_same ((ma.trans mb).trans mp) hP⟩ ⟨⟨zl12, hz, ?_, fun r hr => (hR r hr).1⟩, fun r hr => (hR r hr).2⟩ ?_ ?_
    · rw [rl9]
      omega
    · rw [zl]
      omega
    · rw [rl9]
      omega
end
end Sv
set_option maxHeartbeats 4000000
namespace Sv
open PySem PySem.Spec PyProof.Rows L2
theorem cop997 : ∀ s : Fin 997, s = 0 ∨ Nat.gcd 997 s = 1 := by decide +kernel
theorem far997 {s d : Nat} (h1 : 1 ≤ s) (h2 : s ≤ 996) (d1 : 1 ≤ d) (d2 : d < 997) : (s * d) % 997 ≠ 0 := fun z => by
  have c : Nat.Coprime 997 s := by
    rcases cop997 ⟨s, by omega⟩ with q | q
    · have := congrArg Fin.val q
      simp at this
      omega
    · exact q
  have := Nat.le_of_dvd d1 (c.dvd_of_dvd_mul_left (Nat.dvd_of_mod_eq_zero z))
  omega
/-- the parcel with the number k -/
def prcl (a s : Nat) (k : Nat) : Int := 1 + (((a + s * k) % 997 : Nat) : Int)
def prcls (a s n : Nat) : List Int := (List.range n).map (prcl a s)
theorem prcls_len (a s n : Nat) : (prcls a s n).length = n := by unfold prcls; simp
theorem prcls_succ (a s n : Nat) : prcls a s (n + 1) = prcls a s n ++ [prcl a s n] := by
  unfold prcls
  rw [List.range_succ, List.map_append]
  rfl
theorem prcl_ne {a s i j : Nat} (h1 : 1 ≤ s) (h2 : s ≤ 996) (hij : i < j) (hj : j < 997) : prcl a s i ≠ prcl a s j := fun e => by
  unfold prcl at e
  have e2 : (a + s * i) % 997 = (a + s * j) % 997 := by omega
  have e3 : s * j = s * i + s * (j - i) := by rw [← Nat.mul_add]; congr 1; omega
  rw [e3] at e2
  exact far997 (s := s) (d := j - i) h1 h2 (by omega) (by omega) (by omega)
theorem prcls_le {a s n : Nat} : ∀ x ∈ prcls a s n, x ≤ 997 := fun x hx => by
  obtain ⟨k, _, rfl⟩ := List.mem_map.mp hx
  unfold prcl
  have := Nat.mod_lt (a + s * k) (show 997 > 0 by decide)
  omega
theorem prcls_ok {a s n : Nat} (h1 : 1 ≤ s) (h2 : s ≤ 996) (hn : n ≤ 997) : OkP (prcls a s n) := by
  refine ⟨fun x hx => ?_, ?_⟩
  · obtain ⟨k, _, rfl⟩ := List.mem_map.mp hx
    unfold prcl
    have := Nat.mod_lt (a + s * k) (by decide : 0 < 997)
    omega
  · refine List.pairwise_iff_getElem.mpr fun i j hi hj hij => ?_
    simp only [prcls, List.getElem_map, List.getElem_range]
    rw [prcls_len] at hj
    exact prcl_ne h1 h2 hij (by omega)
section
variable {P : Program} {w : World} {K : PySem.W.Frag} {mg : Str → Option Value} {base : Heap}
def nLs : List Str := ["_law_h", "_law_plan_here", "_law_start", "_law_step_here", "_law_parcels", "_law_time", "_law_carried", "_law_shelves", "_law_spot", "_law_size", "_law_k"]
theorem scState : FnScope nLs ["_law_h", "_law_plan_here"] (defScope sState) := ⟨rfl, rfl, rfl, by decide +kernel, rfl, by decide +kernel, by decide +kernel⟩
def spState (K : PySem.W.Frag) : Sp := fun vs H Q _ => ∃ (h l p : Addr) (zs : List Int) (rs : List Ro), vs = [.ref h, .ref p] ∧ LawH H h l ∧ PlanAt K H p zs rs ∧ Val zs rs ∧
  ∀ H' s t L, St h l H H' → StateAt K H' s t L → StOk zs rs t L → (-50 ≤ t ∧ t ≤ 1000000000000000) → (∀ x ∈ join L, x ≤ 997) → Q (.ref s) H'
theorem ok_state (T : Bd P K mg) : FnOk P w K mg base CX0 2 T.aLState T.dLState ["_law_h", "_law_plan_here"] (spState K) := by
  have GN : FnOk P w K mg base CX0 1 T.aLNext T.dLNext ["_law_h", "_law_limit"] qNext := by unfold qNext; exact ok_next T.LNext.F T.bt
  refine T.LState.F.ok scState (fun vs H Q E h => ?_) (fun cdv A outer s H vs Q E hr h => ?_)
  · obtain ⟨h, l, p, zs, rs, rfl, _⟩ := h
    rfl
  · obtain ⟨h, l, p, zs, rs, rfl, LH, hp, hv, q⟩ := h
    obtain ⟨a, b, hp1, ha, hb⟩ := hp.ex
    obtain ⟨qs, hA, hP⟩ := hb.ex
    have hql := paired_len hP
    refine ⟨_, pss_cons (ps_asg (pe_tup (pa_cons (pe_call (E := E0) GN hr (by rfl) T.LNext.g T.LNext.F.kp T.LNext.b .nil pass0 (pa_cons (pv 0) (pa_cons pe_int pa_nil))) (pa_cons (pe_op op_add pe_int (pe_call (E := E0) GN hr (by rfl) T.LNext.g T.LNext.F.kp T.LNext.b .nil pass0 (pa_cons (pv 0) (pa_cons pe_int pa_nil)))) pa_nil)))
        (pg_tup rfl (pgs_cons (pg_name (i := 2) scState.nd rfl (.inr rfl)) (pgs_cons (pg_name (i := 3) scState.nd rfl (.inr rfl)) pgs_nil))))
      (pss_cons (ps_setLc (i := 4) (own := [("_law_k", 10)]) (g := gName 10) rfl scState.nd rfl rfl (sw_true rfl rfl rfl (by decide +kernel)) (pi_range1 (by rfl) T.bt.range (pa_cons (pe_op op_add (pe_callB call_len_seq (by rfl) T.bt.len b_len (pa_cons (pe_ix ix_tup (pv 1) pe_int (fun _ _ => rfl)) pa_nil)) (pe_callB (cr_sumT rfl) (by rfl) T.bt.sum b_sum (pa_cons (pe_ix ix_tup (pv 1) pe_int (fun _ _ => rfl)) pa_nil))) pa_nil))
        (blkOk_by (N := nLs) (sc := defScope sState) (by decide +kernel))
        (fun _ _ _ _ _ => pg_name (i := 10) scState.nd rfl (Or.inl rfl)) (fun _ _ _ _ _ => pts_nil) (fun _ _ _ _ _ => pe_op op_add pe_int (pe_op op_mod (pe_callTy call_int1 (by rfl) T.bt.int b_int (pa_cons (pe_op op_add (pv 2) (pe_op op_mul (pv 3) (pv 10))) pa_nil)) pe_int)))
      (pss_cons (ps_set (i := 5) scState.nd rfl (Or.inl rfl) (pe_ix ix_list (pe_lst (pa_cons pe_int (pa_cons (pe_call (E := E0) GN hr (by rfl) T.LNext.g T.LNext.F.kp T.LNext.b .nil pass0 (pa_cons (pv 0) (pa_cons pe_int pa_nil)))
          (pa_cons (pe_op op_sub pe_int (pe_call (E := E0) GN hr (by rfl) T.LNext.g T.LNext.F.kp T.LNext.b .nil pass0 (pa_cons (pv 0) (pa_cons pe_int pa_nil))))
          (pa_cons (pe_op op_sub (pe_op op_pow pe_int pe_int) (pe_call (E := E0) GN hr (by rfl) T.LNext.g T.LNext.F.kp T.LNext.b .nil pass0 (pa_cons (pv 0) (pa_cons (pe_op op_pow pe_int pe_int) pa_nil)))) pa_nil)))))
          (pe_call (E := E0) GN hr (by rfl) T.LNext.g T.LNext.F.kp T.LNext.b .nil pass0 (pa_cons (pv 0) (pa_cons pe_int pa_nil))) (fun _ _ => rfl)))
      (pss_cons (ps_par3 (i := 6) (j := 7) (l := 8) rfl scState.nd rfl rfl rfl (by decide) (by decide) (by decide) rfl rfl rfl (pa_cons (pe_callTy call_tuple_of (by rfl) T.bt.tuple b_tuple (pa_cons (pe_slice sl_list (pv 4) po_none (po_some (pe_callB call_len_seq (by rfl) T.bt.len b_len (pa_cons (pe_ix ix_tup (pv 1) pe_int (fun _ _ => rfl)) pa_nil)))) pa_nil))
          (pa_cons (pe_lst pa_nil) (pa_cons (pe_callB call_len_seq (by rfl) T.bt.len b_len (pa_cons (pe_ix ix_tup (pv 1) pe_int (fun _ _ => rfl)) pa_nil)) pa_nil))) (by rfl))
      (pss_cons (ps_for PassesOwn.never rfl (pi_tup (pe_ix ix_tup (pv 1) pe_int (fun _ _ => rfl))) (pg_name (i := 9) scState.nd rfl (Or.inl rfl))
        (pss_cons (ps_expr (pe_bm PySem.F.plainAttrs_list PySem.F.slot_list_append PySem.F.type_list_append mt_append (pv 7) (pa_cons (pe_callTy call_tuple_of (by rfl) T.bt.tuple b_tuple (pa_cons (pe_slice sl_list (pv 4) (po_some (pv 8)) (po_some (pe_op op_add (pv 8) (pv 9)))) pa_nil)) pa_nil)))
        (pss_one (ps_set (i := 8) scState.nd rfl (Or.inl rfl) (pe_op op_add (pv 8) (pv 9))))))
      (pss_one (ps_ret (pe_tup (pa_cons (pv 5) (pa_cons (pv 6) (pa_cons (pe_callTy call_tuple_of (by rfl) T.bt.tuple b_tuple (pa_cons (pv 7) pa_nil)) pa_nil)))))))))), ?_⟩
    have hn := hv.num
    have p62 : (1000 : Int) < 2 ^ 62 := by decide
    have hr6 := hv.r1
    have hz12 := hv.z1
    -- two numbers
    refine ⟨.ref h, rfl, ?_⟩
    show qNext _ _ _ _
    refine go_next LH (by decide) (by decide) fun a0 H1 ha0 L1 x1 => ⟨.ref h, rfl, ?_⟩
    have S1 := (St.refl LH).next L1 x1
    show qNext _ _ _ _
    refine go_next S1.law (by decide) (by decide) fun s0 H2 hs0 L2 x2 => ⟨1, s0, rfl, rfl, (by show 2 ≤ sizeLine; decide), fun tp htp => ?_⟩
    have S2 := S1.next L2 x2
    have S3 := S2.same (same_upd (o := .tup [.int (a0 : Nat), .int (1 + (s0 : Nat))]) htp)
    have k3 : (upd H2 tp (.tup [.int (a0 : Nat), .int (1 + (s0 : Nat))])) tp = some (.tup [.int (a0 : Nat), .int (1 + (s0 : Nat))]) := upd_same
    generalize upd H2 tp (.tup [.int (a0 : Nat), .int (1 + (s0 : Nat))]) = H3 at S3 k3 ⊢
    refine ⟨tp, _, rfl, .inl (.inl k3), rfl, _, _, rfl, _, _, rfl, rfl, ?_⟩
    -- the parcels
    have hp3 := sqT_x LH S3.k hp1
    have ha3 := sqT_x LH S3.k ha
    have hA3 := sqT_x LH S3.k hA
    refine ⟨.ref p, rfl, p, _, 1, .ref b, rfl, rfl, hp3, rfl, b, _, rfl, .inr hA3, .ref p, rfl, p, _, 0, .ref a, rfl, rfl, hp3, rfl, a, zs, rfl, ha3, _, _, rfl, rfl, ?_⟩
    rw [List.length_map, hql, sum_int fun z hz => (hv.z2 z hz).1]
    refine ⟨_, rfl, by omega, by omega, fun c hc => ?_⟩
    obtain ⟨ch, cl⟩ := S3.law.nh hc
    have en : (((rs.length : Nat) : Int) + ((sumN zs : Nat) : Int)).toNat = rs.length + sumN zs := by omega
    rw [en]
    refine lc_range (lo := 0) (n := rs.length + sumN zs) (fun i H' => Same H3 H' ∧ H' c = some (.lst ((prcls a0 (1 + s0) i).map V.int))) ⟨same_upd hc, upd_same⟩ (fun i H' hi ⟨sm, kc⟩ => ?_) (fun H4 ⟨sm, kc⟩ => ?_)
    · refine ⟨rfl, yes_go ⟨.int (a0 : Nat), rfl, .int (1 + (s0 : Nat)), rfl, .int (0 + (i : Nat)), rfl, _, _, rfl, rfl, .inl ⟨by omega, by omega⟩, _, _, rfl, rfl, .inl ⟨_, rfl, _, _, rfl, rfl, (by show (0 : Int) < 997; decide), 1, _, rfl, rfl, _, kc, ?_, same_of sm hc, ?_⟩⟩⟩
      · rw [List.length_map, prcls_len]
        exact small1000 (by omega)
      · have ev : (1 : Int) + ((a0 : Nat) + (1 + (s0 : Nat)) * (0 + (i : Nat))) % 997 = prcl a0 (1 + s0) i := by
          unfold prcl
          rw [Int.natCast_emod, Int.natCast_add, Int.natCast_mul, Int.natCast_add, Int.zero_add]
          rfl
        rw [upd_same, prcls_succ, List.map_append]
        show some (HO.lst (_ ++ [V.int ((1 : Int) + ((a0 : Nat) + (1 + (s0 : Nat)) * (0 + (i : Nat))) % 997)])) = _
        rw [ev]
        rfl
    have S4 := S3.same sm
    have po : OkP (prcls a0 (1 + s0) (rs.length + sumN zs)) := prcls_ok (by omega) (by omega) (by omega)
    have pl := prcls_len a0 (1 + s0) (rs.length + sumN zs)
    have p97 : ∀ x ∈ prcls a0 (1 + s0) (rs.length + sumN zs), x ≤ 997 := prcls_le
    generalize prcls a0 (1 + s0) (rs.length + sumN zs) = cs at kc po pl p97
    -- the time
    refine ⟨.ref h, rfl, ?_⟩
    show qNext _ _ _ _
    refine go_next S4.law (by decide) (by decide) fun u1 H5 hu1 L5 x5 => ⟨.ref h, rfl, ?_⟩
    have S5 := S4.next L5 x5
    show qNext _ _ _ _
    refine go_next S5.law (by decide) (by decide) fun u2 H6 hu2 L6 x6 => ⟨0, u2, rfl, rfl, 10, 15, rfl, rfl, ⟨by decide, by decide, by decide⟩, .ref h, rfl, 10, 15, rfl, rfl, ⟨by decide, by decide, by decide⟩, ?_⟩
    have S6 := S5.next L6 x6
    show qNext _ _ _ _
    refine go_next S6.law (by decide) (by decide) fun u3 H7 hu3 L7 x7 => ⟨_, u3, rfl, rfl, (by show 4 ≤ sizeLine; decide), fun D hD => ⟨.ref h, rfl, ?_⟩⟩
    have S7 := S6.next L7 x7
    obtain ⟨Dh, Dl⟩ := L7.nh hD
    have e15 : (10 : Int) ^ (15 : Int).toNat = 1000000000000000 := by decide
    have hu3' : (u3 : Int) < 1000000000000000 := by rw [← e15]; exact hu3
    rw [e15]
    have S8 := S7.same (same_upd (o := .lst [.int 0, .int (u1 : Nat), .int (0 - (u2 : Nat)), .int (1000000000000000 - (u3 : Nat))]) hD)
    have kD : (upd H7 D (.lst [.int 0, .int (u1 : Nat), .int (0 - (u2 : Nat)), .int (1000000000000000 - (u3 : Nat))])) D = some (.lst [.int 0, .int (u1 : Nat), .int (0 - (u2 : Nat)), .int (1000000000000000 - (u3 : Nat))]) := upd_same
    have kc7 := x7 _ _ ch cl (x6 _ _ ch cl (x5 _ _ ch cl kc))
    have kc8 := (same_upd (o := .lst [.int 0, .int (u1 : Nat), .int (0 - (u2 : Nat)), .int (1000000000000000 - (u3 : Nat))]) hD) _ _ kc7
    generalize upd H7 D (.lst [.int 0, .int (u1 : Nat), .int (0 - (u2 : Nat)), .int (1000000000000000 - (u3 : Nat))]) = H8 at S8 kD kc8 ⊢
    show qNext _ _ _ _
    refine go_next S8.law (by decide) (by decide) fun u4 H9 hu4 L9 x9 => ?_
    have S9 := S8.next L9 x9
    have kD9 := x9 _ _ Dh Dl kD
    have kc9 := x9 _ _ ch cl kc8
    obtain ⟨t, ht, hat⟩ : ∃ t : Int, (-50 ≤ t ∧ t ≤ 1000000000000000) ∧ atI [V.int 0, V.int (u1 : Nat), V.int (0 - (u2 : Nat)), V.int (1000000000000000 - (u3 : Nat))] (u4 : Nat) = some (.int t) := by
      have : u4 = 0 ∨ u4 = 1 ∨ u4 = 2 ∨ u4 = 3 := by omega
      rcases this with rfl | rfl | rfl | rfl
      · exact ⟨0, ⟨by decide, by decide⟩, rfl⟩
      · exact ⟨u1, ⟨by omega, by omega⟩, rfl⟩
      · exact ⟨0 - (u2 : Nat), ⟨by omega, by omega⟩, rfl⟩
      · exact ⟨1000000000000000 - (u3 : Nat), ⟨by omega, by omega⟩, rfl⟩
    refine ⟨D, _, _, _, rfl, rfl, .inl (.inl kD9), hat, ?_⟩
    -- the carried ones
    have hp9 := sqT_x LH S9.k hp1
    have ha9 := sqT_x LH S9.k ha
    have hA9 := sqT_x LH S9.k hA
    refine ⟨.ref c, rfl, .ref p, rfl, p, _, 1, .ref b, rfl, rfl, hp9, rfl, b, _, rfl, .inr hA9, ?_⟩
    rw [List.length_map, hql]
    refine ⟨(rs.length : Nat), rfl, c, _, rfl, .inl (.inl kc9), fun p1 hp1' => ?_⟩
    rw [cut_to, ← List.map_take]
    have m1 : Same H9 (upd H9 p1 (.lst ((cs.take rs.length).map V.int))) := same_upd hp1'
    refine ⟨p1, _, rfl, .inl ⟨.inl (.inl upd_same), fun ca hca => ?_⟩⟩
    have m2 := m1.trans (same_upd (o := .tup ((cs.take rs.length).map V.int)) hca)
    have kca : (upd (upd H9 p1 (.lst ((cs.take rs.length).map V.int))) ca (.tup ((cs.take rs.length).map V.int))) ca = some (.tup ((cs.take rs.length).map V.int)) := upd_same
    generalize upd (upd H9 p1 (.lst ((cs.take rs.length).map V.int))) ca (.tup ((cs.take rs.length).map V.int)) = H10 at m2 kca ⊢
    refine ⟨Nat.zero_le _, fun f hf => ?_⟩
    have nf : H9 f = none := Same.free m2 hf
    have m3 : Same H9 (upd H10 f (.lst [])) := m2.trans (same_upd hf)
    have kca3 : (upd H10 f (.lst [])) ca = some (.tup ((cs.take rs.length).map V.int)) := by rw [upd_ne (ne_of_none kca hf)]; exact kca
    have kf3 : (upd H10 f (.lst [])) f = some (.lst []) := upd_same
    generalize upd H10 f (.lst []) = H11 at m3 kca3 kf3 ⊢
    refine ⟨.ref p, rfl, p, _, 1, .ref b, rfl, rfl, sqT_same m3 hp9, rfl, b, _, rfl, .inr (sqT_same m3 hA9), _, _, _, rfl, ?_⟩
    rw [List.length_map, hql]
    have cf : c ≠ f := ne_of_none kc9 nf
    refine ⟨.ref p, rfl, p, _, 0, .ref a, rfl, rfl, sqT_same m3 hp9, rfl, a, rfl, ⟨_, sqT_same m3 ha9⟩, for_tup (xs := zs.map V.int) (fun i σ H' => (∃ y9, σ = [some (.ref h), some (.ref p), some (.int (a0 : Nat)), some (.int (1 + (s0 : Nat))), some (.ref c), some (.int t), some (.ref ca), some (.ref f), some (.int (rs.length + sumN (zs.take i) : Nat)), y9, none]) ∧ Same H9 H' ∧ H' ca = some (.tup ((cs.take rs.length).map V.int)) ∧
        ∃ qs : List Addr, H' f = some (.lst (qs.map V.ref)) ∧ SegV H' qs (segs cs rs.length (zs.take i))) ⟨⟨none, rfl⟩, m3, kca3, [], kf3, .nil⟩ (fun i σ H' _ h => sqT_same h.2.1 ha9) (fun i x σ H' hx ⟨⟨y9, es⟩, sm, kc1, qs2, kf, sv⟩ => ?_) (fun σ H' ⟨⟨y9, es⟩, sm, kc1, qs2, kf, sv⟩ => ?_)⟩
    · subst es
      obtain ⟨z, hz1, rfl⟩ := iV_lt hx
      have hzz := hv.z2 z (List.mem_of_getElem? hz1)
      have il : i < zs.length := (List.getElem?_eq_some_iff.mp hz1).1
      have kc2 := sm _ _ kc9
      refine ⟨.ref f, rfl, .inl ⟨rfl, _, .inl (.inl kf)⟩, .ref c, rfl, .int (rs.length + sumN (zs.take i) : Nat), rfl, (rs.length + sumN (zs.take i) : Nat), rfl, .int (rs.length + sumN (zs.take i) : Nat), rfl, .int z, rfl, (rs.length + sumN (zs.take i) : Nat), z, rfl, rfl, _, rfl, c, _, rfl, .inl (.inl kc2), fun p4 hp4 => ?_⟩
      have ecut : cutV (cs.map V.int) (some ((rs.length + sumN (zs.take i) : Nat) : Int)) (some (((rs.length + sumN (zs.take i) : Nat) : Int) + z)) = ((cs.drop (rs.length + sumN (zs.take i))).take z.toNat).map V.int := by
        rw [show (((rs.length + sumN (zs.take i) : Nat) : Int) + z) = ((rs.length + sumN (zs.take i) : Nat) : Int) + (z.toNat : Nat) by omega, cut_seg, ← List.map_drop, ← List.map_take]
      rw [ecut]
      have m4 : Same H' (upd H' p4 (.lst (((cs.drop (rs.length + sumN (zs.take i))).take z.toNat).map V.int))) := same_upd hp4
      refine ⟨p4, _, rfl, .inl ⟨.inl (.inl upd_same), fun p5 hp5 => ?_⟩⟩
      have m5 := m4.trans (same_upd (o := .tup (((cs.drop (rs.length + sumN (zs.take i))).take z.toNat).map V.int)) hp5)
      have k5 : (upd (upd H' p4 (.lst (((cs.drop (rs.length + sumN (zs.take i))).take z.toNat).map V.int))) p5 (.tup (((cs.drop (rs.length + sumN (zs.take i))).take z.toNat).map V.int))) p5 = some (.tup (((cs.drop (rs.length + sumN (zs.take i))).take z.toNat).map V.int)) := upd_same
      generalize upd (upd H' p4 (.lst (((cs.drop (rs.length + sumN (zs.take i))).take z.toNat).map V.int))) p5 (.tup (((cs.drop (rs.length + sumN (zs.take i))).take z.toNat).map V.int)) = H12 at m5 k5 ⊢
      have kf5 := m5 _ _ kf
      have hql2 : qs2.length = i := by
        rw [segV_len sv, segs_len, List.length_take]
        omega
      have ek : zs.take (i + 1) = zs.take i ++ [z] := by rw [List.take_add_one, hz1]; rfl
      refine ⟨f, _, _, rfl, rfl, kf5, ?_, .int (rs.length + sumN (zs.take i) : Nat), rfl, .int z, rfl, (rs.length + sumN (zs.take i) : Nat), z, rfl, rfl, ⟨some (.int z), ?_⟩, same_of (sm.trans m5) nf, ?_, qs2 ++ [p5], ?_, ?_⟩
      · rw [List.length_map]
        exact small1000 (by omega)
      · rw [ek, sumN_snoc]
        have : (((rs.length + sumN (zs.take i) : Nat) : Int) + z) = ((rs.length + (sumN (zs.take i) + z.toNat) : Nat) : Int) := by omega
        show [_, _, _, _, _, _, _, _, some (V.int (((rs.length + sumN (zs.take i) : Nat) : Int) + z)), _, _] = _
        rw [this]
      · rw [upd_ne (fun e => by rw [e, kf] at kc1; cases kc1)]
        exact m5 _ _ kc1
      · rw [upd_same, List.map_append]
        rfl
      · rw [ek, segs_snoc]
        refine segV_imp (fun b xs hb => ?_) (segV_snoc k5 (segV_imp (fun b xs hb => m5 _ _ hb) sv))
        rw [upd_ne (fun e => by rw [e, kf5] at hb; cases hb)]
        exact hb
    · subst es
      rw [List.length_map, List.take_length] at sv
      refine ⟨.int t, rfl, .ref ca, rfl, .ref f, rfl, f, _, rfl, .inl ⟨.inl (.inl kf), fun sh hsh => ⟨(by show 3 ≤ sizeLine; decide), fun t2 ht2 => ?_⟩⟩⟩
      have ksh : (upd H' sh (.tup (qs2.map V.ref))) sh = some (.tup (qs2.map V.ref)) := upd_same
      have m6 : Same H' (upd (upd H' sh (.tup (qs2.map V.ref))) t2 (.tup [.int t, .ref ca, .ref sh])) := (same_upd hsh).trans (same_upd ht2)
      have lay : LayAt (upd (upd H' sh (.tup (qs2.map V.ref))) t2 (.tup [.int t, .ref ca, .ref sh])) ca sh (cs.take rs.length) (segs cs rs.length zs) :=
        ⟨m6 _ _ kc1, qs2, by rw [upd_ne (ne_of_none ksh ht2)]; exact ksh, segV_imp (fun b xs hb => m6 _ _ hb) sv⟩
      have hcl : cs.length = rs.length + sumN zs := pl
      refine q _ t2 t (spl rs.length zs cs) (S9.same (sm.trans m6)) ⟨ca, sh, .inl (.inl upd_same), lay.t⟩ ⟨⟨by omega, by omega⟩, spl_fits hcl, by rw [join_spl hcl]; exact po⟩ ht (by rw [join_spl hcl]; exact p97)
end
end Sv
set_option maxHeartbeats 4000000
namespace Sv
open PySem PySem.Spec PyProof.Rows L2
def spKV (ks : List Int) (ps : List Addr) : List (Key × V) := (ks.zip ps).map fun x => (Sum.inl x.1, V.ref x.2)
theorem spKV_snoc {ks : List Int} {ps : List Addr} (h : ks.length = ps.length) (k : Int) (p : Addr) : spKV (ks ++ [k]) (ps ++ [p]) = spKV ks ps ++ [(Sum.inl k, V.ref p)] := by
  unfold spKV
  rw [List.zip_append h, List.map_append]
  rfl
theorem spKV_new {ks : List Int} {ps : List Addr} {k : Int} {v : V} (h : k ∉ ks) : putK (spKV ks ps) (Sum.inl k) v = spKV ks ps ++ [(Sum.inl k, v)] := by
  unfold putK
  rw [if_neg]
  intro z
  obtain ⟨kv, hkv, e⟩ := List.any_eq_true.mp z
  unfold spKV at hkv
  obtain ⟨⟨a, b⟩, hab, rfl⟩ := List.mem_map.mp hkv
  have e1 : (Sum.inl a : Key) = Sum.inl k := of_decide_eq_true e
  have e2 : a = k := Sum.inl.inj e1
  exact h (by rw [← e2]; exact (List.of_mem_zip hab).1)
/-- at d the places ts by the parcels ks -/
structure SpotsAt (H : Hp) (d : Addr) (ks : List Int) (ts : List (List V)) : Prop where
  ex : ∃ ps : List Addr, H d = some (.dK (spKV ks ps)) ∧ TupsV H ps ts ∧ ks.length = ps.length
theorem SpotsAt.same {H H' : Hp} {d : Addr} {ks : List Int} {ts : List (List V)} (x : SpotsAt H d ks ts) (e : Same H H') : SpotsAt H' d ks ts := by
  obtain ⟨ps, h1, h2, h3⟩ := x.ex
  exact ⟨ps, e _ _ h1, tupsV_same e h2, h3⟩
theorem SpotsAt.push {H : Hp} {d p : Addr} {ks : List Int} {ts : List (List V)} {k : Int} {t : List V} {kvs : List (Key × V)} (x : SpotsAt H d ks ts) (hd : H d = some (.dK kvs)) (hp : H p = some (.tup t)) (hk : k ∉ ks) :
    SpotsAt (upd H d (.dK (putK kvs (Sum.inl k) (.ref p)))) d (ks ++ [k]) (ts ++ [t]) := by
  obtain ⟨ps, h1, h2, h3⟩ := x.ex
  rw [hd] at h1
  obtain rfl : kvs = spKV ks ps := by injection Option.some.inj h1
  refine ⟨ps ++ [p], by rw [upd_same, spKV_new hk, spKV_snoc h3], tupsV_imp (fun b xs q => ?_) (tupsV_snoc h2 hp), by rw [List.length_append, List.length_append, h3]; rfl⟩
  rw [upd_ne (fun z => by rw [z, hd] at q; cases q)]
  exact q
end Sv
set_option maxHeartbeats 4000000
namespace Sv
open PySem PySem.Spec PyProof.Rows L2
def wKV (t : Int) (hc hs : Addr) : List (Key × V) := [(Sum.inr "time", .int t), (Sum.inr "carried", .ref hc), (Sum.inr "shelves", .ref hs)]
/-- at w time, carried and shelves as they are now -/
structure W3 (H : Hp) (wa hc hs : Addr) (rw : List Addr) (t : Int) (L : Lay Int) : Prop where
  w : H wa = some (.dK (wKV t hc hs))
  c : H hc = some (.lst (L.1.map V.int))
  s : H hs = some (.lst (rw.map V.ref))
  r : RowL H rw L.2
  nd : rw.Nodup
  hcr : hc ∉ rw
  hsr : hs ∉ rw
  hcs : hc ≠ hs
theorem W3.same {H H' : Hp} {wa hc hs : Addr} {rw : List Addr} {t : Int} {L : Lay Int} (x : W3 H wa hc hs rw t L) (e : Same H H') : W3 H' wa hc hs rw t L :=
  ⟨e _ _ x.w, e _ _ x.c, e _ _ x.s, rowL_imp (fun q _ o ho => e _ _ ho) x.r, x.nd, x.hcr, x.hsr, x.hcs⟩
/-- all but F stays -/
def Off (F : List Addr) (H H' : Hp) : Prop := ∀ b o, b ∉ F → H b = some o → H' b = some o
theorem Off.refl (F : List Addr) (H : Hp) : Off F H H := fun _ _ _ h => h
theorem Off.trans {F : List Addr} {H H1 H2 : Hp} (a : Off F H H1) (b : Off F H1 H2) : Off F H H2 := fun c o n h => b c o n (a c o n h)
theorem Off.of {F : List Addr} {H H' : Hp} (e : Same H H') : Off F H H' := fun b o _ h => e b o h
theorem Off.upd {F : List Addr} {H : Hp} {p : Addr} {o : HO} (h : p ∈ F) : Off F H (L2.upd H p o) := fun b u n e => by
  rw [upd_ne (fun z : b = p => n (by rw [z]; exact h))]
  exact e
abbrev foot (wa hc : Addr) (rw : List Addr) : List Addr := wa :: hc :: rw
end Sv
set_option maxHeartbeats 4000000
set_option maxHeartbeats 4000000
namespace Sv
open PySem PySem.Spec PyProof.Rows L2
def dTi (l : List Int) : PyData := .tuple (l.map PyData.int)
theorem dpAll_int {K : PySem.W.Frag} {H : Hp} : ∀ l : List Int, DpAll K H (l.map V.int) (l.map PyData.int)
  | [] => .nil
  | i :: l => .cons (.int i) (dpAll_int l)
theorem dp_ti {K : PySem.W.Frag} {H : Hp} {a : Addr} {l : List Int} (h : SqT K H a (l.map V.int)) : Dp K H (.ref a) (dTi l) := .tup h (dpAll_int l)
theorem okD_i (n : Nat) (i : Int) : okD n (.int i) = true := by cases n <;> rfl
theorem okDs_int (n : Nat) : ∀ l : List Int, okDs n (l.map PyData.int) = true
  | [] => by unfold okDs; rfl
  | i :: l => by
    rw [List.map_cons]
    unfold okDs
    rw [okDs_int n l, Bool.and_true]
    exact okD_i n i
theorem okD_ti {n : Nat} {l : List Int} (h : l.length ≤ 1000) : okD (n + 1) (dTi l) = true := by
  unfold dTi okD
  rw [okDs_int, List.length_map, decide_eq_true h]
  rfl
end Sv
set_option maxHeartbeats 4000000
set_option maxHeartbeats 1000000
namespace Sv
/-- all things moved -/
def moveA {α : Type} (d : α) (e : List Nat) (cs : List α) : List α := (inv e).map fun i => cs.getD i d
theorem moveA_len {α : Type} (d : α) (e : List Nat) (cs : List α) : (moveA d e cs).length = e.length := by unfold moveA; rw [List.length_map, inv_len]
theorem moveA_at {α : Type} (d : α) {e : List Nat} (E : Eff e) {cs : List α} (hl : cs.length = e.length) {i : Nat} (hi : i < e.length) : (moveA d e cs)[ap e i]? = cs[i]? := by
  unfold moveA
  rw [List.getElem?_map, ap_at (by rw [inv_len]; exact ap_lt E hi), inv_ap E hi, Option.map_some, List.getD_eq_getElem?_getD, List.getElem?_eq_getElem (by omega)]
  rfl
section
variable {α : Type} (d : α) (zs : List Int) (rs : List Ro)
/-- a layout of the time t after c ticks -/
noncomputable def advA (t c : Int) (L : Lay α) : Lay α := spl rs.length zs (moveA d (effT rs.length zs rs t c) (join L))
theorem advA_fits (t c : Int) (L : Lay α) : Fits rs.length zs (advA d zs rs t c L) := spl_fits (by rw [moveA_len, effT_len])
theorem join_advA (t c : Int) (L : Lay α) : join (advA d zs rs t c L) = moveA d (effT rs.length zs rs t c) (join L) := join_spl (by rw [moveA_len, effT_len])
variable {rs}
variable (h : ∀ r ∈ rs, r ≠ []) (hp : 1 ≤ lc rs)
include h hp
end
end Sv
set_option maxHeartbeats 4000000
namespace Sv
open PySem PySem.Spec PyProof.Rows L2
/-- a valid plan, one of its states -/
structure PS0 (K : PySem.W.Frag) (H : Hp) (p s : Addr) (zs : List Int) (rs : List Ro) (t : Int) (L : Lay Int) : Prop where
  p : PlanAt K H p zs rs
  v : Val zs rs
  s : StateAt K H s t L
  o : StOk zs rs t L
theorem PS0.imp {K : PySem.W.Frag} {H H' : Hp} {p s : Addr} {zs : List Int} {rs : List Ro} {t : Int} {L : Lay Int} (x : PS0 K H p s zs rs t L) (e : ∀ a xs, SqT K H a xs → SqT K H' a xs) : PS0 K H' p s zs rs t L := by
  obtain ⟨a, b, h1, h2, h3⟩ := x.p.ex
  obtain ⟨qs, h4, h5⟩ := h3.ex
  exact ⟨⟨a, b, e _ _ h1, e _ _ h2, qs, e _ _ h4, paired_imp (K := K) e h5⟩, x.v, x.s.imp e, x.o⟩
theorem plan_imp {K : PySem.W.Frag} {H H' : Hp} {p : Addr} {zs : List Int} {rs : List Ro} (x : PlanAt K H p zs rs) (e : ∀ a xs, SqT K H a xs → SqT K H' a xs) : PlanAt K H' p zs rs := by
  obtain ⟨a, b, h1, h2, h3⟩ := x.ex
  obtain ⟨qs, h4, h5⟩ := h3.ex
  exact ⟨a, b, e _ _ h1, e _ _ h2, qs, e _ _ h4, paired_imp (K := K) e h5⟩
def vAdvance (K : PySem.W.Frag) : Sp := fun vs H Q _ => ∃ (p s : Addr) (zs : List Int) (rs : List Ro) (t c : Int) (L : Lay Int), vs = [.ref p, .ref s, .int c] ∧ PS0 K H p s zs rs t L ∧ CtOk c ∧
  ∀ H' s', Same H H' → StateAt K H' s' (t + c) (advA 0 zs rs t c L) → Q (.ref s') H'
@[irreducible] def qPlanG (K : PySem.W.Frag) : Sp := spPlanG K
@[irreducible] def qState (K : PySem.W.Frag) : Sp := spState K
@[irreducible] def qAlike (K : PySem.W.Frag) : Sp := spAlike K 6
@[irreducible] def qAdvance (K : PySem.W.Frag) : Sp := vAdvance K
section
variable {K : PySem.W.Frag} {H : Hp} {Q : VK} {E : XK}
theorem go_planG {h l : Addr} {ns nc : Int} (L : LawH H h l) (h1 : 1 ≤ ns ∧ ns ≤ 12) (h2 : 1 ≤ nc ∧ nc ≤ 6) (q : ∀ H' p zs rs, St h l H H' → PlanAt K H' p zs rs → Val zs rs → (zs.length : Int) ≤ ns → (rs.length : Int) ≤ nc → Q (.ref p) H') : qPlanG K [.ref h, .int ns, .int nc] H Q E := by
  unfold qPlanG
  exact ⟨h, l, ns, nc, rfl, L, h1, h2, q⟩
theorem go_state {h l p : Addr} {zs : List Int} {rs : List Ro} (L : LawH H h l) (hp : PlanAt K H p zs rs) (hv : Val zs rs) (q : ∀ H' s t L, St h l H H' → StateAt K H' s t L → StOk zs rs t L → (-50 ≤ t ∧ t ≤ 1000000000000000) → Q (.ref s) H') : qState K [.ref h, .ref p] H Q E := by
  unfold qState
  exact ⟨h, l, p, zs, rs, rfl, L, hp, hv, fun H' s t L a b c d _ => q H' s t L a b c d⟩
theorem go_alike {x y : V} {d : PyData} (h1 : Dp K H x d) (h2 : Dp K H y d) (o : okD 6 d = true) (q : ∀ H', Same H H' → Q (.bl true) H') : qAlike K [x, y] H Q E := by
  unfold qAlike
  exact ⟨x, y, d, rfl, h1, h2, o, q⟩
theorem go_advance {p s : Addr} {zs : List Int} {rs : List Ro} {t c : Int} {L : Lay Int} (x : PS0 K H p s zs rs t L) (hc : CtOk c) (q : ∀ H' s', Same H H' → StateAt K H' s' (t + c) (advA 0 zs rs t c L) → Q (.ref s') H') : qAdvance K [.ref p, .ref s, .int c] H Q E := by
  unfold qAdvance
  exact ⟨p, s, zs, rs, t, c, L, rfl, x, hc, q⟩
end
theorem sqT_st {K : PySem.W.Frag} {h l : Addr} {H H' : Hp} (L : LawH H h l) (S : St h l H H') : ∀ a xs, SqT K H a xs → SqT K H' a xs := fun a xs s => sqT_x L S.k s
/-- states behind ticks are valid, too -/
theorem moveA_mem {d : Int} {e : List Nat} (E : Eff e) {cs : List Int} (hl : cs.length = e.length) : (moveA d e cs).Perm cs := by
  have p1 : (inv e).Perm (List.range cs.length) := by
    have I := inv_eff E
    have il := inv_len e
    refine (List.perm_ext_iff_of_nodup I.2 List.nodup_range).mpr fun x => ⟨fun hx => ?_, fun hx => ?_⟩
    · have := I.1 x hx
      exact List.mem_range.mpr (by omega)
    · have hx' := List.mem_range.mp hx
      have h1 := ap_at (e := inv e) (x := ap e x) (by rw [il]; exact ap_lt E (by omega))
      rw [inv_ap E (by omega)] at h1
      exact List.mem_of_getElem? h1
  have := p1.map fun i => cs.getD i d
  rw [map_getD d cs] at this
  exact this
theorem okP_perm {a b : List Int} (p : a.Perm b) (h : OkP b) : OkP a := ⟨fun x hx => h.1 x (p.mem_iff.mp hx), p.nodup_iff.mpr h.2⟩
theorem advA_perm {zs : List Int} {rs : List Ro} (t c : Int) {L : Lay Int} (hf : Fits rs.length zs L) : (join (advA 0 zs rs t c L)).Perm (join L) := by
  rw [join_advA]
  exact moveA_mem (effT_eff ..) (by rw [join_len hf, effT_len])
theorem advA_ok {zs : List Int} {rs : List Ro} {t c : Int} {L : Lay Int} (o : StOk zs rs t L) (h : TimeOk (t + c)) : StOk zs rs (t + c) (advA 0 zs rs t c L) :=
  ⟨h, advA_fits .., okP_perm (advA_perm t c o.f) o.p⟩
theorem placesV_len (zs : List Int) (n : Nat) (h : ∀ z ∈ zs, 0 ≤ z) : (placesV zs n).length = n + sumN zs := by
  unfold placesV
  rw [List.length_append, carV_len]
  congr 1
  have : ∀ k, k ≤ zs.length → (shN zs k).length = sumN (zs.take k) := by
    intro k
    induction k with
    | zero => intro _; rfl
    | succ k ih =>
      intro hk
      unfold shN
      rw [List.length_append, ih (by omega), posV_len]
      have g : zs[k]? = some zs[k] := List.getElem?_eq_getElem (by omega)
      rw [List.take_add_one, g, List.getD_eq_getElem?_getD, g]
      show sumN (zs.take k) + zs[k].toNat = sumN (zs.take k ++ [zs[k]])
      rw [sumN_snoc]
  have := this zs.length (Nat.le_refl _)
  rw [List.take_length] at this
  exact this
end Sv
set_option maxHeartbeats 4000000
namespace Sv
open PySem PySem.Spec PyProof.Rows L2
/-- another list of ours is changed -/
theorem W3.upd {H : Hp} {wa hc hs f : Addr} {rw : List Addr} {t : Int} {L : Lay Int} {o : HO} (x : W3 H wa hc hs rw t L) (h1 : f ∉ foot wa hc rw) (h2 : f ≠ hs) : W3 (L2.upd H f o) wa hc hs rw t L := by
  have n1 : wa ≠ f := fun z => h1 (by rw [← z]; exact List.mem_cons_self ..)
  have n2 : hc ≠ f := fun z => h1 (by rw [← z]; exact List.mem_cons_of_mem _ (List.mem_cons_self ..))
  have n3 : ∀ q ∈ rw, q ≠ f := fun q hq z => h1 (by rw [← z]; exact List.mem_cons_of_mem _ (List.mem_cons_of_mem _ hq))
  exact ⟨by rw [upd_ne n1]; exact x.w, by rw [upd_ne n2]; exact x.c, by rw [upd_ne (Ne.symm h2)]; exact x.s, rowL_imp (fun q hq o ho => by rw [upd_ne (n3 q hq)]; exact ho) x.r, x.nd, x.hcr, x.hsr, x.hcs⟩
theorem W3.new {H : Hp} {wa hc hs f : Addr} {rw : List Addr} {t : Int} {L : Lay Int} (x : W3 H wa hc hs rw t L) (h : H f = none) : f ∉ foot wa hc rw ∧ f ≠ hs := by
  refine ⟨fun m => ?_, fun z => by rw [z, x.s] at h; cases h⟩
  rcases List.mem_cons.mp m with z | m
  · rw [z, x.w] at h
    cases h
  rcases List.mem_cons.mp m with z | m
  · rw [z, x.c] at h
    cases h
  · exact rowL_free x.r h m
theorem okD_l {n : Nat} {ds : List PyData} (h : ds.length ≤ 1000) (o : okDs n ds = true) : okD (n + 1) (.list ds) = true := by
  unfold okD
  rw [o, decide_eq_true h]
  rfl
theorem okD_t {n : Nat} {ds : List PyData} (h : ds.length ≤ 1000) (o : okDs n ds = true) : okD (n + 1) (.tuple ds) = true := by
  unfold okD
  rw [o, decide_eq_true h]
  rfl
def vD : V → PyData
  | .int i => .int i
  | .str x => .str x
  | .bl b => .bool b
  | _ => .none
def flI : V → Bool
  | .int _ => true
  | .str _ => true
  | _ => false
theorem dpAll_fl {K : PySem.W.Frag} {H : Hp} : ∀ {pl : List V}, (∀ v ∈ pl, flI v = true) → DpAll K H pl (pl.map vD)
  | [], _ => .nil
  | v :: pl, h => by
    have h1 := h v (List.mem_cons_self ..)
    have h2 := dpAll_fl (K := K) (H := H) fun x hx => h x (List.mem_cons_of_mem v hx)
    cases v with
    | int i => exact .cons (.int i) h2
    | str x => exact .cons (.str x) h2
    | _ => cases h1
theorem okDs_fl {n : Nat} : ∀ {pl : List V}, okDs n (pl.map vD) = true
  | [] => by unfold okDs; rfl
  | v :: pl => by
    rw [List.map_cons]
    unfold okDs
    rw [okDs_fl, Bool.and_true]
    cases v <;> cases n <;> rfl
end Sv
set_option maxHeartbeats 4000000
namespace Sv
open PySem PySem.Spec PyProof.Rows L2
mutual
/-- no bools, no dicts; texts that can lie anywhere -/
def pld : PyData → Bool
  | .none => true
  | .int _ => true
  | .str x => PyData.canLay0 (.str x)
  | .list xs => pldAll xs
  | .tuple xs => pldAll xs
  | _ => false
def pldAll : List PyData → Bool
  | [] => true
  | d :: ds => pld d && pldAll ds
end
mutual
theorem eqv_pld : ∀ a b : PyData, pld a = true → pld b = true → (PyData.eqv a b = true ↔ a = b)
  | .none, .none, _, _ => by simp [PyData.eqv]
  | .none, .int _, _, _ => by simp [PyData.eqv]
  | .none, .str _, _, _ => by simp [PyData.eqv]
  | .none, .list _, _, _ => by simp [PyData.eqv]
  | .none, .tuple _, _, _ => by simp [PyData.eqv]
  | .int i, .none, _, _ => by simp [PyData.eqv]
  | .int i, .int j, _, _ => by simp [PyData.eqv]
  | .int i, .str _, _, _ => by simp [PyData.eqv]
  | .int i, .list _, _, _ => by simp [PyData.eqv]
  | .int i, .tuple _, _, _ => by simp [PyData.eqv]
  | .str x, .none, _, _ => by simp [PyData.eqv]
  | .str x, .int _, _, _ => by simp [PyData.eqv]
  | .str x, .str y, _, _ => by simp [PyData.eqv]
  | .str x, .list _, _, _ => by simp [PyData.eqv]
  | .str x, .tuple _, _, _ => by simp [PyData.eqv]
  | .list x, .none, _, _ => by simp [PyData.eqv]
  | .list x, .int _, _, _ => by simp [PyData.eqv]
  | .list x, .str _, _, _ => by simp [PyData.eqv]
  | .list x, .tuple _, _, _ => by simp [PyData.eqv]
  | .list x, .list y, h1, h2 => by
    unfold pld at h1 h2
    rw [PyData.eqv, eqv_pldAll x y h1 h2]
    exact ⟨fun e => by rw [e], fun e => by injection e⟩
  | .tuple x, .none, _, _ => by simp [PyData.eqv]
  | .tuple x, .int _, _, _ => by simp [PyData.eqv]
  | .tuple x, .str _, _, _ => by simp [PyData.eqv]
  | .tuple x, .list _, _, _ => by simp [PyData.eqv]
  | .tuple x, .tuple y, h1, h2 => by
    unfold pld at h1 h2
    rw [PyData.eqv, eqv_pldAll x y h1 h2]
    exact ⟨fun e => by rw [e], fun e => by injection e⟩
  | .bool _, _, h, _ => by simp [pld] at h
  | .dict _, _, h, _ => by simp [pld] at h
  | .none, .bool _, _, h => by simp [pld] at h
  | .none, .dict _, _, h => by simp [pld] at h
  | .int _, .bool _, _, h => by simp [pld] at h
  | .int _, .dict _, _, h => by simp [pld] at h
  | .str _, .bool _, _, h => by simp [pld] at h
  | .str _, .dict _, _, h => by simp [pld] at h
  | .list _, .bool _, _, h => by simp [pld] at h
  | .list _, .dict _, _, h => by simp [pld] at h
  | .tuple _, .bool _, _, h => by simp [pld] at h
  | .tuple _, .dict _, _, h => by simp [pld] at h
theorem eqv_pldAll : ∀ a b : List PyData, pldAll a = true → pldAll b = true → (PyData.eqvAll a b = true ↔ a = b)
  | [], [], _, _ => by simp [PyData.eqvAll]
  | [], _ :: _, _, _ => by simp [PyData.eqvAll]
  | _ :: _, [], _, _ => by simp [PyData.eqvAll]
  | x :: a, y :: b, h1, h2 => by
    unfold pldAll at h1 h2
    rw [Bool.and_eq_true] at h1 h2
    rw [PyData.eqvAll, Bool.and_eq_true, eqv_pld x y h1.1 h2.1, eqv_pldAll a b h1.2 h2.2, List.cons.injEq]
end
mutual
theorem can_pld : ∀ a : PyData, pld a = true → PyData.canLay0 a = true
  | .none, _ => by simp [PyData.canLay0]
  | .int _, _ => by simp [PyData.canLay0]
  | .str x, h => by unfold pld at h; exact h
  | .list x, h => by
    unfold pld at h
    rw [PyData.canLay0]
    exact can_pldAll x h
  | .tuple x, h => by
    unfold pld at h
    rw [PyData.canLay0]
    exact can_pldAll x h
  | .bool _, h => by simp [pld] at h
  | .dict _, h => by simp [pld] at h
theorem can_pldAll : ∀ a : List PyData, pldAll a = true → PyData.canLayAll0 a = true
  | [], _ => by simp [PyData.canLayAll0]
  | x :: a, h => by
    unfold pldAll at h
    rw [Bool.and_eq_true] at h
    rw [PyData.canLayAll0, can_pld x h.1, can_pldAll a h.2]
    rfl
end
mutual
theorem dep_okD : ∀ (n : Nat) (a : PyData), okD n a = true → PyData.depth a ≤ n
  | _, .none, _ => by simp [PyData.depth]
  | _, .int _, _ => by simp [PyData.depth]
  | _, .str _, _ => by simp [PyData.depth]
  | _, .bool _, _ => by simp [PyData.depth]
  | 0, .list _, h => by simp [okD] at h
  | 0, .tuple _, h => by simp [okD] at h
  | n + 1, .list x, h => by
    unfold okD at h
    rw [Bool.and_eq_true] at h
    rw [PyData.depth]
    have := dep_okDs n x h.2
    omega
  | n + 1, .tuple x, h => by
    unfold okD at h
    rw [Bool.and_eq_true] at h
    rw [PyData.depth]
    have := dep_okDs n x h.2
    omega
  | 0, .dict _, h => by simp [okD] at h
  | n + 1, .dict _, h => by simp [okD] at h
theorem dep_okDs : ∀ (n : Nat) (a : List PyData), okDs n a = true → PyData.depthAll a ≤ n
  | _, [], _ => by simp [PyData.depthAll]
  | n, x :: a, h => by
    unfold okDs at h
    rw [Bool.and_eq_true] at h
    rw [PyData.depthAll]
    have h1 := dep_okD n x h.1
    have h2 := dep_okDs n a h.2
    omega
end
theorem shaped_of {a : PyData} {n : Nat} (h : pld a = true) (o : okD n a = true) (hn : n ≤ 64) : SeqAt.shaped a = true := by
  unfold SeqAt.shaped
  rw [can_pld a h, decide_eq_true (Nat.le_trans (dep_okD n a o) hn)]
  rfl
open Classical in
theorem ne_go {K : PySem.W.Frag} {H : Hp} {x y : V} {a b : PyData} {Q : VK} {n m : Nat} (h1 : Dp K H x a) (h2 : Dp K H y b) (p1 : pld a = true) (p2 : pld b = true) (o1 : okD n a = true) (o2 : okD m b = true) (hn : n ≤ 64) (hm : m ≤ 64) (q : Q (.bl (!decide (a = b))) H) : qNe K x y H Q := by
  unfold qNe
  refine ⟨a, b, h1, h2, shaped_of p1 o1 hn, shaped_of p2 o2 hm, ?_⟩
  have e : PyData.eqv a b = decide (a = b) := by
    rw [Bool.eq_iff_iff, eqv_pld a b p1 p2, decide_eq_true_iff]
  rw [e]
  exact q
section
open Classical
variable {K : PySem.W.Frag} {H : Hp} {x y : V} {a b : PyData} {Q : VK} {n m : Nat}
theorem ne_same (h1 : Dp K H x a) (h2 : Dp K H y a) (p : pld a = true) (o : okD n a = true) (hn : n ≤ 64) (q : Q (.bl false) H) : qNe K x y H Q :=
  ne_go h1 h2 p p o o hn hn (by rw [decide_eq_true rfl]; exact q)
theorem ne_diff (h1 : Dp K H x a) (h2 : Dp K H y b) (p1 : pld a = true) (p2 : pld b = true) (o1 : okD n a = true) (o2 : okD m b = true) (hn : n ≤ 64) (hm : m ≤ 64) (d : a ≠ b) (q : Q (.bl true) H) : qNe K x y H Q :=
  ne_go h1 h2 p1 p2 o1 o2 hn hm (by rw [decide_eq_false d]; exact q)
end
theorem pldAll_int : ∀ l : List Int, pldAll (l.map PyData.int) = true
  | [] => by unfold pldAll; rfl
  | i :: l => by
    rw [List.map_cons]
    unfold pldAll
    rw [pldAll_int l, Bool.and_true]
    unfold pld
    rfl
theorem pld_ti (l : List Int) : pld (dTi l) = true := by
  unfold dTi pld
  exact pldAll_int l
theorem can_car : PyData.canLay0 (.str ("carrier" : Str)) = true := by decide +kernel
theorem can_she : PyData.canLay0 (.str ("shelf" : Str)) = true := by decide +kernel
/-- the places, told apart -/
inductive IsPl : List V → Prop
  | car (c : Nat) : IsPl [V.str "carrier", V.int (c : Nat)]
  | pos (s p : Nat) : IsPl [V.str "shelf", V.int (s : Nat), V.int (p : Nat)]
theorem placesV_is {zs : List Int} {n : Nat} : ∀ pl ∈ placesV zs n, IsPl pl := by
  intro pl h
  unfold placesV at h
  rcases List.mem_append.mp h with h | h
  · unfold carV at h
    obtain ⟨c, _, rfl⟩ := List.mem_map.mp h
    exact .car c
  · have key : ∀ k, ∀ pl ∈ shN zs k, IsPl pl := by
      intro k
      induction k with
      | zero => intro pl h; cases h
      | succ k ih =>
        intro pl h
        unfold shN at h
        rcases List.mem_append.mp h with h | h
        · exact ih pl h
        · unfold posV at h
          obtain ⟨c, _, rfl⟩ := List.mem_map.mp h
          exact .pos k c
    exact key _ pl h
theorem shN_lt {zs : List Int} : ∀ k, ∀ pl ∈ shN zs k, ∃ s p : Nat, s < k ∧ pl = [V.str "shelf", V.int (s : Nat), V.int (p : Nat)]
  | 0, pl, h => by cases h
  | k + 1, pl, h => by
    unfold shN at h
    rcases List.mem_append.mp h with h | h
    · obtain ⟨s, p, hs, e⟩ := shN_lt k pl h
      exact ⟨s, p, by omega, e⟩
    · unfold posV at h
      obtain ⟨c, _, rfl⟩ := List.mem_map.mp h
      exact ⟨k, c, by omega, rfl⟩
theorem V_int_nat {a b : Nat} (h : V.int (a : Int) = V.int (b : Int)) : a = b := by
  have := V.int.inj h
  omega
theorem shN_nodup {zs : List Int} : ∀ k, (shN zs k).Nodup
  | 0 => List.nodup_nil
  | k + 1 => by
    unfold shN
    refine List.nodup_append.mpr ⟨shN_nodup k, ?_, fun a ha b hb e => ?_⟩
    · unfold posV
      refine List.pairwise_map.mpr (List.nodup_range.imp fun {a b} h e => h ?_)
      simp only [List.cons.injEq, and_true, true_and] at e
      exact V_int_nat e
    · obtain ⟨s, p, hs, ea⟩ := shN_lt k a ha
      unfold posV at hb
      obtain ⟨c, _, rfl⟩ := List.mem_map.mp hb
      rw [ea] at e
      simp only [List.cons.injEq, and_true, true_and] at e
      have := V_int_nat e.1
      omega
theorem placesV_nodup (zs : List Int) (n : Nat) : (placesV zs n).Nodup := by
  unfold placesV
  refine List.nodup_append.mpr ⟨?_, shN_nodup _, fun a ha b hb e => ?_⟩
  · unfold carV
    refine List.pairwise_map.mpr (List.nodup_range.imp fun {a b} h e => h ?_)
    simp only [List.cons.injEq, and_true, true_and] at e
    exact V_int_nat e
  · unfold carV at ha
    obtain ⟨c, _, rfl⟩ := List.mem_map.mp ha
    obtain ⟨s, p, _, eb⟩ := shN_lt _ b hb
    rw [eb] at e
    simp at e
theorem places_ix {zs : List Int} {n i j : Nat} {pl : List V} (h1 : (placesV zs n)[i]? = some pl) (h2 : (placesV zs n)[j]? = some pl) : i = j := by
  obtain ⟨a, e1⟩ := List.getElem?_eq_some_iff.mp h1
  obtain ⟨b, e2⟩ := List.getElem?_eq_some_iff.mp h2
  exact (List.getElem_inj (placesV_nodup zs n)).mp (e1.trans e2.symm)
end Sv
set_option maxHeartbeats 4000000
set_option maxHeartbeats 4000000
namespace Sv
open PySem PySem.Spec PyProof.Rows L2
section
variable {P : Program} {w : World} {K : PySem.W.Frag} {mg : Str → Option Value} {base : Heap}
theorem room65 {A : Around} {k : Nat} (hr : Room k A) : A.units + 65 < cLine := by
  have := hr.un
  omega
theorem flat_ints (ns : List Int) : (ns.map V.int).all flatV = true := by
  rw [List.all_map]
  exact List.all_eq_true.mpr fun _ _ => rfl
theorem eqV_int (a b : Int) : eqV (.int a) (.int b) = decide (a = b) := by
  show (a == b) = _
  by_cases h : a = b <;> simp [h]
theorem inV_ints (x : Int) (ns : List Int) : inV (.int x) (ns.map V.int) = decide (x ∈ ns) := by
  unfold inV
  rw [List.any_map]
  by_cases h : x ∈ ns
  · rw [decide_eq_true h]
    exact List.any_eq_true.mpr ⟨x, h, by show eqV (.int x) (.int x) = true; rw [eqV_int]; simp⟩
  · rw [decide_eq_false h]
    refine List.any_eq_false.mpr fun y hy => ?_
    show ¬ eqV (.int y) (.int x) = true
    rw [eqV_int]
    simp only [decide_eq_true_eq]
    exact fun e => h (by rw [← e]; exact hy)
theorem scTruths : FnScope ["place", "part"] ["place"] (defScope sTruths) := ⟨rfl, rfl, rfl, by decide +kernel, rfl, by decide +kernel, by decide +kernel⟩
theorem scIsPlace : FnScope ["found", "place"] ["found", "place"] (defScope sIsPlace) := ⟨rfl, rfl, rfl, by decide +kernel, rfl, by decide +kernel, by decide +kernel⟩
def spTruths (K : PySem.W.Frag) : Sp := fun vs H Q _ => ∃ (u : Addr) (pl : List V), vs = [.ref u] ∧ SqT K H u pl ∧ (∀ v ∈ pl, flI v = true) ∧ Q (.bl false) H
theorem ok_truths (T : Bd P K mg) : FnOk P w K mg base CX0 1 T.aTruths T.dTruths ["place"] (spTruths K) := by
  refine T.Truths.F.ok scTruths (fun vs H Q E h => ?_) (fun cdv A outer s H vs Q E hr h => ?_)
  · obtain ⟨u, pl, rfl, _⟩ := h
    rfl
  · obtain ⟨u, pl, rfl, hS, hf, q⟩ := h
    refine ⟨_, (pss_cons (ps_for PassesOwn.never rfl (pi_tup (pv 0)) (pg_name (i := 1) scTruths.nd rfl (Or.inl rfl)) (pss_one (ps_if (pt_val (pe_callB call_isi (by rfl) T.bt.isinstance b_isinstance (pa_cons (pv 1) (pa_cons (pe_ty (by rfl) T.bt.bool b_bool) pa_nil)))) (pss_one (ps_ret pe_bl)) pss_nil)))
      (pss_one (ps_ret pe_bl))), ?_⟩
    refine ⟨.ref u, rfl, u, rfl, ⟨_, hS⟩, for_tup (xs := pl) (fun i σ H' => (∃ y, σ = [some (.ref u), y]) ∧ H' = H) ⟨⟨_, rfl⟩, rfl⟩ (fun i σ H' _ h => by rw [h.2]; exact hS) (fun i v σ H' hv ⟨⟨y, es⟩, eH⟩ => ?_) (fun σ H' ⟨⟨y, es⟩, eH⟩ => by rw [eH]; exact q)⟩
    subst es
    subst eH
    have h1 := hf v (List.mem_of_getElem? hv)
    cases v with
    | int n => exact ⟨.int n, rfl, .int n, .ty "bool", _, _, false, rfl, .ty "bool", .base (.int n), kit_ty (by decide +kernel), false, rfl, iteF ⟨⟨_, rfl⟩, rfl⟩⟩
    | str n => exact ⟨.str n, rfl, .str n, .ty "bool", _, _, false, rfl, .ty "bool", .base (.str n), kit_ty (by decide +kernel), false, rfl, iteF ⟨⟨_, rfl⟩, rfl⟩⟩
    | _ => cases h1
def dPl (pl : List V) : PyData := .tuple (pl.map vD)
theorem dpAll_tups {H : Hp} : ∀ {ps : List Addr} {ts : List (List V)}, (∀ t ∈ ts, ∀ v ∈ t, flI v = true) → TupsV H ps ts → DpAll K H (ps.map V.ref) (ts.map dPl)
  | _, _, _, .nil => .nil
  | _, _, f, .cons h t => .cons (.tup (.inl (.inl h)) (dpAll_fl (f _ (List.mem_cons_self ..)))) (dpAll_tups (fun x hx => f x (List.mem_cons_of_mem _ hx)) t)
/-- a flat tuple of numbers and texts, as a caller may pass for a place -/
structure FlP (pl : List V) : Prop where
  f : ∀ v ∈ pl, flI v = true
  d : ∀ v ∈ pl, pld (vD v) = true
  l : pl.length ≤ 8
theorem isPl_flP {pl : List V} (h : IsPl pl) : FlP pl := by
  cases h with
  | car c => exact ⟨by simp [flI], by intro v hv; simp only [List.mem_cons, List.not_mem_nil, or_false] at hv; rcases hv with rfl | rfl; exact can_car; rfl, by show 2 ≤ 8; decide⟩
  | pos s p => exact ⟨by simp [flI], by intro v hv; simp only [List.mem_cons, List.not_mem_nil, or_false] at hv; rcases hv with rfl | rfl | rfl; exact can_she; rfl; rfl, by show 3 ≤ 8; decide⟩
theorem pldAll_flP : ∀ {pl : List V}, (∀ v ∈ pl, pld (vD v) = true) → pldAll (pl.map vD) = true
  | [], _ => by unfold pldAll; rfl
  | v :: pl, h => by
    rw [List.map_cons]
    unfold pldAll
    rw [pldAll_flP fun x hx => h x (List.mem_cons_of_mem _ hx), Bool.and_true]
    exact h v (List.mem_cons_self ..)
theorem FlP.pld {pl : List V} (h : FlP pl) : pld (dPl pl) = true := by
  unfold dPl Sv.pld
  exact pldAll_flP h.d
theorem vD_inj : ∀ {a b : List V}, (∀ v ∈ a, flI v = true) → (∀ v ∈ b, flI v = true) → a.map vD = b.map vD → a = b
  | [], [], _, _, _ => rfl
  | [], _ :: _, _, _, h => by simp at h
  | _ :: _, [], _, _, h => by simp at h
  | x :: a, y :: b, h1, h2, h => by
    rw [List.map_cons, List.map_cons] at h
    injection h with e1 e2
    have f1 := h1 x (List.mem_cons_self ..)
    have f2 := h2 y (List.mem_cons_self ..)
    have e3 := vD_inj (fun v hv => h1 v (List.mem_cons_of_mem _ hv)) (fun v hv => h2 v (List.mem_cons_of_mem _ hv)) e2
    rw [e3]
    cases x <;> cases y <;> simp_all [flI, vD]
theorem FlP.inj {a b : List V} (ha : FlP a) (hb : FlP b) (h : dPl a = dPl b) : a = b := by
  unfold dPl at h
  injection h with h
  exact vD_inj ha.f hb.f h
theorem FlP.eqv {a b : List V} (ha : FlP a) (hb : FlP b) : PyData.eqv (dPl a) (dPl b) = true ↔ a = b :=
  (eqv_pld _ _ ha.pld hb.pld).trans ⟨ha.inj hb, fun e => by rw [e]⟩
theorem FlP.okd {pl : List V} (h : FlP pl) (m : Nat) : okD (m + 1) (dPl pl) = true := okD_t (by rw [List.length_map]; have := h.l; omega) okDs_fl
theorem FlP.sh {pl : List V} (h : FlP pl) : SeqAt.shaped (dPl pl) = true := shaped_of (n := 1) h.pld (h.okd 0) (by decide)
theorem pldAll_flPs : ∀ {ts : List (List V)}, (∀ t ∈ ts, FlP t) → pldAll (ts.map dPl) = true
  | [], _ => by unfold pldAll; rfl
  | t :: ts, h => by
    rw [List.map_cons]
    unfold pldAll
    rw [pldAll_flPs fun x hx => h x (List.mem_cons_of_mem _ hx), Bool.and_true]
    exact (h t (List.mem_cons_self ..)).pld
theorem okDs_flPs : ∀ {ts : List (List V)}, (∀ t ∈ ts, FlP t) → okDs 1 (ts.map dPl) = true
  | [], _ => by unfold okDs; rfl
  | t :: ts, h => by
    rw [List.map_cons]
    unfold okDs
    rw [okDs_flPs fun x hx => h x (List.mem_cons_of_mem _ hx), Bool.and_true]
    exact (h t (List.mem_cons_self ..)).okd 0
theorem flPs_sh {ts : List (List V)} (h : ∀ t ∈ ts, FlP t) (hl : ts.length ≤ 1000) : SeqAt.shaped (.list (ts.map dPl)) = true := shaped_of (n := 2) (by unfold pld; exact pldAll_flPs h) (okD_l (by rw [List.length_map]; omega) (okDs_flPs h)) (by decide)
theorem flPs_any {ts : List (List V)} (h : ∀ t ∈ ts, FlP t) {pl : List V} (hp : FlP pl) : ((ts.map dPl).any fun z => PyData.eqv z (dPl pl)) = decide (pl ∈ ts) := by
  rw [List.any_map]
  by_cases hm : pl ∈ ts
  · rw [decide_eq_true hm]
    exact List.any_eq_true.mpr ⟨pl, hm, (FlP.eqv hp hp).mpr rfl⟩
  · rw [decide_eq_false hm]
    refine List.any_eq_false.mpr fun y hy => ?_
    show ¬ PyData.eqv (dPl y) (dPl pl) = true
    rw [FlP.eqv (h y hy) hp]
    exact fun e => hm (by rw [← e]; exact hy)
theorem placesV_flP {zs : List Int} {n : Nat} : ∀ t ∈ placesV zs n, FlP t := fun t ht => isPl_flP (placesV_is t ht)
/-- a list of places -/
def PlsAt (H : Hp) (f : Addr) (ts : List (List V)) : Prop := ∃ ps : List Addr, H f = some (.lst (ps.map V.ref)) ∧ TupsV H ps ts
theorem PlsAt.same {H H' : Hp} {f : Addr} {ts : List (List V)} (h : PlsAt H f ts) (e : Same H H') : PlsAt H' f ts := by
  obtain ⟨ps, h1, h2⟩ := h
  exact ⟨ps, e _ _ h1, tupsV_same e h2⟩
def spIsPlace (K : PySem.W.Frag) : Sp := fun vs H Q _ => ∃ (f u : Addr) (ts : List (List V)) (pl : List V), vs = [.ref f, .ref u] ∧ PlsAt H f ts ∧ (∀ t ∈ ts, FlP t) ∧ ts.length ≤ 1000 ∧ SqT K H u pl ∧ FlP pl ∧ Q (.bl (decide (pl ∈ ts))) H
theorem ok_isPlace (T : Bd P K mg) : FnOk P w K mg base CX0 2 T.aIsPlace T.dIsPlace ["found", "place"] (spIsPlace K) := by
  have GT : FnOk P w K mg base CX0 1 T.aTruths T.dTruths ["place"] (spTruths K) := ok_truths T
  refine T.IsPlace.F.ok scIsPlace (fun vs H Q E h => ?_) (fun cdv A outer s H vs Q E hr h => ?_)
  · obtain ⟨f, u, ts, pl, rfl, _⟩ := h
    rfl
  · obtain ⟨f, u, ts, pl, rfl, ⟨ps, kf, tv⟩, hts, htl, hu, hpl, q⟩ := h
    refine ⟨_, pss_one (ps_ret (pe_and (pe_cmpR (op_inD (room65 hr)) (pv 1) (pv 0) (by rfl)) (pe_one (pe_not (pe_call (E := E0) GT hr (by rfl) T.Truths.g T.Truths.F.kp T.Truths.b .nil pass0 (pa_cons (pv 1) pa_nil)))))), ?_⟩
    have D1 : Dp K H (.ref u) (dPl pl) := .tup hu (dpAll_fl hpl.f)
    have D2 : Dp K H (.ref f) (.list (ts.map dPl)) := .lst (.inl (.inl kf)) (dpAll_tups (fun t ht => (hts t ht).f) tv)
    refine ⟨.ref u, rfl, .ref f, rfl, dPl pl, _, D1, D2, hpl.sh, flPs_sh hts htl, ?_⟩
    rw [flPs_any hts hpl]
    by_cases hm : pl ∈ ts
    · rw [decide_eq_true hm] at q ⊢
      refine ⟨_, rfl, iteT ⟨.ref u, rfl, u, pl, rfl, hu, hpl.f, _, rfl, q⟩⟩
    · rw [decide_eq_false hm] at q ⊢
      exact ⟨_, rfl, iteF q⟩
end
end Sv
set_option maxHeartbeats 1000000
namespace Sv
/-- f so many times -/
def itF (f : Nat → Nat) : Nat → Nat → Nat
  | 0, x => x
  | k + 1, x => f (itF f k x)
theorem itF_add (f : Nat → Nat) (a : Nat) : ∀ b x, itF f (a + b) x = itF f a (itF f b x) := by
  induction a with
  | zero => intro b x; rw [Nat.zero_add]; rfl
  | succ a ih =>
    intro b x
    rw [show a + 1 + b = (a + b) + 1 by omega]
    show f (itF f (a + b) x) = f (itF f a (itF f b x))
    rw [ih]
theorem itF_succ (f : Nat → Nat) (k x : Nat) : itF f (k + 1) x = itF f k (f x) := itF_add f k 1 x
def Orb (f : Nat → Nat) (p q : Nat) : Prop := ∃ k, itF f k p = q
theorem Orb.refl (f : Nat → Nat) (p : Nat) : Orb f p p := ⟨0, rfl⟩
theorem Orb.step (f : Nat → Nat) (p : Nat) : Orb f p (f p) := ⟨1, rfl⟩
theorem Orb.trans {f : Nat → Nat} {p q r : Nat} : Orb f p q → Orb f q r → Orb f p r
  | ⟨a, ha⟩, ⟨b, hb⟩ => ⟨b + a, by rw [itF_add, ha, hb]⟩
/-- one to one below n -/
structure Pm (n : Nat) (f : Nat → Nat) : Prop where
  lt : ∀ p, p < n → f p < n
  inj : ∀ p q, p < n → q < n → f p = f q → p = q
theorem itF_lt {n : Nat} {f : Nat → Nat} (h : Pm n f) : ∀ (k : Nat) {p : Nat}, p < n → itF f k p < n
  | 0, _, hp => hp
  | k + 1, _, hp => h.lt _ (itF_lt h k hp)
theorem itF_inj {n : Nat} {f : Nat → Nat} (h : Pm n f) : ∀ (k : Nat) {p q : Nat}, p < n → q < n → itF f k p = itF f k q → p = q
  | 0, _, _, _, _, e => e
  | k + 1, _, _, hp, hq, e => itF_inj h k hp hq (h.inj _ _ (itF_lt h k hp) (itF_lt h k hq) e)
theorem itF_back {n : Nat} {f : Nat → Nat} (h : Pm n f) {p : Nat} (hp : p < n) : ∃ k, 1 ≤ k ∧ itF f k p = p := by
  refine Classical.byContradiction fun hn => ?_
  have nd : ((List.range (n + 1)).map fun k => itF f k p).Nodup := map_nodup fun i j hij _ e => hn ⟨j - i, by omega, by
    have : itF f j p = itF f i (itF f (j - i) p) := by rw [← itF_add]; congr 1; omega
    rw [this] at e
    exact (itF_inj h i (itF_lt h _ hp) hp e.symm)⟩
  have := below_len (n := n) nd fun x hx => by
    obtain ⟨k, _, rfl⟩ := List.mem_map.mp hx
    exact itF_lt h k hp
  rw [List.length_map, List.length_range] at this
  omega
theorem itF_mul {f : Nat → Nat} {k p : Nat} (h : itF f k p = p) : ∀ m, itF f (m * k) p = p
  | 0 => by rw [Nat.zero_mul]; rfl
  | m + 1 => by rw [Nat.succ_mul, itF_add, h, itF_mul h m]
theorem Orb.symm {n : Nat} {f : Nat → Nat} (h : Pm n f) {p q : Nat} (hp : p < n) : Orb f p q → Orb f q p := by
  rintro ⟨k, rfl⟩
  obtain ⟨m, hm, e⟩ := itF_back h hp
  refine ⟨k * m - k, ?_⟩
  have hk : k ≤ k * m := Nat.le_mul_of_pos_right k (by omega)
  rw [← itF_add, show k * m - k + k = k * m by omega]
  exact itF_mul e k
section
open Classical
noncomputable def cn (n : Nat) (A : Nat → Prop) : Nat := ((List.range n).filter fun p => decide (A p)).length
theorem cn_succ (n : Nat) (A : Nat → Prop) : cn (n + 1) A = cn n A + if A n then 1 else 0 := by
  unfold cn
  rw [List.range_succ, List.filter_append, List.length_append]
  congr 1
  by_cases h : A n <;> simp [h]
/-- not more representatives on one side than on the other -/
theorem cn_le {n : Nat} {A B : Nat → Prop} {R S : Nat → Nat → Prop} (φ : Nat → Nat) (hφ : ∀ p, p < n → φ p < n) (hA : ∀ p q, p < n → q < n → A p → A q → R p q → p = q) (hB : ∀ q, q < n → ∃ b, b < n ∧ B b ∧ S q b)
    (hS : ∀ p q b, p < n → q < n → S (φ p) b → S (φ q) b → R p q) : cn n A ≤ cn n B := by
  unfold cn
  have hc : ∀ p : Nat, ∃ b, p < n → b < n ∧ B b ∧ S (φ p) b := fun p => by
    by_cases hp : p < n
    · obtain ⟨b, h⟩ := hB (φ p) (hφ p hp)
      exact ⟨b, fun _ => h⟩
    · exact ⟨0, fun h => absurd h hp⟩
  have hc2 : ∃ c : Nat → Nat, ∀ p, p < n → c p < n ∧ B (c p) ∧ S (φ p) (c p) := ⟨fun p => choose (hc p), fun p hp => choose_spec (hc p) hp⟩
  obtain ⟨c, hc3⟩ := hc2
  have hmem : ∀ p, p ∈ ((List.range n).filter fun p => decide (A p)) → p < n ∧ A p := fun p hp => by
    have := List.mem_filter.mp hp
    exact ⟨List.mem_range.mp this.1, of_decide_eq_true this.2⟩
  have nd : (((List.range n).filter fun p => decide (A p)).map c).Nodup := by
    have n0 : ((List.range n).filter fun p => decide (A p)).Nodup := List.nodup_range.filter _
    refine List.pairwise_map.mpr ?_
    refine List.Pairwise.imp_of_mem ?_ n0
    intro p q hp hq hne e
    obtain ⟨p1, p2⟩ := hmem p hp
    obtain ⟨q1, q2⟩ := hmem q hq
    have a := (hc3 p p1).2.2
    have b := (hc3 q q1).2.2
    rw [e] at a
    exact hne (hA p q p1 q1 p2 q2 (hS p q _ p1 q1 a b))
  have := nat_sub_len nd (m := (List.range n).filter fun p => decide (B p)) fun x hx => by
    obtain ⟨p, hp, rfl⟩ := List.mem_map.mp hx
    obtain ⟨p1, _⟩ := hmem p hp
    exact List.mem_filter.mpr ⟨List.mem_range.mpr (hc3 p p1).1, decide_eq_true (hc3 p p1).2.1⟩
  rw [List.length_map] at this
  exact this
end
/-- the least of its orbit, the greatest of its orbit -/
def mnP (f : Nat → Nat) (p : Nat) : Prop := ∀ q, Orb f p q → p ≤ q
def mxP (f : Nat → Nat) (p : Nat) : Prop := ∀ q, Orb f p q → q ≤ p
theorem mn_ex {n : Nat} {f : Nat → Nat} (h : Pm n f) {p : Nat} (hp : p < n) : ∃ b, b < n ∧ mnP f b ∧ Orb f p b := by
  obtain ⟨b, hb, hl⟩ := least (P := fun b => Orb f p b) ⟨p, Orb.refl f p⟩
  refine ⟨b, ?_, fun q hq => ?_, hb⟩
  · obtain ⟨k, rfl⟩ := hb
    exact itF_lt h k hp
  · exact Nat.le_of_not_lt fun hlt => hl q hlt (hb.trans hq)
theorem mx_ex {n : Nat} {f : Nat → Nat} (h : Pm n f) {p : Nat} (hp : p < n) : ∃ b, b < n ∧ mxP f b ∧ Orb f p b := by
  obtain ⟨d, ⟨b, hb, hlt, hd⟩, hl⟩ := least (P := fun d => ∃ b, Orb f p b ∧ b < n ∧ d = n - b) ⟨n - p, p, Orb.refl f p, hp, rfl⟩
  refine ⟨b, hlt, fun q hq => ?_, hb⟩
  refine Nat.le_of_not_lt fun hbq => ?_
  have hqn : q < n := by
    obtain ⟨k, rfl⟩ := hq
    exact itF_lt h k hlt
  exact hl (n - q) (by omega) ⟨q, hb.trans hq, hqn, rfl⟩
theorem mn_one {n : Nat} {f : Nat → Nat} (h : Pm n f) {p q : Nat} (hp : p < n) (a : mnP f p) (b : mnP f q) (o : Orb f p q) : p = q := by
  have h1 := a q o
  have h2 := b p (o.symm h hp)
  omega
theorem mx_one {n : Nat} {f : Nat → Nat} (h : Pm n f) {p q : Nat} (hp : p < n) (a : mxP f p) (b : mxP f q) (o : Orb f p q) : p = q := by
  have h1 := a q o
  have h2 := b p (o.symm h hp)
  omega
/-- as many greatest elements of one as least elements of another that is the same with other names -/
theorem cn_conj {n : Nat} {f g : Nat → Nat} (hf : Pm n f) (hg : Pm n g) (φ ψ : Nat → Nat) (h1 : ∀ p, p < n → φ p < n) (h2 : ∀ p, p < n → ψ p < n) (h3 : ∀ p, p < n → φ (ψ p) = p) (h4 : ∀ p, p < n → ψ (φ p) = p) (c : ∀ p, p < n → φ (f p) = g (φ p)) : cn n (mxP f) = cn n (mnP g) := by
  have c1 : ∀ (k p : Nat), p < n → φ (itF f k p) = itF g k (φ p) := fun k => by
    induction k with
    | zero => intro p _; rfl
    | succ k ih =>
      intro p hp
      show φ (f (itF f k p)) = g (itF g k (φ p))
      rw [c _ (itF_lt hf k hp), ih p hp]
  have c2 : ∀ p q, p < n → q < n → (Orb f p q ↔ Orb g (φ p) (φ q)) := fun p q hp hq => by
    constructor
    · rintro ⟨k, rfl⟩
      exact ⟨k, (c1 k p hp).symm⟩
    · rintro ⟨k, e⟩
      refine ⟨k, ?_⟩
      rw [← c1 k p hp] at e
      have := congrArg ψ e
      rwa [h4 _ (itF_lt hf k hp), h4 _ hq] at this
  refine Nat.le_antisymm ?_ ?_
  · refine cn_le (R := Orb f) (S := Orb g) φ h1 (fun p q hp hq a b o => mx_one hf hp a b o) (fun q hq => mn_ex hg hq) (fun p q b hp hq a d => ?_)
    exact (c2 p q hp hq).mpr (a.trans (d.symm hg (h1 q hq)))
  · refine cn_le (R := Orb g) (S := Orb f) ψ h2 (fun p q hp hq a b o => mn_one hg hp a b o) (fun q hq => mx_ex hf hq) (fun p q b hp hq a d => ?_)
    have := (c2 (ψ p) (ψ q) (h2 p hp) (h2 q hq)).mp (a.trans (d.symm hf (h2 q hq)))
    rwa [h3 p hp, h3 q hq] at this
/-- the item at i goes where the wanted one was -/
def skip (f : Nat → Nat) (i : Nat) : Nat → Nat := fun p => if p = i then i else if f p = i then f i else f p
/-- what is still to be moved behind the first i places -/
def gN (g : Nat → Nat) : Nat → Nat → Nat
  | 0 => g
  | i + 1 => skip (gN g i) i
theorem skip_same {f : Nat → Nat} {i : Nat} (h : f i = i) : ∀ p, skip f i p = f p := fun p => by
  unfold skip
  by_cases e : p = i
  · rw [if_pos e, e, h]
  · rw [if_neg e]
    by_cases e2 : f p = i
    · rw [if_pos e2, h, e2]
    · rw [if_neg e2]
structure GI (n : Nat) (g : Nat → Nat) (i : Nat) (f : Nat → Nat) : Prop where
  p : Pm n f
  fx : ∀ q, q < i → f q = q
  o : ∀ p q, i ≤ p → i ≤ q → p < n → q < n → (Orb f p q ↔ Orb g p q)
theorem GI.start {n : Nat} {g : Nat → Nat} (h : Pm n g) : GI n g 0 g := ⟨h, fun q hq => absurd hq (Nat.not_lt_zero _), fun _ _ _ _ _ _ => Iff.rfl⟩
theorem GI.ge {n i : Nat} {g f : Nat → Nat} (h : GI n g i f) {p : Nat} (hp : i ≤ p) (hn : p < n) : i ≤ f p := by
  refine Nat.le_of_not_lt fun hlt => ?_
  have e := h.fx _ hlt
  have := h.p.inj _ _ (h.p.lt p hn) hn e
  omega
theorem GI.fix_iff {n i : Nat} {g f : Nat → Nat} (h : GI n g i f) (hi : i < n) (hg : Pm n g) : f i = i ↔ mxP g i := by
  constructor
  · intro e q hq
    refine Nat.le_of_not_lt fun hlt => ?_
    have hqn : q < n := by
      obtain ⟨k, rfl⟩ := hq
      exact itF_lt hg k hi
    obtain ⟨k, hk⟩ := (h.o i q (Nat.le_refl _) (by omega) hi hqn).mpr hq
    have : ∀ k, itF f k i = i := fun k => by
      induction k with
      | zero => rfl
      | succ k ih => show f (itF f k i) = i; rw [ih, e]
    rw [this k] at hk
    omega
  · intro hm
    have h1 := h.ge (Nat.le_refl i) hi
    have h2 := hm (f i) ((h.o i (f i) (Nat.le_refl _) h1 hi (h.p.lt i hi)).mp (Orb.step f i))
    omega
theorem GI.next {n i : Nat} {g f : Nat → Nat} (h : GI n g i f) (hi : i < n) : GI n g (i + 1) (skip f i) := by
  have sp : ∀ p, p ≠ i → skip f i p = if f p = i then f i else f p := fun p hp => by unfold skip; rw [if_neg hp]
  have si : skip f i i = i := by unfold skip; rw [if_pos rfl]
  have pm : Pm n (skip f i) := by
    refine ⟨fun p hp => ?_, fun p q hp hq e => ?_⟩
    · by_cases e : p = i
      · rw [e, si]; exact hi
      · rw [sp p e]
        by_cases e2 : f p = i
        · rw [if_pos e2]; exact h.p.lt i hi
        · rw [if_neg e2]; exact h.p.lt p hp
    · have key : ∀ p, p < n → p ≠ i → skip f i p ≠ i := fun p hp hne z => by
        rw [sp p hne] at z
        by_cases e2 : f p = i
        · rw [if_pos e2] at z
          exact hne (h.p.inj p i hp hi (e2.trans z.symm))
        · rw [if_neg e2] at z
          exact e2 z
      by_cases ep : p = i
      · by_cases eq : q = i
        · rw [ep, eq]
        · rw [ep, si] at e
          exact (key q hq eq e.symm).elim
      · by_cases eq : q = i
        · rw [eq, si] at e
          exact (key p hp ep e).elim
        · rw [sp p ep, sp q eq] at e
          by_cases a : f p = i
          · by_cases b : f q = i
            · exact h.p.inj p q hp hq (a.trans b.symm)
            · rw [if_pos a, if_neg b] at e
              exact (eq (h.p.inj q i hq hi e.symm)).elim
          · by_cases b : f q = i
            · rw [if_neg a, if_pos b] at e
              exact (ep (h.p.inj p i hp hi e)).elim
            · rw [if_neg a, if_neg b] at e
              exact h.p.inj p q hp hq e
  refine ⟨pm, fun q hq => ?_, fun p q hp hq hpn hqn => ?_⟩
  · by_cases e : q = i
    · rw [e, si]
    · have hlt : q < i := by omega
      rw [sp q e, h.fx q hlt, if_neg (by omega)]
  · rw [← h.o p q (by omega) (by omega) hpn hqn]
    constructor
    · rintro ⟨k, rfl⟩
      induction k with
      | zero => exact Orb.refl f p
      | succ k ih =>
        have hk : i + 1 ≤ itF (skip f i) k p ∧ itF (skip f i) k p < n := by
          clear ih hq hqn
          induction k with
          | zero => exact ⟨hp, hpn⟩
          | succ k ih2 =>
            have g1 : itF (skip f i) (k + 1) p < n := itF_lt pm _ hpn
            refine ⟨?_, g1⟩
            have e1 : itF (skip f i) (k + 1) p = skip f i (itF (skip f i) k p) := rfl
            have hne : itF (skip f i) k p ≠ i := by have := ih2.1; omega
            have h0 := h.ge (p := itF (skip f i) k p) (by have := ih2.1; omega) ih2.2
            rw [e1, sp _ hne]
            by_cases a : f (itF (skip f i) k p) = i
            · rw [if_pos a]
              have h1 := h.ge (Nat.le_refl i) hi
              have h2 : f i ≠ i := fun z => hne (h.p.inj _ _ ih2.2 hi (a.trans z.symm))
              omega
            · rw [if_neg a]
              omega
        have ih' := ih (by omega) hk.2
        refine ih'.trans ?_
        show Orb f (itF (skip f i) k p) (skip f i (itF (skip f i) k p))
        rw [sp _ (by omega)]
        by_cases a : f (itF (skip f i) k p) = i
        · rw [if_pos a]
          exact ⟨2, by show f (f (itF (skip f i) k p)) = f i; rw [a]⟩
        · rw [if_neg a]
          exact Orb.step f _
    · have main : ∀ k p, i + 1 ≤ p → p < n → itF f k p = q → Orb (skip f i) p q := by
        intro k
        induction k using Nat.strongRecOn with
        | _ k ih =>
          intro p hp hpn hk
          match k, hk with
          | 0, hk => exact ⟨0, hk⟩
          | 1, hk =>
            have hk' : f p = q := hk
            refine ⟨1, ?_⟩
            show skip f i p = q
            rw [sp p (by omega), if_neg (by omega)]
            exact hk'
          | k + 2, hk =>
            by_cases a : f p = i
            · have e : itF f k (f i) = q := by
                rw [itF_succ, itF_succ, a] at hk
                exact hk
              have h2 : f i ≠ i := fun z => by
                have := h.p.inj p i hpn hi (a.trans z.symm)
                omega
              have h1 := h.ge (Nat.le_refl i) hi
              have := ih k (by omega) (f i) (by omega) (h.p.lt i hi) e
              have s : skip f i p = f i := by rw [sp p (by omega), if_pos a]
              rw [← s] at this
              exact (Orb.step _ p).trans this
            · have e : itF f (k + 1) (f p) = q := by
                rw [itF_succ] at hk
                exact hk
              have h0 := h.ge (p := p) (by omega) hpn
              have := ih (k + 1) (by omega) (f p) (by omega) (h.p.lt p hpn) e
              have s : skip f i p = f p := by rw [sp p (by omega), if_neg a]
              rw [← s] at this
              exact (Orb.step _ p).trans this
      rintro ⟨k, hk⟩
      exact main k p hp hpn hk
theorem gN_ok {n : Nat} {g : Nat → Nat} (h : Pm n g) : ∀ i, i ≤ n → GI n g i (gN g i)
  | 0, _ => GI.start h
  | i + 1, hi => (gN_ok h i (by omega)).next (by omega)
end Sv
set_option maxHeartbeats 1000000
namespace Sv
def xch (l : List Int) (i j : Nat) : List Int := (l.set i (l.getD j 0)).set j (l.getD i 0)
theorem xch_len (l : List Int) (i j : Nat) : (xch l i j).length = l.length := by unfold xch; rw [List.length_set, List.length_set]
theorem getD_at {l : List Int} {i : Nat} (h : i < l.length) : l[i]? = some (l.getD i 0) := by
  rw [List.getD_eq_getElem?_getD, List.getElem?_eq_getElem h]
  rfl
theorem xch_at {l : List Int} {i j : Nat} (hi : i < l.length) (hj : j < l.length) (q : Nat) : (xch l i j)[q]? = if q = j then some (l.getD i 0) else if q = i then some (l.getD j 0) else l[q]? := by
  unfold xch
  by_cases h : q = j
  · rw [if_pos h, h, List.getElem?_set_self (by rw [List.length_set]; exact hj)]
  · rw [if_neg h, List.getElem?_set_ne (Ne.symm h)]
    by_cases h2 : q = i
    · rw [if_pos h2, h2, List.getElem?_set_self hi]
    · rw [if_neg h2, List.getElem?_set_ne (Ne.symm h2)]
/-- where an item is -/
def ixOf (l : List Int) (x : Int) : Nat := l.idxOf x
theorem ixOf_at {l : List Int} {x : Int} (h : x ∈ l) : l[ixOf l x]? = some x ∧ ixOf l x < l.length := by
  have h1 : l.idxOf x < l.length := List.idxOf_lt_length_of_mem h
  refine ⟨?_, h1⟩
  show l[l.idxOf x]? = some x
  rw [List.getElem?_eq_getElem h1, List.getElem_idxOf h1]
theorem at_one {l : List Int} (nd : l.Nodup) {a b : Nat} {x : Int} (ha : l[a]? = some x) (hb : l[b]? = some x) : a = b := by
  obtain ⟨la, ea⟩ := List.getElem?_eq_some_iff.mp ha
  obtain ⟨lb, eb⟩ := List.getElem?_eq_some_iff.mp hb
  exact (List.getElem_inj nd).mp (ea.trans eb.symm)
/-- what is there, and the swaps so far, behind the first i places -/
def swS (now wanted : List Int) : Nat → List Int × List (Nat × Nat)
  | 0 => (now, [])
  | i + 1 => if (swS now wanted i).1.getD i 0 = wanted.getD i 0 then swS now wanted i else (xch (swS now wanted i).1 i (ixOf (swS now wanted i).1 (wanted.getD i 0)), (swS now wanted i).2 ++ [(i, ixOf (swS now wanted i).1 (wanted.getD i 0))])
section
variable {now wanted : List Int}
/-- the place in now of what is wanted at p -/
def gW (now wanted : List Int) (p : Nat) : Nat := ixOf now (wanted.getD p 0)
theorem gW_pm (nd : now.Nodup) (pm : wanted.Perm now) : Pm now.length (gW now wanted) := by
  have wl : wanted.length = now.length := pm.length_eq
  have mem : ∀ p, p < now.length → wanted.getD p 0 ∈ now := fun p hp => pm.mem_iff.mp (List.mem_of_getElem? (getD_at (by omega)))
  refine ⟨fun p hp => (ixOf_at (mem p hp)).2, fun p q hp hq e => ?_⟩
  have h1 := (ixOf_at (mem p hp)).1
  have h2 := (ixOf_at (mem q hq)).1
  unfold gW at e
  rw [e] at h1
  have e2 : wanted.getD p 0 = wanted.getD q 0 := Option.some.inj (h1.symm.trans h2)
  exact at_one (pm.nodup_iff.mpr nd) (getD_at (by omega)) (by rw [e2]; exact getD_at (by omega))
structure SwI (now wanted : List Int) (i : Nat) (l : List Int) (sw : List (Nat × Nat)) : Prop where
  len : l.length = now.length
  at_ : ∀ p, p < now.length → l[gN (gW now wanted) i p]? = wanted[p]?
  nd : l.Nodup
  cnt : sw.length + cn i (mxP (gW now wanted)) = i
theorem swS_ok (nd : now.Nodup) (pm : wanted.Perm now) : ∀ i, i ≤ now.length → SwI now wanted i (swS now wanted i).1 (swS now wanted i).2
  | 0, _ => ⟨rfl, fun p hp => by
      have h := (ixOf_at (pm.mem_iff.mp (List.mem_of_getElem? (getD_at (l := wanted) (i := p) (by rw [pm.length_eq]; exact hp))))).1
      show now[gW now wanted p]? = _
      unfold gW
      rw [h, getD_at (by rw [pm.length_eq]; exact hp)], nd, rfl⟩
  | i + 1, hi => by
    have wl : wanted.length = now.length := pm.length_eq
    have I := swS_ok nd pm i (by omega)
    have G := gN_ok (gW_pm nd pm) i (by omega)
    have hil : i < now.length := by omega
    have hfi := G.fix_iff hil (gW_pm nd pm)
    generalize hl : (swS now wanted i).1 = l at I
    generalize hs : (swS now wanted i).2 = sw at I
    have e1 : swS now wanted (i + 1) = if l.getD i 0 = wanted.getD i 0 then (l, sw) else (xch l i (ixOf l (wanted.getD i 0)), sw ++ [(i, ixOf l (wanted.getD i 0))]) := by
      show (if (swS now wanted i).1.getD i 0 = wanted.getD i 0 then swS now wanted i else _) = _
      rw [hl, hs, ← hl, ← hs]
    have wi : wanted[i]? = some (wanted.getD i 0) := getD_at (by omega)
    have li : l[i]? = some (l.getD i 0) := getD_at (by rw [I.len]; exact hil)
    have atI := I.at_ i hil
    rw [wi] at atI
    have gi := G.p.lt i hil
    by_cases h : l.getD i 0 = wanted.getD i 0
    · rw [e1, if_pos h]
      have fx : gN (gW now wanted) i i = i := at_one I.nd atI (by rw [← h]; exact li)
      refine ⟨I.len, fun p hp => ?_, I.nd, ?_⟩
      · show l[skip (gN (gW now wanted) i) i p]? = _
        rw [skip_same fx]
        exact I.at_ p hp
      · have := I.cnt
        rw [cn_succ, if_pos (hfi.mp fx)]
        show sw.length + _ = _
        omega
    · rw [e1, if_neg h]
      have ej : ixOf l (wanted.getD i 0) = gN (gW now wanted) i i := at_one I.nd (ixOf_at (List.mem_of_getElem? atI)).1 atI
      have nfx : gN (gW now wanted) i i ≠ i := fun z => by
        rw [z, li] at atI
        exact h (Option.some.inj atI)
      rw [ej]
      have jl : gN (gW now wanted) i i < l.length := by rw [I.len]; exact gi
      have il : i < l.length := by rw [I.len]; exact hil
      generalize hj : gN (gW now wanted) i i = j at *
      have ex := xch_at il jl
      refine ⟨by rw [xch_len]; exact I.len, fun p hp => ?_, ?_, ?_⟩
      · show (xch l i j)[skip (gN (gW now wanted) i) i p]? = _
        rw [ex]
        unfold skip
        by_cases hpi : p = i
        · rw [if_pos hpi, if_neg (Ne.symm nfx), if_pos rfl, hpi, wi]
          congr 1
          have := getD_at jl
          rw [atI] at this
          exact (Option.some.inj this).symm
        · rw [if_neg hpi]
          by_cases h2 : gN (gW now wanted) i p = i
          · rw [if_pos h2, hj, if_pos rfl, ← I.at_ p hp, h2, li]
          · rw [if_neg h2]
            have h3 : gN (gW now wanted) i p ≠ j := fun z => hpi (G.p.inj p i hp hil (by rw [z, hj]))
            rw [if_neg h3, if_neg h2]
            exact I.at_ p hp
      · refine List.pairwise_iff_getElem.mpr fun a b ha hb hab e0 => ?_
        have e : (xch l i j)[a]? = (xch l i j)[b]? := by rw [List.getElem?_eq_getElem ha, List.getElem?_eq_getElem hb, e0]
        clear e0
        rw [xch_len] at ha hb
        rw [ex, ex] at e
        have key : ∀ {c d : Nat}, c < l.length → d < l.length → l[c]? = l[d]? → c = d := fun hc hd e2 => at_one I.nd (e2.trans (getD_at hd)) (getD_at hd)
        rw [← li, ← getD_at jl] at e
        split at e
        · rename_i ha
          split at e
          · omega
          · split at e
            · have := key il jl e; omega
            · have := key il hb e; omega
        · split at e
          · split at e
            · have := key jl il e; omega
            · split at e
              · omega
              · have := key jl hb e; omega
          · split at e
            · have := key (by omega) il e; omega
            · split at e
              · have := key (by omega) jl e; omega
              · have := key (by omega) hb e; omega
      · rw [List.length_append, cn_succ, if_neg fun z => nfx (hfi.mpr z)]
        have := I.cnt
        show sw.length + 1 + _ = _
        omega
/-- it comes out -/
theorem swS_end (nd : now.Nodup) (pm : wanted.Perm now) : (swS now wanted now.length).1 = wanted := by
  have wl : wanted.length = now.length := pm.length_eq
  have I := swS_ok nd pm now.length (Nat.le_refl _)
  have G := gN_ok (gW_pm nd pm) now.length (Nat.le_refl _)
  refine List.ext_getElem? fun p => ?_
  by_cases hp : p < now.length
  · have := I.at_ p hp
    rw [G.fx p hp] at this
    exact this
  · rw [List.getElem?_eq_none (by rw [I.len]; omega), List.getElem?_eq_none (by omega)]
theorem swS_cnt (nd : now.Nodup) (pm : wanted.Perm now) : (swS now wanted now.length).2.length + cn now.length (mxP (gW now wanted)) = now.length := (swS_ok nd pm now.length (Nat.le_refl _)).cnt
end
end Sv
set_option maxHeartbeats 4000000
namespace Sv
open PySem PySem.Spec PyProof.Rows L2
def rSortS (K : PySem.W.Frag) : List V → Hp → VK → Prop := fun xs H Q => ∃ (a : Addr) (ks : List Int), xs = [.ref a] ∧ (SqL K H a (ks.map V.int) ∨ SqT K H a (ks.map V.int)) ∧
  ∀ (ys : List Int) (p : Addr), ys.Perm ks → ys.Pairwise (· ≤ ·) → H p = none → Q (.ref p) (upd H p (.lst (ys.map V.int)))
theorem ints_of_vals : ∀ {ks : List Int} {its : List Value}, Vals (ks.map V.int) its → IntsAre its ks
  | [], [], _ => .nil
  | [], _ :: _, h => by cases h
  | _ :: _, [], h => by cases h
  | k :: ks, v :: its, h => by
    cases h with
    | cons r t =>
      obtain ⟨tk, rfl⟩ := r
      exact .cons _ _ (ints_of_vals t)
theorem call_sortedS {X : Cx} (hcalm : X.calm = true) : CallR X (.builtin "sorted") (rSortS X.K) := by
  intro pins s σ H xs us Q I r ⟨a, ks, ex, hq, q⟩
  subst ex
  obtain ⟨u, eu, rx⟩ := vals1 r
  subst eu
  cases rx
  have key : ∃ (its : List Value) (T : String) (o : Obj) (n : Nat), Vals (ks.map V.int) its ∧ its.length ≤ sizeLine ∧ (T = "list" ∨ T = "tuple") ∧ s.heap.get? a = some o ∧ o.cls = .type T ∧ o.data = .seq its.toArray n := by
    rcases hq with hq | hq
    · obtain ⟨its, r', pl, hz⟩ := I.list hq
      obtain ⟨o, ho, hc, n, hd⟩ := pl.isList
      exact ⟨its, "list", o, n, r', by rw [← r'.length]; exact hz, .inl rfl, ho, hc, hd⟩
    · obtain ⟨its, r', pl, hz⟩ := I.tuple hq
      obtain ⟨o, ho, hc, n, hd⟩ := pl
      exact ⟨its, "tuple", o, n, r', by rw [← r'.length]; exact hz, .inr rfl, ho, hc, hd⟩
  obtain ⟨its, T, o, n, rv, hz, hT, ho, hc, hd⟩ := key
  have al : its.length = ks.length := by rw [← rv.length, List.length_map]
  have hI : IntsAre its ks := ints_of_vals rv
  refine Calls.call_function_entry PyProof.Rows.kind_sorted PyProof.Rows.plain_sorted PyProof.Rows.entry_sorted (PyProof.Rows.args_sorted1 _) ?_
  unfold Builtin.«sorted»
  refine wpAny_bind (m := checkCount "sorted" 1 1 _) (wpAny_pure (wpAny_bind (PySem.wpAny_collect_seq (A := X.A.in1) a hT ho hc hd (fun h' kp => ?_) (by simp only [List.size_toArray]; exact hz))))
  have I1 : Inv X pins σ H { s with heap := h' } := I.kept (t' := s.toks) kp
  refine wpAny_bind (wpAny_newList ?_ (by simp only [List.toList_toArray]; exact hz))
  have hoL : (h'.push (seqObj "list" its.toArray.toList.toArray 0)).get? h'.objs.size = some (seqObj "list" its.toArray.toList.toArray 0) := Heap.get?_push_size _ rfl
  show wpAny _ _ _ _ _ { s with heap := h'.push (seqObj "list" its.toArray.toList.toArray 0) }
  simp only [List.toList_toArray] at hoL ⊢
  refine wpAny_bind (wpAny_holding (wpAny_call_entry PyProof.Rows.slot_list_sort ⟨_, hoL, rfl⟩ PyProof.Rows.entry_list_sort
    (SrtO.list_sort_ord SrtO.swo_int hoL hz (fun h2 => SrtO.ints_sortable hI h2) fun out g1 g2 => ⟨_, rfl, ?_⟩) (PyProof.Rows.args_list_sort _)))
  obtain ⟨k1, k2, k3⟩ := SrtO.ints_out hI g1 g2
  obtain ⟨e', he'⟩ := PyProof.Rows.sortedHeap_at (vs := its) (out := out.toArray) hoL
  have hlen : ((out.map SrtO.iv).map V.int).length ≤ sizeLine := by
    rw [List.length_map, k2.length_eq, ← al]
    exact hz
  refine wpAny_pure ⟨_, rfl, .ref h'.objs.size, upd H h'.objs.size (.lst ((out.map SrtO.iv).map V.int)), I1.laid (t' := s.toks) (fun b u e => ?_) (Nat.le_refl _) (show ObjOk X.prog X.w _ _ _ (.lst ((out.map SrtO.iv).map V.int)) from ⟨hlen, out, e', vals_of_ints k1, he'⟩), rfl, q _ _ k2 k3 (I1.hok.fresh (Nat.le_refl _))⟩
  have hb : b < h'.objs.size := Heap.lt_size e
  rw [PyProof.Rows.sortedHeap_old (Nat.ne_of_lt hb) (by rw [size_push']; exact Nat.lt_succ_of_lt hb)]
  exact Heap.get?_push_of_some _ e
end Sv
set_option maxHeartbeats 4000000
namespace Sv
open PySem PySem.Spec PyProof.Rows L2
theorem sorted_one : ∀ {a b : List Int}, a.Pairwise (· ≤ ·) → b.Pairwise (· ≤ ·) → a.Perm b → a = b
  | [], b, _, _, p => p.nil_eq
  | x :: a, [], _, _, p => by have := p.length_eq; simp at this
  | x :: a, y :: b, ha, hb, p => by
    have h1 := List.pairwise_cons.mp ha
    have h2 := List.pairwise_cons.mp hb
    have e : x = y := by
      have a1 : x ∈ y :: b := p.mem_iff.mp (List.mem_cons_self ..)
      have a2 : y ∈ x :: a := p.mem_iff.mpr (List.mem_cons_self ..)
      rcases List.mem_cons.mp a1 with z | z
      · exact z
      · rcases List.mem_cons.mp a2 with w | w
        · exact w.symm
        · have := h2.1 x z
          have := h1.1 y w
          omega
    subst e
    rw [sorted_one h1.2 h2.2 (List.perm_cons x |>.mp p)]
theorem pInts_inj2 {a b : List Int} (h : a.map PyData.int = b.map PyData.int) : a = b := (List.map_inj_right fun x y z => PyData.int.inj z).mp h
theorem neL_go2 {K : PySem.W.Frag} {H : Hp} {a b : Addr} {l m : List Int} {Q : VK} (h1 : H a = some (.lst (l.map V.int))) (h2 : H b = some (.lst (m.map V.int))) (l1 : l.length ≤ 1000) (l2 : m.length ≤ 1000) (q : Q (.bl (!decide (l = m))) H) : qNe K (.ref a) (.ref b) H Q := by
  have d1 : Dp K H (.ref a) (.list (l.map PyData.int)) := .lst (.inl (.inl h1)) (dpAll_int l)
  have d2 : Dp K H (.ref b) (.list (m.map PyData.int)) := .lst (.inl (.inl h2)) (dpAll_int m)
  have p : ∀ l : List Int, pld (.list (l.map PyData.int)) = true := fun l => by unfold pld; exact pldAll_int l
  have o : ∀ l : List Int, l.length ≤ 1000 → okD 1 (.list (l.map PyData.int)) = true := fun l hl => okD_l (by rw [List.length_map]; exact hl) (okDs_int 0 l)
  by_cases e : l = m
  · rw [decide_eq_true e] at q
    subst e
    exact ne_same d1 d2 (p l) (o l l1) (by decide) q
  · rw [decide_eq_false e] at q
    exact ne_diff d1 d2 (p l) (p m) (o l l1) (o m l2) (by decide) (by decide) (fun z => e (by injection z with z; exact pInts_inj2 z)) q
section
variable {P : Program} {w : World} {K : PySem.W.Frag} {mg : Str → Option Value} {base : Heap}
def spParcelsT (K : PySem.W.Frag) : Sp := fun vs H Q _ => ∃ (l : Addr) (ns : List Int), vs = [.ref l] ∧ SqT K H l (ns.map V.int) ∧ ns.length ≤ 2000 ∧ Q (.bl (decide (OkP ns))) H
theorem ok_parcelsT (T : Bd P K mg) : FnOk P w K mg base CX0 2 T.aParcels T.dParcels ["parcels"] (spParcelsT K) := by
  have GW : FnOk P w K mg base CX0 1 T.aWithin T.dWithin ["number", "low", "high"] spWithin := ok_within T.Within.F T.bt.isinstance T.bt.bool T.bt.int
  obtain ⟨tl, hlast⟩ := T.lastP
  refine T.Parcels.F.ok scParcels (fun vs H Q E h => ?_) (fun cdv A outer s H vs Q E hr h => ?_)
  · obtain ⟨l, ns, rfl, _⟩ := h
    rfl
  · obtain ⟨l, ns, rfl, hL, hl, q⟩ := h
    refine ⟨_, pss_cons (ps_for PassesOwn.never rfl (pi_tup (pv 0)) (pg_name (i := 1) scParcels.nd rfl (Or.inl rfl))
        (pss_one (ps_if (pt_not (pt_val (pe_call GW hr (by rfl) T.Within.g T.Within.F.kp T.Within.b .nil pass0 (pa_cons (pv 1) (pa_cons pe_int (pa_cons (pe_glob (v := .int 999) (by rfl) hlast ⟨_, rfl⟩) pa_nil)))))) (pss_one (ps_ret pe_bl)) pss_nil)))
      (pss_one (ps_ret (pe_cmpR op_eq (pe_lenSetT (by rfl) T.bt.len (by rfl) T.bt.set (pv 0)) (pe_callB call_len_seq (by rfl) T.bt.len b_len (pa_cons (pv 0) pa_nil)) (nomark _)))), ?_⟩
    have hlen : (ns.map V.int).length = ns.length := by rw [List.length_map]
    refine ⟨.ref l, rfl, l, rfl, ⟨_, hL⟩, for_tup (xs := ns.map V.int) (fun i σ H' => (∃ y, σ = [some (.ref l), y]) ∧ H' = H ∧ ∀ j x, j < i → ns[j]? = some x → 1 ≤ x ∧ x ≤ 999) ⟨⟨none, rfl⟩, rfl, fun j x hj => by omega⟩ (fun i σ H' _ h => by rw [h.2.1]; exact hL)
      (fun i x σ H' hx ⟨⟨y, es⟩, eH, hok⟩ => ?_) (fun σ H' ⟨⟨y, es⟩, eH, hok⟩ => ?_)⟩
    · subst es
      subst eH
      obtain ⟨n, hn, rfl⟩ := iV_lt hx
      refine ⟨.int n, rfl, n, 1, 999, rfl, _, rfl, ?_⟩
      by_cases h : 1 ≤ n ∧ n ≤ 999
      · rw [decide_eq_true h]
        refine iteF ⟨⟨_, rfl⟩, rfl, fun j x hj e => ?_⟩
        by_cases hji : j = i
        · rw [hji, hn] at e
          rw [← Option.some.inj e]
          exact h
        · exact hok j x (by omega) e
      · rw [decide_eq_false h]
        have e : decide (OkP ns) = false := decide_eq_false fun z => h (z.1 n (List.mem_of_getElem? hn))
        rw [e] at q
        exact iteT q
    · subst es
      subst eH
      rw [hlen] at hok
      refine ⟨.ref l, rfl, l, ns, rfl, hL, by omega, fun c hc hiff => ?_⟩
      refine ⟨.ref l, rfl, l, _, rfl, .inr hL, rfl, ?_⟩
      rw [hlen]
      show Q (.bl (decide (V.int (c : Int) = V.int (ns.length : Nat)))) H'
      rw [int_eqV]
      have h1 : ∀ x ∈ ns, 1 ≤ x ∧ x ≤ 999 := fun x hx => by
        obtain ⟨j, hj⟩ := List.mem_iff_getElem?.mp hx
        exact hok j x (List.getElem?_eq_some_iff.mp hj).1 hj
      have e : decide ((c : Int) = (ns.length : Nat)) = decide (OkP ns) := by
        by_cases h : c = ns.length
        · rw [decide_eq_true (by rw [h]), decide_eq_true ⟨h1, hiff.mp h⟩]
        · rw [decide_eq_false (by omega), decide_eq_false fun z => h (hiff.mpr z.2)]
      rw [e]
      exact q
theorem scArrange : FnScope ["plan", "state"] ["plan", "state"] (defScope sArrange) := ⟨rfl, rfl, rfl, by decide +kernel, rfl, by decide +kernel, by decide +kernel⟩
/-- a tuple that is known to have no attributes of its own -/
def TupF (H : Hp) (u : Addr) (xs : List V) : Prop := ∃ o, H u = some (.frz o (.tup xs)) ∧ o.dict = none
theorem TupF.sq {K : PySem.W.Frag} {H : Hp} {u : Addr} {xs : List V} (h : TupF H u xs) : SqT K H u xs := by
  obtain ⟨o, h, _⟩ := h
  exact .inl (.inr ⟨o, h⟩)
theorem TupF.same {H H' : Hp} {u : Addr} {xs : List V} (e : Same H H') (h : TupF H u xs) : TupF H' u xs := by
  obtain ⟨o, h, d⟩ := h
  exact ⟨o, e _ _ h, d⟩
def spArrange (K : PySem.W.Frag) (C CS : Addr) : Sp := fun vs H Q E => ∃ (p s : Addr) (zs : List Int) (rs : List Ro) (t : Int) (L : Lay Int), vs = [.ref p, .ref s] ∧ PlanAt K H p zs rs ∧ Small zs rs ∧ StateAt K H s t L ∧ BadE C zs rs H E ∧
  (bad zs rs = none → ¬ StOk zs rs t L → ∀ H', Same H H' → E (.ref CS) none H') ∧
  (bad zs rs = none → StOk zs rs t L → ∀ H' u, Same H H' → H u = none → TupF H' u ((join L).map V.int) → Q (.ref u) H')
theorem ok_arrange (T : Bd P K mg) : FnOk P w K mg base (L2.CX P w) 5 T.aArrange T.dArrange ["plan", "state"] (spArrange K T.C T.CS) := by
  have GP : FnOk P w K mg base (L2.CX P w) 4 T.aCheckPlan T.dCheckPlan ["plan"] (spCheckPlan K T.C) := ok_checkPlan T
  have GS : FnOk P w K mg base (L2.CX P w) 3 T.aCheckState T.dCheckState ["plan", "state"] (spCheckState K T.CS) := ok_checkState T
  have GI : FnOk P w K mg base CX0 2 T.aParcelsIn T.dParcelsIn ["state"] (spParcelsIn K) := ok_parcelsIn T
  refine T.Arrange.F.okX scArrange (fun vs H Q E h => ?_) (fun cdv A outer s H vs Q E hr h => ?_)
  · obtain ⟨p, s, zs, rs, t, L, rfl, _⟩ := h
    rfl
  · obtain ⟨p, s, zs, rs, t, L, rfl, hp, hs, hst, q1, q2, q3⟩ := h
    refine ⟨_, (pss_cons (ps_expr (pe_call (E := E) GP (hr.mono (by decide)) (by rfl) T.CheckPlan.g T.CheckPlan.F.kp T.CheckPlan.b .nil (passes_call (takes_of rfl rfl rfl rfl) fun _ _ _ _ h => h) (pa_cons (pv 0) pa_nil)))
      (pss_cons (ps_expr (pe_call (E := E) GS (hr.mono (by decide)) (by rfl) T.CheckState.g T.CheckState.F.kp T.CheckState.b .nil (passes_call (takes_of rfl rfl rfl rfl) fun _ _ _ _ h => h) (pa_cons (pv 0) (pa_cons (pv 1) pa_nil))))
      (pss_one (ps_ret (pe_callTy mk_tupF (by rfl) T.bt.tuple b_tuple (pa_cons (pe_call (E := E0) GI (hr.mono (by decide)) (by rfl) T.ParcelsIn.g T.ParcelsIn.F.kp T.ParcelsIn.b .nil pass0 (pa_cons (pv 1) pa_nil)) pa_nil)))))), ?_⟩
    refine ⟨.ref p, rfl, p, zs, rs, rfl, hp, hs, fun e1 H1 sm1 => ?_, q1⟩
    have hv := val_of e1
    have hn := hv.num
    refine ⟨.ref p, rfl, .ref s, rfl, p, s, zs, rs, t, L, rfl, hp.same sm1, hv, hst.same sm1, fun hok H2 sm2 => ?_, fun hno H2 sm2 => q2 e1 hno H2 (sm1.trans sm2)⟩
    have smA := sm1.trans sm2
    have jl := join_len hok.f
    refine ⟨.ref s, rfl, s, t, L, rfl, hst.same smA, by omega, fun H3 f sm3 nf kf => ⟨f, _, rfl, .inl (.inl kf), .inr fun l o hl ho => ?_⟩⟩
    exact q3 e1 hok _ l ((smA.trans sm3).trans (same_upd hl)) (Same.free (smA.trans sm3) hl) ⟨o, upd_same, ho⟩
theorem scCheckArr : FnScope ["parcels", "goal"] ["parcels", "goal"] (defScope sCheckArr) := ⟨rfl, rfl, rfl, by decide +kernel, rfl, by decide +kernel, by decide +kernel⟩
abbrev GoalOk (gs ns : List Int) : Prop := gs.length = ns.length ∧ OkP gs ∧ gs.Perm ns
def spCheckArr (K : PySem.W.Frag) (CA : Addr) : Sp := fun vs H Q E => ∃ (l g : Addr) (ns gs : List Int), vs = [.ref l, .ref g] ∧ SqL K H l (ns.map V.int) ∧ SqT K H g (gs.map V.int) ∧ ns.length ≤ 1000 ∧ gs.length ≤ 1000 ∧
  (GoalOk gs ns → ∀ H', Same H H' → Q .non H') ∧ (¬ GoalOk gs ns → ∀ H', Same H H' → E (.ref CA) none H')
theorem ok_checkArr (T : Bd P K mg) : FnOk P w K mg base (L2.CX P w) 3 T.aCheckArr T.dCheckArr ["parcels", "goal"] (spCheckArr K T.CAr) := by
  have GT : FnOk P w K mg base CX0 1 T.aTupOf T.dTupOf ["row", "length"] (spTupOf K) := ok_tupOf T
  have GQ : FnOk P w K mg base CX0 2 T.aParcels T.dParcels ["parcels"] (spParcelsT K) := ok_parcelsT T
  refine T.CheckArr.F.okX scCheckArr (fun vs H Q E h => ?_) (fun cdv A outer s H vs Q E hr h => ?_)
  · obtain ⟨l, g, ns, gs, rfl, _⟩ := h
    rfl
  · obtain ⟨l, g, ns, gs, rfl, hL, hG, ll, gl, q1, q2⟩ := h
    refine ⟨_, (pss_one (ps_if (pw_or (pt_not (pt_val (pe_call (E := E0) GT (hr.mono (by decide)) (by rfl) T.TupOf.g T.TupOf.F.kp T.TupOf.b .nil pass0 (pa_cons (pv 1) (pa_cons (pe_callB call_len_seq (by rfl) T.bt.len b_len (pa_cons (pv 0) pa_nil)) pa_nil))))) (pw_or (pt_not (pt_val (pe_call (E := E0) GQ (hr.mono (by decide)) (by rfl) T.Parcels.g T.Parcels.F.kp T.Parcels.b .nil pass0 (pa_cons (pv 1) pa_nil)))) (pw_or1 (pt_cmpR (op_neQ hr.units) (pe_callB (call_sortedS rfl) (by rfl) T.bt.sorted (by decide +kernel) (pa_cons (pv 1) pa_nil)) (pe_callB (call_sortedS rfl) (by rfl) T.bt.sorted (by decide +kernel) (pa_cons (pv 0) pa_nil)) (nomark _))))).pt (pss_one (ps_raise rfl (takes_of rfl rfl rfl rfl) (pmk_own PySem.F.excBase_ValueError T.car.x T.car.g T.car.k (raises_own T.car.b T.car.t) rfl))) pss_nil)), ?_⟩
    refine ⟨.ref g, rfl, .ref l, rfl, l, _, rfl, .inl hL, g, _, _, rfl, hG, _, rfl, ?_⟩
    rw [List.length_map, List.length_map]
    by_cases h1 : gs.length = ns.length
    · rw [decide_eq_true (by omega)]
      refine iteF ⟨.ref g, rfl, g, gs, rfl, hG, by omega, _, rfl, ?_⟩
      by_cases h2 : OkP gs
      · rw [decide_eq_true h2]
        refine iteF ⟨.ref g, rfl, g, gs, rfl, .inr hG, fun ys p py sy hp => ?_⟩
        have s1 := same_upd (o := .lst (ys.map V.int)) hp
        have hL1 : SqL K (upd H p (.lst (ys.map V.int))) l (ns.map V.int) := by
          rcases hL with (z | ⟨o, z⟩) | z
          · exact .inl (.inl (s1 _ _ z))
          · exact .inl (.inr ⟨o, s1 _ _ z⟩)
          · exact .inr z
        refine ⟨.ref l, rfl, l, ns, rfl, .inl hL1, fun xs r px sx hr => ?_⟩
        have s2 := same_upd (o := .lst (xs.map V.int)) hr
        have smA := s1.trans s2
        show qNe K _ _ _ _
        refine neL_go2 (s2 _ _ upd_same) upd_same (by rw [py.length_eq]; exact gl) (by rw [px.length_eq]; exact ll) ⟨_, rfl, ?_⟩
        by_cases e : ys = xs
        · rw [decide_eq_true e]
          subst e
          exact iteF (q1 ⟨h1, h2, py.symm.trans px⟩ _ smA)
        · rw [decide_eq_false e]
          exact iteT (q2 (fun z => e (sorted_one sy sx ((py.trans z.2.2).trans px.symm))) _ smA)
      · rw [decide_eq_false h2]
        exact iteT (q2 (fun z => h2 z.2.1) H (Same.refl H))
    · rw [decide_eq_false (by omega)]
      exact iteT (q2 (fun z => h1 z.1) H (Same.refl H))
theorem scExchange : FnScope ["contents", "one", "other"] ["contents", "one", "other"] (defScope sExchange) := ⟨rfl, rfl, rfl, by decide +kernel, rfl, by decide +kernel, by decide +kernel⟩
def spExchange (K : PySem.W.Frag) : Sp := fun vs H Q _ => ∃ (l : Addr) (ns : List Int) (i j : Nat), vs = [.ref l, .int (i : Nat), .int (j : Nat)] ∧ H l = some (.lst (ns.map V.int)) ∧ i < ns.length ∧ j < ns.length ∧
  ∀ H', (∀ b, b ≠ l → ∀ o, H b = some o → H' b = some o) → H' l = some (.lst ((xch ns i j).map V.int)) → Q .non H'
theorem ok_exchange (T : Bd P K mg) : FnOk P w K mg base CX0 1 T.aExchange T.dExchange ["contents", "one", "other"] (spExchange K) := by
  refine T.Exchange.F.ok scExchange (fun vs H Q E h => ?_) (fun cdv A outer s H vs Q E hr h => ?_)
  · obtain ⟨l, ns, i, j, rfl, _⟩ := h
    rfl
  · obtain ⟨l, ns, i, j, rfl, hL, hi, hj, q⟩ := h
    refine ⟨_, (pss_one (ps_asg (pe_tup (pa_cons (pe_ix ix_list (pv 0) (pv 2) (fun _ _ => rfl)) (pa_cons (pe_ix ix_list (pv 0) (pv 1) (fun _ _ => rfl)) pa_nil))) (pg_tup rfl (pgs_cons (pg_sub (pv 0) (pv 1) set_list) (pgs_cons (pg_sub (pv 0) (pv 2) set_list) pgs_nil))))), ?_⟩
    have ai : (ns.map V.int)[i]? = some (V.int (ns.getD i 0)) := by rw [List.getElem?_map, getD_at hi]; rfl
    have aj : (ns.map V.int)[j]? = some (V.int (ns.getD j 0)) := by rw [List.getElem?_map, getD_at hj]; rfl
    refine ⟨.ref l, rfl, .int (j : Nat), rfl, l, _, (j : Nat), .int (ns.getD j 0), rfl, rfl, .inl (.inl hL), atI_nat aj, .ref l, rfl, .int (i : Nat), rfl, l, _, (i : Nat), .int (ns.getD i 0), rfl, rfl, .inl (.inl hL), atI_nat ai, (by show 2 ≤ sizeLine; decide), fun t ht => ?_⟩
    have lt : l ≠ t := ne_of_none hL ht
    refine ⟨t, _, rfl, .inl (.inl upd_same), rfl, _, _, rfl, .ref l, rfl, .int (i : Nat), rfl, l, _, _, i, rfl, rfl, by rw [upd_ne lt]; exact hL, ixN_nat (by rw [List.length_map]; exact hi), ?_⟩
    refine ⟨_, _, rfl, .ref l, rfl, .int (j : Nat), rfl, l, _, _, j, rfl, rfl, upd_same, ixN_nat (by rw [List.length_set, List.length_map]; exact hj), rfl, ?_⟩
    refine q _ (fun b hb o ho => ?_) ?_
    · rw [upd_ne hb, upd_ne hb, upd_ne (ne_of_none ho ht)]
      exact ho
    · rw [upd_same]
      unfold xch
      rw [List.map_set, List.map_set]
end
end Sv
set_option maxHeartbeats 4000000
namespace Sv
open PySem PySem.Spec PyProof.Rows L2
def prA (ps : List Addr) (sw : List (Nat × Nat)) : List (List V) := sw.map fun ij => [V.ref (ps.getD ij.1 0), V.ref (ps.getD ij.2 0)]
theorem refs_at {ps : List Addr} {i : Nat} (h : i < ps.length) : (ps.map V.ref)[i]? = some (V.ref (ps.getD i 0)) := by
  rw [List.getElem?_map, List.getD_eq_getElem?_getD, List.getElem?_eq_getElem h]
  rfl
theorem tupsV_snocC {H : Hp} {q : Addr} {x : List V} (h : H q = some (.tup x)) : ∀ {ps : List Addr} {ts : List (List V)}, TupsV H ps ts → TupsV H (ps ++ [q]) (ts ++ [x])
  | _, _, .nil => .cons h .nil
  | _, _, .cons a t => .cons a (tupsV_snocC h t)
section
variable {P : Program} {w : World} {K : PySem.W.Frag} {mg : Str → Option Value} {base : Heap}
theorem scSwB : FnScope ["found", "parcels", "wanted", "now", "swaps", "place", "parcel", "other"] ["found", "parcels", "wanted"] (defScope sSwapsBetween) := ⟨rfl, rfl, rfl, by decide +kernel, rfl, by decide +kernel, by decide +kernel⟩
def spSwB (K : PySem.W.Frag) : Sp := fun vs H Q _ => ∃ (f l w : Addr) (ns ws : List Int) (ps : List Addr), vs = [.ref f, .ref l, .ref w] ∧ H f = some (.lst (ps.map V.ref)) ∧ H l = some (.lst (ns.map V.int)) ∧ H w = some (.lst (ws.map V.int)) ∧ ws.Perm ns ∧ ns.Nodup ∧ ns.length ≤ 900 ∧ ns.length ≤ ps.length ∧
  ∀ H' r us, Same H H' → H r = none → H' r = some (.lst (us.map V.ref)) → TupsV H' us (prA ps (swS ns ws ns.length).2) → Q (.ref r) H'
theorem ok_swB (T : Bd P K mg) : FnOk P w K mg base CX0 2 T.aSwapsBetween T.dSwapsBetween ["found", "parcels", "wanted"] (spSwB K) := by
  have GX : FnOk P w K mg base CX0 1 T.aExchange T.dExchange ["contents", "one", "other"] (spExchange K) := ok_exchange T
  refine T.SwapsBetween.F.ok scSwB (fun vs H Q E h => ?_) (fun cdv A outer s H vs Q E hr h => ?_)
  · obtain ⟨f, l, w, ns, ws, ps, rfl, _⟩ := h
    rfl
  · obtain ⟨f, l, w', ns, ws, ps, rfl, hf, hl, hw, pm, nd, nl, npl, q⟩ := h
    refine ⟨_, (pss_cons (ps_set (i := 3) scSwB.nd rfl (Or.inl rfl) (pe_callTy call_list_of (by rfl) T.bt.list b_list (pa_cons (pv 1) pa_nil)))
      (pss_cons (ps_set (i := 4) scSwB.nd rfl (Or.inl rfl) (pe_lst pa_nil))
      (pss_cons (ps_for PassesOwn.never rfl (pi_enum (by rfl) T.bt.enumerate (pa_cons (pv 2) pa_nil)) (pg_tup rfl (pgs_cons (pg_name (i := 5) scSwB.nd rfl (.inl rfl)) (pgs_cons (pg_name (i := 6) scSwB.nd rfl (.inl rfl)) pgs_nil))) (pss_one (ps_if (pt_cmpR op_ne (pe_ix ix_list (pv 3) (pv 5) (fun _ _ => rfl)) (pv 6) (nomark _)) (pss_cons (ps_set (i := 7) scSwB.nd rfl (Or.inl rfl) (pe_bm PySem.F.plainAttrs_list PySem.F.slot_list_index PySem.F.type_list_index mt_index (pv 3) (pa_cons (pv 6) pa_nil)))
      (pss_cons (ps_expr (pe_call (E := E0) GX (hr.mono (by decide)) (by rfl) T.Exchange.g T.Exchange.F.kp T.Exchange.b .nil pass0 (pa_cons (pv 3) (pa_cons (pv 5) (pa_cons (pv 7) pa_nil)))))
      (pss_one (ps_expr (pe_bm PySem.F.plainAttrs_list PySem.F.slot_list_append PySem.F.type_list_append mt_append (pv 4) (pa_cons (pe_tup (pa_cons (pe_ix ix_list (pv 0) (pv 5) (fun _ _ => rfl)) (pa_cons (pe_ix ix_list (pv 0) (pv 7) (fun _ _ => rfl)) pa_nil))) pa_nil)))))) pss_nil)))
      (pss_one (ps_ret (pv 4)))))), ?_⟩
    have wl : ws.length = ns.length := pm.length_eq
    refine ⟨.ref l, rfl, l, _, rfl, .inl (.inl (.inl hl)), fun N hN => ⟨Nat.zero_le _, fun S hS => ?_⟩⟩
    have sN := same_upd (o := .lst (ns.map V.int)) hN
    have sS := same_upd (o := .lst []) hS
    have hS0 : H S = none := Same.free sN hS
    have NS : N ≠ S := fun z => by rw [← z, upd_same] at hS; cases hS
    have sm := sN.trans sS
    have kN : (upd (upd H N (.lst (ns.map V.int))) S (.lst [])) N = some (.lst (ns.map V.int)) := by rw [upd_ne NS]; exact upd_same
    have kS : (upd (upd H N (.lst (ns.map V.int))) S (.lst [])) S = some (.lst []) := upd_same
    generalize upd (upd H N (.lst (ns.map V.int))) S (.lst []) = H1 at sm kN kS ⊢
    clear sN sS hS
    refine ⟨.ref w', rfl, w', ws.map V.int, rfl, .inl (.inl (sm _ _ hw)), for_enumL (xs := ws.map V.int) (fun i σ H' => (∃ y5 y6 y7, σ = [some (.ref f), some (.ref l), some (.ref w'), some (.ref N), some (.ref S), y5, y6, y7]) ∧ Same H H' ∧ H' N = some (.lst ((swS ns ws i).1.map V.int)) ∧ ∃ us : List Addr, H' S = some (.lst (us.map V.ref)) ∧ TupsV H' us (prA ps (swS ns ws i).2))
      ⟨⟨_, _, _, rfl⟩, sm, kN, [], kS, .nil⟩ (fun i σ H' _ h => .inl (.inl (h.2.1 _ _ hw))) (fun i y σ H' U hy ⟨⟨y5, y6, y7, es⟩, sm', kN', us, kS', tv⟩ hU => ?_) (fun σ H' ⟨⟨y5, y6, y7, es⟩, sm', kN', us, kS', tv⟩ => ?_)⟩
    · subst es
      clear sm kN kS
      obtain ⟨x, hx, rfl⟩ := iV_lt hy
      have hi := (List.getElem?_eq_some_iff.mp hx).1
      have I := swS_ok nd pm i (by omega)
      have smU : Same H' (upd H' U (.tup [.int (i : Nat), .int x])) := same_upd hU
      have s1 := sm'.trans smU
      have kN1 := smU _ _ kN'
      have kS1 := smU _ _ kS'
      have tv1 := tupsV_same smU tv
      have kU : (upd H' U (.tup [.int (i : Nat), .int x])) U = some (.tup [.int (i : Nat), .int x]) := upd_same
      generalize upd H' U (.tup [.int (i : Nat), .int x]) = H2 at s1 kN1 kS1 tv1 kU ⊢
      clear smU sm' kN' kS' tv hU hy
      have xi : ws.getD i 0 = x := by rw [List.getD_eq_getElem?_getD, hx]; rfl
      have e1 : swS ns ws (i + 1) = if (swS ns ws i).1.getD i 0 = ws.getD i 0 then ((swS ns ws i).1, (swS ns ws i).2) else (xch (swS ns ws i).1 i (ixOf (swS ns ws i).1 (ws.getD i 0)), (swS ns ws i).2 ++ [(i, ixOf (swS ns ws i).1 (ws.getD i 0))]) := rfl
      have swl : (swS ns ws i).2.length ≤ i := by have := I.cnt; omega
      have hxm : x ∈ (swS ns ws i).1 := by
        have := I.at_ i (by omega)
        rw [hx] at this
        exact List.mem_of_getElem? this
      have len := I.len
      have nd1 := I.nd
      rw [e1, xi]
      generalize (swS ns ws i).1 = l1 at *
      generalize (swS ns ws i).2 = sw at *
      have il : i < l1.length := by omega
      refine ⟨U, [.int (i : Nat), .int x], rfl, .inl (.inl kU), rfl, _, _, rfl, _, _, rfl, rfl, ?_⟩
      refine ⟨.ref N, rfl, .int (i : Nat), rfl, N, _, (i : Nat), .int (l1.getD i 0), rfl, rfl, .inl (.inl kN1), atI_nat (by rw [List.getElem?_map, getD_at il]; rfl), .int x, rfl, rfl, _, rfl, ?_⟩
      rw [int_eqV]
      by_cases e : l1.getD i 0 = x
      · rw [decide_eq_true e, if_pos e]
        exact iteF ⟨⟨_, _, _, rfl⟩, s1, kN1, us, kS1, tv1⟩
      · rw [decide_eq_false e, if_neg e]
        obtain ⟨aj, jl⟩ := ixOf_at hxm
        generalize ixOf l1 x = j at aj jl ⊢
        refine iteT ⟨.ref N, rfl, .inl ⟨rfl, _, .inl (.inl kN1)⟩, .int x, rfl, N, _, .int x, j, .int x, rfl, rfl, .inl (.inl kN1), rfl, flat_ints _, by rw [List.getElem?_map, aj]; rfl, by rw [eqV_int]; simp, fun m z hm hz => ?_, ?_⟩
        · obtain ⟨z1, hz1, rfl⟩ := iV_lt hz
          rw [eqV_int]
          refine decide_eq_false fun e2 => ?_
          rw [e2] at hz1
          have := at_one nd1 hz1 aj
          omega
        · refine ⟨.ref N, rfl, .int (i : Nat), rfl, .int (j : Nat), rfl, N, l1, i, j, rfl, kN1, il, jl, fun H3 keep k3 => ?_⟩
          have kS3 := keep S (Ne.symm NS) _ kS1
          have s3 : Same H H3 := fun b o hb => keep b (ne_of_none hb hN) _ (s1 _ _ hb)
          have tv3 : TupsV H3 us (prA ps sw) := tupsV_imp (fun b xs hb => keep b (fun z => by rw [z, kN1] at hb; cases hb) _ hb) tv1
          have ul := tupsV_len tv3
          unfold prA at ul
          rw [List.length_map] at ul
          refine ⟨.ref S, rfl, .inl ⟨rfl, _, .inl (.inl kS3)⟩, .ref f, rfl, .int (i : Nat), rfl, f, _, (i : Nat), .ref (ps.getD i 0), rfl, rfl, .inl (.inl (s3 _ _ hf)), atI_nat (refs_at (by omega)), .ref f, rfl, .int (j : Nat), rfl, f, _, (j : Nat), .ref (ps.getD j 0), rfl, rfl, .inl (.inl (s3 _ _ hf)), atI_nat (refs_at (by omega)), (by show 2 ≤ sizeLine; decide), fun t ht => ?_⟩
          have s4 := same_upd (o := .tup [.ref (ps.getD i 0), .ref (ps.getD j 0)]) ht
          have kS4 := s4 _ _ kS3
          refine ⟨S, _, _, rfl, rfl, kS4, by rw [List.length_map]; exact small1000 (by omega), ⟨_, _, _, rfl⟩, same_of (s3.trans s4) hS0, ?_, us ++ [t], ?_, ?_⟩
          · rw [upd_ne NS]
            exact s4 _ _ k3
          · rw [upd_same, List.map_append]
            rfl
          · have h9 : TupsV (upd H3 t (.tup [.ref (ps.getD i 0), .ref (ps.getD j 0)])) (us ++ [t]) (prA ps (sw ++ [(i, j)])) := by
              unfold prA
              rw [List.map_append]
              exact tupsV_snocC upd_same (tupsV_same s4 tv3)
            refine tupsV_imp (fun b xs hb => ?_) h9
            rw [upd_ne (fun z => by rw [z, kS4] at hb; cases hb)]
            exact hb
    · subst es
      rw [List.length_map, wl] at tv
      exact ⟨.ref S, rfl, q H' S us sm' hS0 kS' tv⟩
end
end Sv
set_option maxHeartbeats 4000000
namespace Sv
open PySem PySem.Spec PyProof.Rows L2
/-- what should be there ahead of the ticks -/
noncomputable def wanL (zs : List Int) (rs : List Ro) (t c : Int) (gs : List Int) : List Int := (effT rs.length zs rs t c).map fun i => gs.getD i 0
theorem eff_range {e : List Nat} (E : Eff e) : e.Perm (List.range e.length) := by
  refine (List.perm_ext_iff_of_nodup E.2 List.nodup_range).mpr fun x => ⟨fun hx => List.mem_range.mpr (E.1 x hx), fun hx => ?_⟩
  have hx' := List.mem_range.mp hx
  have h1 := ap_at (e := e) (x := ap (inv e) x) (by
    have := ap_lt (inv_eff E) (x := x) (by rw [inv_len]; exact hx')
    rwa [inv_len] at this)
  rw [ap_inv E hx'] at h1
  exact List.mem_of_getElem? h1
theorem wanL_perm {zs : List Int} {rs : List Ro} {t c : Int} {gs : List Int} (h : gs.length = rs.length + sumN zs) : (wanL zs rs t c gs).Perm gs := by
  unfold wanL
  have p := (eff_range (effT_eff rs.length zs rs t c)).map fun i => gs.getD i 0
  rw [effT_len, ← h, map_getD 0 gs] at p
  exact p
/-- a list of swaps: pairs of places -/
structure SwAt (H : Hp) (r : Addr) (sw : List (Nat × Nat)) (zs : List Int) (n : Nat) : Prop where
  ex : ∃ us ps : List Addr, H r = some (.lst (us.map V.ref)) ∧ TupsV H us (prA ps sw) ∧ TupsV H ps (placesV zs n)
theorem SwAt.same {H H' : Hp} {r : Addr} {sw : List (Nat × Nat)} {zs : List Int} {n : Nat} (h : SwAt H r sw zs n) (e : Same H H') : SwAt H' r sw zs n := by
  obtain ⟨us, ps, h1, h2, h3⟩ := h.ex
  exact ⟨us, ps, e _ _ h1, tupsV_same e h2, tupsV_same e h3⟩
noncomputable def swL (zs : List Int) (rs : List Ro) (t c : Int) (L : Lay Int) (gs : List Int) : List (Nat × Nat) := (swS (join L) (wanL zs rs t c gs) (join L).length).2
section
variable {P : Program} {w : World} {K : PySem.W.Frag} {mg : Str → Option Value} {base : Heap}
theorem scPlS : FnScope ["plan", "state", "goal", "count", "parcels", "effect", "target"] ["plan", "state", "goal", "count"] (defScope sPlanSwaps) := ⟨rfl, rfl, rfl, by decide +kernel, rfl, by decide +kernel, by decide +kernel⟩
def spPlS (K : PySem.W.Frag) (C CS CA CC : Addr) : Sp := fun vs H Q E => ∃ (p s g : Addr) (zs : List Int) (rs : List Ro) (t c : Int) (L : Lay Int) (gs : List Int), vs = [.ref p, .ref s, .ref g, .int c] ∧ PlanAt K H p zs rs ∧ Small zs rs ∧ StateAt K H s t L ∧ SqT K H g (gs.map V.int) ∧ gs.length ≤ 1000 ∧ BadE C zs rs H E ∧
  (bad zs rs = none → ¬ StOk zs rs t L → ∀ H', Same H H' → E (.ref CS) none H') ∧
  (bad zs rs = none → StOk zs rs t L → ¬ GoalOk gs (join L) → ∀ H', Same H H' → E (.ref CA) none H') ∧
  (bad zs rs = none → StOk zs rs t L → GoalOk gs (join L) → ¬ CtOk c → ∀ H', Same H H' → E (.ref CC) none H') ∧
  (bad zs rs = none → StOk zs rs t L → GoalOk gs (join L) → CtOk c → ∀ H' r, Same H H' → H r = none → SwAt H' r (swL zs rs t c L gs) zs rs.length → Q (.ref r) H')
theorem ok_plS (T : Bd P K mg) : FnOk P w K mg base (L2.CX P w) 6 T.aPlanSwaps T.dPlanSwaps ["plan", "state", "goal", "count"] (spPlS K T.C T.CS T.CAr T.CC) := by
  have GP : FnOk P w K mg base (L2.CX P w) 4 T.aCheckPlan T.dCheckPlan ["plan"] (spCheckPlan K T.C) := ok_checkPlan T
  have GS : FnOk P w K mg base (L2.CX P w) 3 T.aCheckState T.dCheckState ["plan", "state"] (spCheckState K T.CS) := ok_checkState T
  have GI : FnOk P w K mg base CX0 2 T.aParcelsIn T.dParcelsIn ["state"] (spParcelsIn K) := ok_parcelsIn T
  have GK : FnOk P w K mg base (L2.CX P w) 3 T.aCheckArr T.dCheckArr ["parcels", "goal"] (spCheckArr K T.CAr) := ok_checkArr T
  have GC : FnOk P w K mg base (L2.CX P w) 3 T.aCheckCount T.dCheckCount ["count"] (spCheckCount T.CC) := ok_checkCount T
  have GF : FnOk P w K mg base CX0 5 T.aEffectTicks T.dEffectTicks ["plan", "time", "count"] (spEffectTicks K) := ok_effectTicks T
  have GO : FnOk P w K mg base CX0 1 T.aPlacesOf T.dPlacesOf ["plan"] (spPlacesOf K) := ok_placesOf T
  have GB : FnOk P w K mg base CX0 2 T.aSwapsBetween T.dSwapsBetween ["found", "parcels", "wanted"] (spSwB K) := ok_swB T
  refine T.PlanSwaps.F.okX scPlS (fun vs H Q E h => ?_) (fun cdv A outer s H vs Q E hr h => ?_)
  · obtain ⟨p, s, g, zs, rs, t, c, L, gs, rfl, _⟩ := h
    rfl
  · obtain ⟨p, s, g, zs, rs, t, c, L, gs, rfl, hp, hs, hst, hG, gl, q1, q2, q3, q4, q5⟩ := h
    refine ⟨_, (pss_cons (ps_expr (pe_call (E := E) GP (hr.mono (by decide)) (by rfl) T.CheckPlan.g T.CheckPlan.F.kp T.CheckPlan.b .nil (passes_call (takes_of rfl rfl rfl rfl) fun _ _ _ _ h => h) (pa_cons (pv 0) pa_nil)))
      (pss_cons (ps_expr (pe_call (E := E) GS (hr.mono (by decide)) (by rfl) T.CheckState.g T.CheckState.F.kp T.CheckState.b .nil (passes_call (takes_of rfl rfl rfl rfl) fun _ _ _ _ h => h) (pa_cons (pv 0) (pa_cons (pv 1) pa_nil))))
      (pss_cons (ps_set (i := 4) scPlS.nd rfl (Or.inl rfl) (pe_call (E := E0) GI (hr.mono (by decide)) (by rfl) T.ParcelsIn.g T.ParcelsIn.F.kp T.ParcelsIn.b .nil pass0 (pa_cons (pv 1) pa_nil)))
      (pss_cons (ps_expr (pe_call (E := E) GK (hr.mono (by decide)) (by rfl) T.CheckArr.g T.CheckArr.F.kp T.CheckArr.b .nil (passes_call (takes_of rfl rfl rfl rfl) fun _ _ _ _ h => h) (pa_cons (pv 4) (pa_cons (pv 2) pa_nil))))
      (pss_cons (ps_expr (pe_call (E := E) GC (hr.mono (by decide)) (by rfl) T.CheckCount.g T.CheckCount.F.kp T.CheckCount.b .nil (passes_call (takes_of rfl rfl rfl rfl) fun _ _ _ _ h => h) (pa_cons (pv 3) pa_nil)))
      (pss_cons (ps_set (i := 5) scPlS.nd rfl (Or.inl rfl) (pe_call (E := E0) GF hr (by rfl) T.EffectTicks.g T.EffectTicks.F.kp T.EffectTicks.b .nil pass0 (pa_cons (pv 0) (pa_cons (pe_ix ix_tup (pv 1) pe_int (fun _ _ => rfl)) (pa_cons (pv 3) pa_nil)))))
      (pss_one (ps_ret (pe_call (E := E0) GB (hr.mono (by decide)) (by rfl) T.SwapsBetween.g T.SwapsBetween.F.kp T.SwapsBetween.b .nil pass0 (pa_cons (pe_call (E := E0) GO (hr.mono (by decide)) (by rfl) T.PlacesOf.g T.PlacesOf.F.kp T.PlacesOf.b .nil pass0 (pa_cons (pv 0) pa_nil)) (pa_cons (pv 4) (pa_cons (pe_lc (own := [("target", 6)]) (g := gName 6) (tt := tYes) (te := tOp (rIxT K) (tVar 2) (tVar 6)) rfl scPlS.nd (pi_tup (pv 5)) (blkOk_by (N := ["plan", "state", "goal", "count", "parcels", "effect", "target"]) (sc := defScope sPlanSwaps) (by decide +kernel)) (fun _ _ _ _ _ => pg_name (i := 6) scPlS.nd rfl (Or.inl rfl)) (fun _ _ _ _ _ => pts_nil) (fun _ _ _ _ _ => (pe_ix ix_tup (pv 2) (pv 6) (fun _ _ => rfl)))) pa_nil)))))))))))), ?_⟩
    refine ⟨.ref p, rfl, p, zs, rs, rfl, hp, hs, fun e1 H1 sm1 => ?_, q1⟩
    have hv := val_of e1
    have hn := hv.num
    refine ⟨.ref p, rfl, .ref s, rfl, p, s, zs, rs, t, L, rfl, hp.same sm1, hv, hst.same sm1, fun hok H2 sm2 => ?_, fun hno H2 sm2 => q2 e1 hno H2 (sm1.trans sm2)⟩
    have smA := sm1.trans sm2
    have jl := join_len hok.f
    refine ⟨.ref s, rfl, s, t, L, rfl, hst.same smA, by omega, fun H3 f sm3 nf kf => ?_⟩
    have smB := smA.trans sm3
    refine ⟨.ref f, rfl, .ref g, rfl, f, g, join L, gs, rfl, .inl (.inl kf), sqT_same smB hG, by omega, gl, fun hgo H4 sm4 => ?_, fun hno H4 sm4 => q3 e1 hok hno H4 (smB.trans sm4)⟩
    have smC := smB.trans sm4
    refine ⟨.int c, rfl, c, rfl, fun hc => ?_, fun hc => q4 e1 hok hgo hc H4 smC⟩
    obtain ⟨ca, sh, hs1, hL⟩ := (hst.same smC).ex
    refine ⟨.ref p, rfl, .ref s, rfl, s, _, 0, .int t, rfl, rfl, hs1, rfl, .int c, rfl, p, t, c, zs, rs, rfl, hp.same smC, hv, .inl fun H5 ef sm5 nef kef => ?_⟩
    have smD := smC.trans sm5
    refine ⟨.ref p, rfl, p, zs, rs, rfl, hp.same smD, hv.toGood, fun H6 fo sm6 nfo tlo => ?_⟩
    obtain ⟨ps, kfo, tvo⟩ := tlo.ex
    have smE := smD.trans sm6
    have kef6 := sm6 _ _ kef
    have el := effT_len rs.length zs rs t c
    have eE := effT_eff rs.length zs rs t c
    have gl2 := hgo.1
    refine ⟨.ref f, rfl, .ref ef, rfl, ef, rfl, ⟨_, .inl (.inl kef6)⟩, fun D hD => lc_tup (xs := vN (effT rs.length zs rs t c)) (fun i H' => Same H6 H' ∧ H' D = some (.lst (((wanL zs rs t c gs).take i).map V.int))) ⟨same_upd hD, upd_same⟩ (fun i H' _ h => .inl (.inl (h.1 _ _ kef6))) (fun i x H' hx ⟨sm, kD⟩ => ?_) (fun H' ⟨sm, kD⟩ => ?_)⟩
    · obtain ⟨hi, rfl⟩ := vN_lt hx
      have hlt := ap_lt eE hi
      have hgi : gs[ap (effT rs.length zs rs t c) i]? = some (gs.getD (ap (effT rs.length zs rs t c) i) 0) := getD_at (by omega)
      refine ⟨rfl, yes_go ⟨.ref g, rfl, .int (ap (effT rs.length zs rs t c) i : Nat), rfl, g, _, (ap (effT rs.length zs rs t c) i : Nat), .int (gs.getD (ap (effT rs.length zs rs t c) i) 0), rfl, rfl, sqT_same (smE.trans sm) hG, atI_nat (by rw [List.getElem?_map, hgi]; rfl), _, kD, ?_, same_of sm hD, ?_⟩⟩
      · rw [List.length_map, List.length_take]
        exact small1000 (by unfold wanL; rw [List.length_map]; omega)
      · have : (wanL zs rs t c gs)[i]? = some (gs.getD (ap (effT rs.length zs rs t c) i) 0) := by
          unfold wanL
          rw [List.getElem?_map, ap_at hi]
          rfl
        rw [upd_same, List.take_add_one, this, List.map_append]
        rfl
    · have wll : (vN (effT rs.length zs rs t c)).length = (wanL zs rs t c gs).length := by unfold wanL; rw [vN_len, List.length_map]
      rw [wll, List.take_length] at kD
      have kf9 := sm _ _ (sm6 _ _ (sm5 _ _ (sm4 _ _ kf)))
      have pl := placesV_len zs rs.length fun z hz => (hv.z2 z hz).1
      have tl := tupsV_len tvo
      refine ⟨fo, f, D, join L, wanL zs rs t c gs, ps, rfl, sm _ _ kfo, kf9, kD, (wanL_perm (by rw [gl2, jl])).trans hgo.2.2, hok.p.2, by omega, by omega, fun H9 r us sm9 nr kr tv => ?_⟩
      exact q5 e1 hok hgo hc H9 r (smE.trans (sm.trans sm9)) (Same.free smE (Same.free sm nr)) ⟨us, ps, kr, tv, tupsV_same (sm.trans sm9) tvo⟩
theorem scFew : FnScope ["plan", "state", "goal", "count"] ["plan", "state", "goal", "count"] (defScope sFewest) := ⟨rfl, rfl, rfl, by decide +kernel, rfl, by decide +kernel, by decide +kernel⟩
def spFew (K : PySem.W.Frag) (C CS CA CC : Addr) : Sp := fun vs H Q E => ∃ (p s g : Addr) (zs : List Int) (rs : List Ro) (t c : Int) (L : Lay Int) (gs : List Int), vs = [.ref p, .ref s, .ref g, .int c] ∧ PlanAt K H p zs rs ∧ Small zs rs ∧ StateAt K H s t L ∧ SqT K H g (gs.map V.int) ∧ gs.length ≤ 1000 ∧ BadE C zs rs H E ∧
  (bad zs rs = none → ¬ StOk zs rs t L → ∀ H', Same H H' → E (.ref CS) none H') ∧
  (bad zs rs = none → StOk zs rs t L → ¬ GoalOk gs (join L) → ∀ H', Same H H' → E (.ref CA) none H') ∧
  (bad zs rs = none → StOk zs rs t L → GoalOk gs (join L) → ¬ CtOk c → ∀ H', Same H H' → E (.ref CC) none H') ∧
  (bad zs rs = none → StOk zs rs t L → GoalOk gs (join L) → CtOk c → ∀ H', Same H H' → Q (.int ((swL zs rs t c L gs).length : Nat)) H')
theorem ok_few (T : Bd P K mg) : FnOk P w K mg base (L2.CX P w) 7 T.aFewest T.dFewest ["plan", "state", "goal", "count"] (spFew K T.C T.CS T.CAr T.CC) := by
  have GP : FnOk P w K mg base (L2.CX P w) 6 T.aPlanSwaps T.dPlanSwaps ["plan", "state", "goal", "count"] (spPlS K T.C T.CS T.CAr T.CC) := ok_plS T
  refine T.Fewest.F.okX scFew (fun vs H Q E h => ?_) (fun cdv A outer s H vs Q E hr h => ?_)
  · obtain ⟨p, s, g, zs, rs, t, c, L, gs, rfl, _⟩ := h
    rfl
  · obtain ⟨p, s, g, zs, rs, t, c, L, gs, rfl, hp, hs, hst, hG, gl, q1, q2, q3, q4, q5⟩ := h
    refine ⟨_, (pss_one (ps_ret (pe_callB call_len_seq (by rfl) T.bt.len b_len (pa_cons (pe_call (E := E) GP (hr.mono (by decide)) (by rfl) T.PlanSwaps.g T.PlanSwaps.F.kp T.PlanSwaps.b .nil (passes_call (takes_of rfl rfl rfl rfl) fun _ _ _ _ h => h) (pa_cons (pv 0) (pa_cons (pv 1) (pa_cons (pv 2) (pa_cons (pv 3) pa_nil))))) pa_nil)))), ?_⟩
    refine ⟨.ref p, rfl, .ref s, rfl, .ref g, rfl, .int c, rfl, p, s, g, zs, rs, t, c, L, gs, rfl, hp, hs, hst, hG, gl, q1, q2, q3, q4, fun e1 hok hgo hc H1 r sm nr sw => ?_⟩
    obtain ⟨us, ps, kr, tv, _⟩ := sw.ex
    have ul := tupsV_len tv
    unfold prA at ul
    rw [List.length_map] at ul
    refine ⟨r, _, rfl, .inl (.inl (.inl kr)), ?_⟩
    rw [List.length_map, ul]
    exact q5 e1 hok hgo hc H1 sm
end
end Sv
set_option maxHeartbeats 4000000
namespace Sv
open PySem PySem.Spec PyProof.Rows L2
/-- the swaps carried out -/
def runO (l : List Int) (os : List (Option (Nat × Nat))) : List Int := os.foldl (fun l o => match o with | some ij => xch l ij.1 ij.2 | none => l) l
theorem runO_snoc (l : List Int) (os : List (Option (Nat × Nat))) (i j : Nat) : runO l (os ++ [some (i, j)]) = xch (runO l os) i j := by
  unfold runO
  rw [List.foldl_append]
  rfl
theorem runO_len (l : List Int) : ∀ os : List (Option (Nat × Nat)), (runO l os).length = l.length := fun os => by
  unfold runO
  induction os generalizing l with
  | nil => rfl
  | cons o os ih =>
    rw [List.foldl_cons, ih]
    cases o with
    | none => rfl
    | some ij => exact xch_len ..
/-- a value that should be a swap: the numbers of its places, or none -/
def SwV (K : PySem.W.Frag) (H : Hp) (ts : List (List V)) (v : V) : Option (Nat × Nat) → Prop
  | some ij => ∃ (u a b : Addr) (pa pb : List V), v = .ref u ∧ SqT K H u [.ref a, .ref b] ∧ SqT K H a pa ∧ SqT K H b pb ∧ ts[ij.1]? = some pa ∧ ts[ij.2]? = some pb ∧ pa ≠ pb
  | none => (v = .non ∨ (∃ (a : Addr) (xs : List V), v = .ref a ∧ SqL K H a xs) ∨ ∃ (a : Addr) (xs : List V), v = .ref a ∧ SqT K H a xs ∧ xs.length ≠ 2) ∨
    ∃ (u a b : Addr) (pa pb : List V), v = .ref u ∧ SqT K H u [.ref a, .ref b] ∧ SqT K H a pa ∧ SqT K H b pb ∧ FlP pa ∧ FlP pb ∧ ¬ (pa ∈ ts ∧ pb ∈ ts ∧ pa ≠ pb)
theorem sqL_same2 {K : PySem.W.Frag} {H H' : Hp} (e : Same H H') {a : Addr} {xs : List V} (h : SqL K H a xs) : SqL K H' a xs := by
  rcases h with (z | ⟨o, z⟩) | z
  · exact .inl (.inl (e _ _ z))
  · exact .inl (.inr ⟨o, e _ _ z⟩)
  · exact .inr z
theorem SwV.same {K : PySem.W.Frag} {H H' : Hp} (e : Same H H') {ts : List (List V)} {v : V} : ∀ {o : Option (Nat × Nat)}, SwV K H ts v o → SwV K H' ts v o
  | some ij, ⟨u, a, b, pa, pb, h1, h2, h3, h4, h5⟩ => ⟨u, a, b, pa, pb, h1, sqT_same e h2, sqT_same e h3, sqT_same e h4, h5⟩
  | none, h => by
    rcases h with (h | ⟨a, xs, h1, h2⟩ | ⟨a, xs, h1, h2, h3⟩) | ⟨u, a, b, pa, pb, h1, h2, h3, h4, h5⟩
    · exact .inl (.inl h)
    · exact .inl (.inr (.inl ⟨a, xs, h1, sqL_same2 e h2⟩))
    · exact .inl (.inr (.inr ⟨a, xs, h1, sqT_same e h2, h3⟩))
    · exact .inr ⟨u, a, b, pa, pb, h1, sqT_same e h2, sqT_same e h3, sqT_same e h4, h5⟩
theorem neP_go {K : PySem.W.Frag} {H : Hp} {a b : Addr} {pa pb : List V} {Q : VK} (ha : SqT K H a pa) (hb : SqT K H b pb) (fa : FlP pa) (fb : FlP pb) (q : Q (.bl (!decide (pa = pb))) H) : qNe K (.ref a) (.ref b) H Q := by
  have d1 : Dp K H (.ref a) (dPl pa) := .tup ha (dpAll_fl fa.f)
  have d2 : Dp K H (.ref b) (dPl pb) := .tup hb (dpAll_fl fb.f)
  by_cases e : pa = pb
  · rw [decide_eq_true e] at q
    subst e
    exact ne_same d1 d2 fa.pld (fa.okd 0) (by decide) q
  · rw [decide_eq_false e] at q
    exact ne_diff d1 d2 fa.pld fb.pld (fa.okd 0) (fb.okd 0) (by decide) (by decide) (fun z => e (FlP.inj fa fb z)) q
section
variable {P : Program} {w : World} {K : PySem.W.Frag} {mg : Str → Option Value} {base : Heap}
def spTupOfN (K : PySem.W.Frag) : Sp := fun vs H Q _ => ∃ (v : V) (n : Int), vs = [v, .int n] ∧ (v = .non ∨ ∃ (a : Addr) (xs : List V), v = .ref a ∧ SqL K H a xs) ∧ Q (.bl false) H
theorem ok_tupOfN (T : Bd P K mg) : FnOk P w K mg base CX0 1 T.aTupOf T.dTupOf ["row", "length"] (spTupOfN K) := by
  refine T.TupOf.F.ok scTupOf (fun vs H Q E h => ?_) (fun cdv A outer s H vs Q E hr h => ?_)
  · obtain ⟨v, n, rfl, _⟩ := h
    rfl
  · obtain ⟨v, n, rfl, hv, q⟩ := h
    refine ⟨_, pss_one (ps_ret (pe_and (pe_callB call_isi (by rfl) T.bt.isinstance b_isinstance (pa_cons (pv 0) (pa_cons (pe_ty (by rfl) T.bt.tuple b_tuple) pa_nil)))
      (pe_one (pe_cmpR op_eq (pe_callB call_len_seq (by rfl) T.bt.len b_len (pa_cons (pv 0) pa_nil)) (pv 1) (nomark _))))), ?_⟩
    rcases hv with rfl | ⟨a, xs, rfl, hA⟩
    · refine ⟨.non, rfl, .non, .ty "tuple", _, _, false, rfl, .ty "tuple", .base .non, kit_ty (by decide +kernel), false, rfl, ?_⟩
      rw [if_neg (by decide)]
      exact q
    · refine ⟨.ref a, rfl, .ref a, .ty "tuple", _, _, false, rfl, .ty "tuple", tyx_lst hA, kit_ty (by decide +kernel), false, rfl, ?_⟩
      rw [if_neg (by decide)]
      exact q
theorem scIsSw : FnScope ["found", "swap", "one", "other"] ["found", "swap"] (defScope sIsSwap) := ⟨rfl, rfl, rfl, by decide +kernel, rfl, by decide +kernel, by decide +kernel⟩
def spIsSw (K : PySem.W.Frag) : Sp := fun vs H Q _ => ∃ (f : Addr) (ts : List (List V)) (v : V) (o : Option (Nat × Nat)), vs = [.ref f, v] ∧ PlsAt H f ts ∧ (∀ t ∈ ts, FlP t) ∧ ts.length ≤ 1000 ∧ SwV K H ts v o ∧ Q (.bl o.isSome) H
theorem ok_isSw (T : Bd P K mg) : FnOk P w K mg base CX0 3 T.aIsSwap T.dIsSwap ["found", "swap"] (spIsSw K) := by
  have GP : FnOk P w K mg base CX0 2 T.aIsPlace T.dIsPlace ["found", "place"] (spIsPlace K) := ok_isPlace T
  have GT : FnOk P w K mg base CX0 1 T.aTupOf T.dTupOf ["row", "length"] (spTupOf K) := ok_tupOf T
  have GN : FnOk P w K mg base CX0 1 T.aTupOf T.dTupOf ["row", "length"] (spTupOfN K) := ok_tupOfN T
  refine T.IsSwap.F.ok scIsSw (fun vs H Q E h => ?_) (fun cdv A outer s H vs Q E hr h => ?_)
  · obtain ⟨f, ts, v, o, rfl, _⟩ := h
    rfl
  · obtain ⟨f, ts, v, o, rfl, hf, hts, htl, hv, q⟩ := h
    have pair : ∀ (u a b : Addr) (pa pb : List V), v = .ref u → SqT K H u [.ref a, .ref b] → SqT K H a pa → SqT K H b pb → FlP pa → FlP pb → Q (.bl (decide (pa ∈ ts ∧ pb ∈ ts ∧ pa ≠ pb))) H →
        ∃ t, PSs (cxOf CX0 P w K mg base ["found", "swap", "one", "other"] "is_swap" (defScope sIsSwap) T.aIsSwap cdv A outer s H E).nox (defBody sIsSwap) t ∧ t { nx := fun _ H' => Q .non H', rt := Q } (start ["found", "swap", "one", "other"] [.ref f, v]) H := fun u a b pa pb ev hu ha hb fa fb q => by
      subst ev
      refine ⟨_, (pss_cons (ps_if (pt_not (pt_val (pe_call (E := E0) GT (hr.mono (by decide)) (by rfl) T.TupOf.g T.TupOf.F.kp T.TupOf.b .nil pass0 (pa_cons (pv 1) (pa_cons pe_int pa_nil))))) (pss_one (ps_ret pe_bl)) pss_nil)
      (pss_cons (ps_asg (pv 1) (pg_tup rfl (pgs_cons (pg_name (i := 2) scIsSw.nd rfl (.inl rfl)) (pgs_cons (pg_name (i := 3) scIsSw.nd rfl (.inl rfl)) pgs_nil))))
      (pss_one (ps_ret (pe_and (pe_call (E := E0) GP (hr.mono (by decide)) (by rfl) T.IsPlace.g T.IsPlace.F.kp T.IsPlace.b .nil pass0 (pa_cons (pv 0) (pa_cons (pv 2) pa_nil))) (pe_and (pe_call (E := E0) GP (hr.mono (by decide)) (by rfl) T.IsPlace.g T.IsPlace.F.kp T.IsPlace.b .nil pass0 (pa_cons (pv 0) (pa_cons (pv 3) pa_nil))) (pe_one (pe_cmpR (op_neQ hr.units) (pv 2) (pv 3) (nomark _))))))))), ?_⟩
      refine ⟨.ref u, rfl, u, 2, _, rfl, hu, _, rfl, iteF ?_⟩
      refine ⟨.ref u, rfl, u, _, rfl, hu, rfl, _, _, rfl, _, _, rfl, rfl, ?_⟩
      refine ⟨.ref f, rfl, .ref a, rfl, f, a, ts, pa, rfl, hf, hts, htl, ha, fa, _, rfl, ?_⟩
      by_cases h1 : pa ∈ ts
      · rw [decide_eq_true h1]
        refine iteT ⟨.ref f, rfl, .ref b, rfl, f, b, ts, pb, rfl, hf, hts, htl, hb, fb, _, rfl, ?_⟩
        by_cases h2 : pb ∈ ts
        · rw [decide_eq_true h2]
          refine iteT ⟨.ref a, rfl, .ref b, rfl, ?_⟩
          refine neP_go ha hb fa fb ?_
          have e : decide (pa ∈ ts ∧ pb ∈ ts ∧ pa ≠ pb) = !decide (pa = pb) := by
            by_cases h3 : pa = pb
            · rw [decide_eq_true h3, decide_eq_false fun z => z.2.2 h3]; rfl
            · rw [decide_eq_false h3, decide_eq_true ⟨h1, h2, h3⟩]; rfl
          rw [← e]
          exact q
        · rw [decide_eq_false h2]
          rw [decide_eq_false fun z => h2 z.2.1] at q
          exact iteF q
      · rw [decide_eq_false h1]
        rw [decide_eq_false fun z => h1 z.1] at q
        exact iteF q
    cases o with
    | some ij =>
      obtain ⟨u, a, b, pa, pb, ev, hu, ha, hb, e1, e2, ne⟩ := hv
      have m1 := List.mem_of_getElem? e1
      have m2 := List.mem_of_getElem? e2
      exact pair u a b pa pb ev hu ha hb (hts _ m1) (hts _ m2) (by rw [decide_eq_true ⟨m1, m2, ne⟩]; exact q)
    | none =>
      rcases hv with (rfl | ⟨a, xs, rfl, hA⟩ | ⟨a, xs, rfl, hA, hx⟩) | ⟨u, a, b, pa, pb, ev, hu, ha, hb, fa, fb, hn⟩
      · refine ⟨_, (pss_cons (ps_if (pt_not (pt_val (pe_call (E := E0) GN (hr.mono (by decide)) (by rfl) T.TupOf.g T.TupOf.F.kp T.TupOf.b .nil pass0 (pa_cons (pv 1) (pa_cons pe_int pa_nil))))) (pss_one (ps_ret pe_bl)) pss_nil)
      (pss_cons (ps_asg (pv 1) (pg_tup rfl (pgs_cons (pg_name (i := 2) scIsSw.nd rfl (.inl rfl)) (pgs_cons (pg_name (i := 3) scIsSw.nd rfl (.inl rfl)) pgs_nil))))
      (pss_one (ps_ret (pe_and (pe_call (E := E0) GP (hr.mono (by decide)) (by rfl) T.IsPlace.g T.IsPlace.F.kp T.IsPlace.b .nil pass0 (pa_cons (pv 0) (pa_cons (pv 2) pa_nil))) (pe_and (pe_call (E := E0) GP (hr.mono (by decide)) (by rfl) T.IsPlace.g T.IsPlace.F.kp T.IsPlace.b .nil pass0 (pa_cons (pv 0) (pa_cons (pv 3) pa_nil))) (pe_one (pe_cmpR (op_neQ hr.units) (pv 2) (pv 3) (nomark _))))))))), ?_⟩
        exact ⟨.non, rfl, .non, 2, rfl, .inl rfl, _, rfl, iteT q⟩
      · refine ⟨_, (pss_cons (ps_if (pt_not (pt_val (pe_call (E := E0) GN (hr.mono (by decide)) (by rfl) T.TupOf.g T.TupOf.F.kp T.TupOf.b .nil pass0 (pa_cons (pv 1) (pa_cons pe_int pa_nil))))) (pss_one (ps_ret pe_bl)) pss_nil)
      (pss_cons (ps_asg (pv 1) (pg_tup rfl (pgs_cons (pg_name (i := 2) scIsSw.nd rfl (.inl rfl)) (pgs_cons (pg_name (i := 3) scIsSw.nd rfl (.inl rfl)) pgs_nil))))
      (pss_one (ps_ret (pe_and (pe_call (E := E0) GP (hr.mono (by decide)) (by rfl) T.IsPlace.g T.IsPlace.F.kp T.IsPlace.b .nil pass0 (pa_cons (pv 0) (pa_cons (pv 2) pa_nil))) (pe_and (pe_call (E := E0) GP (hr.mono (by decide)) (by rfl) T.IsPlace.g T.IsPlace.F.kp T.IsPlace.b .nil pass0 (pa_cons (pv 0) (pa_cons (pv 3) pa_nil))) (pe_one (pe_cmpR (op_neQ hr.units) (pv 2) (pv 3) (nomark _))))))))), ?_⟩
        exact ⟨.ref a, rfl, .ref a, 2, rfl, .inr ⟨a, xs, rfl, hA⟩, _, rfl, iteT q⟩
      · refine ⟨_, (pss_cons (ps_if (pt_not (pt_val (pe_call (E := E0) GT (hr.mono (by decide)) (by rfl) T.TupOf.g T.TupOf.F.kp T.TupOf.b .nil pass0 (pa_cons (pv 1) (pa_cons pe_int pa_nil))))) (pss_one (ps_ret pe_bl)) pss_nil)
      (pss_cons (ps_asg (pv 1) (pg_tup rfl (pgs_cons (pg_name (i := 2) scIsSw.nd rfl (.inl rfl)) (pgs_cons (pg_name (i := 3) scIsSw.nd rfl (.inl rfl)) pgs_nil))))
      (pss_one (ps_ret (pe_and (pe_call (E := E0) GP (hr.mono (by decide)) (by rfl) T.IsPlace.g T.IsPlace.F.kp T.IsPlace.b .nil pass0 (pa_cons (pv 0) (pa_cons (pv 2) pa_nil))) (pe_and (pe_call (E := E0) GP (hr.mono (by decide)) (by rfl) T.IsPlace.g T.IsPlace.F.kp T.IsPlace.b .nil pass0 (pa_cons (pv 0) (pa_cons (pv 3) pa_nil))) (pe_one (pe_cmpR (op_neQ hr.units) (pv 2) (pv 3) (nomark _))))))))), ?_⟩
        refine ⟨.ref a, rfl, a, 2, xs, rfl, hA, _, rfl, ?_⟩
        rw [decide_eq_false (by omega)]
        exact iteT q
      · exact pair u a b pa pb ev hu ha hb fa fb (by rw [decide_eq_false hn]; exact q)
end
end Sv
set_option maxHeartbeats 4000000
namespace Sv
open PySem PySem.Spec PyProof.Rows L2
section
variable {P : Program} {w : World} {K : PySem.W.Frag} {mg : Str → Option Value} {base : Heap}
theorem pl_index {H : Hp} {f a : Addr} {zs : List Int} {n i : Nat} {ps : List Addr} {pl : List V} (hf : H f = some (.lst (ps.map V.ref))) (tv : TupsV H ps (placesV zs n)) (hl : (placesV zs n).length ≤ 1000) (ha : SqT K H a pl) (hi : (placesV zs n)[i]? = some pl) :
    Dp K H (.ref f) (.list ((placesV zs n).map dPl)) ∧ Dp K H (.ref a) (dPl pl) ∧ SeqAt.shaped (.list ((placesV zs n).map dPl)) = true ∧ SeqAt.shaped (dPl pl) = true ∧ ((placesV zs n).map dPl)[i]? = some (dPl pl) ∧ PyData.eqv (dPl pl) (dPl pl) = true ∧ ∀ (m : Nat) (z : PyData), m < i → ((placesV zs n).map dPl)[m]? = some z → PyData.eqv z (dPl pl) = false := by
  have hIs : ∀ t ∈ placesV zs n, FlP t := placesV_flP
  have hpl := hIs pl (List.mem_of_getElem? hi)
  refine ⟨.lst (.inl (.inl hf)) (dpAll_tups (fun t ht => (hIs t ht).f) tv), .tup ha (dpAll_fl hpl.f), flPs_sh hIs hl, hpl.sh, by rw [List.getElem?_map, hi]; rfl, (FlP.eqv hpl hpl).mpr rfl, fun m z hm hz => ?_⟩
  rw [List.getElem?_map] at hz
  cases hz2 : (placesV zs n)[m]? with
  | none => rw [hz2] at hz; cases hz
  | some pm =>
    rw [hz2] at hz
    obtain rfl := Option.some.inj hz
    have mm := List.mem_of_getElem? hz2
    cases e : PyData.eqv (dPl pm) (dPl pl) with
    | false => rfl
    | true =>
      have e3 := (FlP.eqv (hIs pm mm) hpl).mp e
      rw [e3] at hz2
      have := places_ix hz2 hi
      omega
theorem scSwA : FnScope ["plan", "state", "swaps", "found", "parcels", "index", "swap"] ["plan", "state", "swaps"] (defScope sSwapAll) := ⟨rfl, rfl, rfl, by decide +kernel, rfl, by decide +kernel, by decide +kernel⟩
def spSwA (K : PySem.W.Frag) (C CS CW : Addr) : Sp := fun vs H Q E => ∃ (p s r : Addr) (zs : List Int) (rs : List Ro) (t : Int) (L : Lay Int) (xs : List V) (os : List (Option (Nat × Nat))), vs = [.ref p, .ref s, .ref r] ∧ PlanAt K H p zs rs ∧ Small zs rs ∧ StateAt K H s t L ∧ H r = some (.lst xs) ∧ xs.length ≤ 1000 ∧ os.length = xs.length ∧ BadE C zs rs H E ∧
  (bad zs rs = none → ¬ StOk zs rs t L → ∀ H', Same H H' → E (.ref CS) none H') ∧
  (bad zs rs = none → StOk zs rs t L → (∀ (i : Nat) (v : V) (o : Option (Nat × Nat)), xs[i]? = some v → os[i]? = some o → SwV K H (placesV zs rs.length) v o) ∧
    (∀ k : Nat, os[k]? = some none → (∀ j : Nat, j < k → os[j]? ≠ some none) → SwapE CW H (k : Nat) E) ∧
    ((∀ o ∈ os, o ≠ none) → NewSt K H t (spl rs.length zs (runO (join L) os)) Q))
theorem ok_swA (T : Bd P K mg) : FnOk P w K mg base (L2.CX P w) 5 T.aSwapAll T.dSwapAll ["plan", "state", "swaps"] (spSwA K T.C T.CS T.CSw) := by
  have GP : FnOk P w K mg base (L2.CX P w) 4 T.aCheckPlan T.dCheckPlan ["plan"] (spCheckPlan K T.C) := ok_checkPlan T
  have GS : FnOk P w K mg base (L2.CX P w) 3 T.aCheckState T.dCheckState ["plan", "state"] (spCheckState K T.CS) := ok_checkState T
  have GO : FnOk P w K mg base CX0 1 T.aPlacesOf T.dPlacesOf ["plan"] (spPlacesOf K) := ok_placesOf T
  have GI : FnOk P w K mg base CX0 2 T.aParcelsIn T.dParcelsIn ["state"] (spParcelsIn K) := ok_parcelsIn T
  have GW : FnOk P w K mg base CX0 3 T.aIsSwap T.dIsSwap ["found", "swap"] (spIsSw K) := ok_isSw T
  have GX : FnOk P w K mg base CX0 1 T.aExchange T.dExchange ["contents", "one", "other"] (spExchange K) := ok_exchange T
  have GZ : FnOk P w K mg base CX0 2 T.aStateOf T.dStateOf ["plan", "time", "parcels"] (spStateOf K) := ok_stateOf T
  refine T.SwapAll.F.okX scSwA (fun vs H Q E h => ?_) (fun cdv A outer s H vs Q E hr h => ?_)
  · obtain ⟨p, s, r, zs, rs, t, L, xs, os, rfl, _⟩ := h
    rfl
  · obtain ⟨p, s, r, zs, rs, t, L, xs, os, rfl, hp, hs, hst, hx, xl, ol, q1, q2, q3⟩ := h
    refine ⟨_, (pss_cons (ps_expr (pe_call (E := E) GP (hr.mono (by decide)) (by rfl) T.CheckPlan.g T.CheckPlan.F.kp T.CheckPlan.b .nil (passes_call (takes_of rfl rfl rfl rfl) fun _ _ _ _ h => h) (pa_cons (pv 0) pa_nil)))
      (pss_cons (ps_expr (pe_call (E := E) GS (hr.mono (by decide)) (by rfl) T.CheckState.g T.CheckState.F.kp T.CheckState.b .nil (passes_call (takes_of rfl rfl rfl rfl) fun _ _ _ _ h => h) (pa_cons (pv 0) (pa_cons (pv 1) pa_nil))))
      (pss_cons (ps_set (i := 3) scSwA.nd rfl (Or.inl rfl) (pe_call (E := E0) GO (hr.mono (by decide)) (by rfl) T.PlacesOf.g T.PlacesOf.F.kp T.PlacesOf.b .nil pass0 (pa_cons (pv 0) pa_nil)))
      (pss_cons (ps_set (i := 4) scSwA.nd rfl (Or.inl rfl) (pe_call (E := E0) GI (hr.mono (by decide)) (by rfl) T.ParcelsIn.g T.ParcelsIn.F.kp T.ParcelsIn.b .nil pass0 (pa_cons (pv 1) pa_nil)))
      (pss_cons (ps_for (passes_of rfl) rfl (pi_enum (by rfl) T.bt.enumerate (pa_cons (pv 2) pa_nil)) (pg_tup rfl (pgs_cons (pg_name (i := 5) scSwA.nd rfl (.inl rfl)) (pgs_cons (pg_name (i := 6) scSwA.nd rfl (.inl rfl)) pgs_nil))) (pss_cons (ps_if (pt_not (pt_val (pe_call (E := E0) GW (hr.mono (by decide)) (by rfl) T.IsSwap.g T.IsSwap.F.kp T.IsSwap.b .nil pass0 (pa_cons (pv 3) (pa_cons (pv 6) pa_nil))))) (pss_one (ps_raise rfl (takes_of rfl rfl rfl rfl) (pmk_swap T.sw (hr.mono (by decide)) (by rfl) (pv 5)))) pss_nil)
      (pss_one (ps_expr (pe_call (E := E0) GX (hr.mono (by decide)) (by rfl) T.Exchange.g T.Exchange.F.kp T.Exchange.b .nil pass0 (pa_cons (pv 4) (pa_cons (pe_bm PySem.F.plainAttrs_list PySem.F.slot_list_index PySem.F.type_list_index (mt_indexD (room65 hr)) (pv 3) (pa_cons (pe_ix ix_tup (pv 6) pe_int (fun _ _ => rfl)) pa_nil)) (pa_cons (pe_bm PySem.F.plainAttrs_list PySem.F.slot_list_index PySem.F.type_list_index (mt_indexD (room65 hr)) (pv 3) (pa_cons (pe_ix ix_tup (pv 6) pe_int (fun _ _ => rfl)) pa_nil)) pa_nil))))))))
      (pss_one (ps_ret (pe_call (E := E0) GZ (hr.mono (by decide)) (by rfl) T.StateOf.g T.StateOf.F.kp T.StateOf.b .nil pass0 (pa_cons (pv 0) (pa_cons (pe_ix ix_tup (pv 1) pe_int (fun _ _ => rfl)) (pa_cons (pv 4) pa_nil))))))))))), ?_⟩
    refine ⟨.ref p, rfl, p, zs, rs, rfl, hp, hs, fun e1 H1 sm1 => ?_, q1⟩
    have hv := val_of e1
    have hn := hv.num
    refine ⟨.ref p, rfl, .ref s, rfl, p, s, zs, rs, t, L, rfl, hp.same sm1, hv, hst.same sm1, fun hok H2 sm2 => ?_, fun hno H2 sm2 => q2 e1 hno H2 (sm1.trans sm2)⟩
    have smA := sm1.trans sm2
    have jl := join_len hok.f
    obtain ⟨q4, q5, q6⟩ := q3 e1 hok
    have pln := placesV_len zs rs.length fun z hz => (hv.z2 z hz).1
    refine ⟨.ref p, rfl, p, zs, rs, rfl, hp.same smA, hv.toGood, fun H3 f sm3 nf tl => ?_⟩
    obtain ⟨ps, kf, tv⟩ := tl.ex
    have smB := smA.trans sm3
    refine ⟨.ref s, rfl, s, t, L, rfl, hst.same smB, by omega, fun H4 g sm4 ng kg => ?_⟩
    have smC := smB.trans sm4
    have hg0 : H g = none := Same.free smB ng
    have fg : f ≠ g := ne_of_none kf ng
    have kf4 := sm4 _ _ kf
    have tv4 := tupsV_same sm4 tv
    refine ⟨.ref r, rfl, r, xs, rfl, .inl (.inl (smC _ _ hx)), for_enumL (xs := xs) (fun i σ H' => (∃ y5 y6, σ = [some (.ref p), some (.ref s), some (.ref r), some (.ref f), some (.ref g), y5, y6]) ∧ Same H H' ∧ H' f = some (.lst (ps.map V.ref)) ∧ TupsV H' ps (placesV zs rs.length) ∧ H' g = some (.lst ((runO (join L) (os.take i)).map V.int)) ∧ ∀ j, j < i → os[j]? ≠ some none)
      ⟨⟨_, _, rfl⟩, smC, kf4, tv4, kg, fun j hj => absurd hj (Nat.not_lt_zero _)⟩ (fun i σ H' _ h => .inl (.inl (h.2.1 _ _ hx))) (fun i v σ H' U hvx ⟨⟨y5, y6, es⟩, sm, kf', tv', kg', hno⟩ hU => ?_) (fun σ H' ⟨⟨y5, y6, es⟩, sm, kf', tv', kg', hno⟩ => ?_)⟩
    · subst es
      have hi := (List.getElem?_eq_some_iff.mp hvx).1
      obtain ⟨o, ho⟩ : ∃ o, os[i]? = some o := ⟨_, List.getElem?_eq_getElem (by omega)⟩
      have hsw := q4 i v o hvx ho
      have smU : Same H' (upd H' U (.tup [.int (i : Nat), v])) := same_upd hU
      have s1 := sm.trans smU
      have kf1 := smU _ _ kf'
      have kg1 := smU _ _ kg'
      have tv1 := tupsV_same smU tv'
      have kU : (upd H' U (.tup [.int (i : Nat), v])) U = some (.tup [.int (i : Nat), v]) := upd_same
      generalize upd H' U (.tup [.int (i : Nat), v]) = H5 at s1 kf1 kg1 tv1 kU ⊢
      clear smU sm kf' kg' tv' hU
      refine ⟨U, [.int (i : Nat), v], rfl, .inl (.inl kU), rfl, _, _, rfl, _, _, rfl, rfl, ?_⟩
      have hsw5 := hsw.same s1
      refine ⟨.ref f, rfl, v, rfl, f, placesV zs rs.length, v, o, rfl, ⟨ps, kf1, tv1⟩, placesV_flP, by omega, hsw5, _, rfl, ?_⟩
      cases o with
      | none => exact iteT ⟨.int (i : Nat), rfl, mkS_go (small_idx (by omega)) ((q5 i ho hno).imp s1)⟩
      | some ij =>
        obtain ⟨i1, j1⟩ := ij
        obtain ⟨u, a, b, pa, pb, rfl, hu, ha, hb, ei, ej, ne⟩ := hsw5
        have ei : (placesV zs rs.length)[i1]? = some pa := ei
        have ej : (placesV zs rs.length)[j1]? = some pb := ej
        have il := (List.getElem?_eq_some_iff.mp ei).1
        have jl2 := (List.getElem?_eq_some_iff.mp ej).1
        have rl := runO_len (join L) (os.take i)
        obtain ⟨d1, d2, d3, d4, d5, d6, d7⟩ := pl_index (K := K) kf1 tv1 (by omega) ha ei
        obtain ⟨c1, c2, c3, c4, c5, c6, c7⟩ := pl_index (K := K) kf1 tv1 (by omega) hb ej
        refine iteF ⟨.ref g, rfl, .ref f, rfl, .inl ⟨rfl, _, .inl (.inl kf1)⟩, .ref u, rfl, u, _, 0, .ref a, rfl, rfl, hu, rfl, f, .ref a, dPl pa, _, i1, dPl pa, rfl, rfl, d1, d2, d3, d4, d5, d6, d7, .ref f, rfl, .inl ⟨rfl, _, .inl (.inl kf1)⟩, .ref u, rfl, u, _, 1, .ref b, rfl, rfl, hu, rfl, f, .ref b, dPl pb, _, j1, dPl pb, rfl, rfl, c1, c2, c3, c4, c5, c6, c7, ?_⟩
        refine ⟨g, runO (join L) (os.take i), i1, j1, rfl, kg1, by omega, by omega, fun H6 keep k6 => ?_⟩
        refine ⟨⟨_, _, rfl⟩, fun b o hb => keep b (ne_of_none hb hg0) _ (s1 _ _ hb), keep f fg _ kf1, tupsV_imp (fun b xs hb => keep b (fun z => by rw [z, kg1] at hb; cases hb) _ hb) tv1, ?_, fun j hj => ?_⟩
        · rw [List.take_add_one, ho]
          show _ = some (HO.lst ((runO (join L) (os.take i ++ [some (i1, j1)])).map V.int))
          rw [runO_snoc]
          exact k6
        · by_cases hji : j = i
          · rw [hji, ho]
            exact fun z => nomatch z
          · exact hno j (by omega)
    · subst es
      rw [← ol, List.take_length] at kg'
      have all : ∀ o ∈ os, o ≠ none := fun o ho z => by
        obtain ⟨j, hj⟩ := List.mem_iff_getElem?.mp ho
        rw [z] at hj
        exact hno j (by rw [← ol]; exact (List.getElem?_eq_some_iff.mp hj).1) hj
      obtain ⟨ca, sh, hs1, hL⟩ := (hst.same sm).ex
      refine ⟨.ref p, rfl, .ref s, rfl, s, _, 0, .int t, rfl, rfl, hs1, rfl, .ref g, rfl, p, g, zs, rs, t, runO (join L) os, rfl, hp.same sm, hv, .inl (.inl kg'), by rw [runO_len]; omega, (q6 all).imp sm⟩
end
end Sv
set_option maxHeartbeats 8000000
namespace Sv
open PySem PySem.Spec PyProof.Rows L2 LamX NdefX
section
variable {P : Program} {w : World} {K : PySem.W.Frag} {mg : Str → Option Value} {base : Heap}
/-- THE RULE for a def whose code object is known -/
theorem fun_okC {x qual : Str} {st : Stmt} {f c : Addr} {fd : FuncData} {N ps : List Str} {k : Nat} {sp : Sp} (F : Fun K x qual st f fd) (hc : fd.code = .ref c) (S : FnScope N ps (defScope st)) (len : ∀ vs H Q E, sp vs H Q E → vs.length = ps.length)
    (hbody : ∀ (A : Around) (outer : List Env) (s : Shared) (H : Hp) (vs : List V) (Q : VK) (E : XK), Room k (A.deeper (envOfC qual (defScope st) s.heap.objs.size f (.ref c))) → sp vs H Q E →
      ∃ t, PSs (cxOf CX0 P w K mg base N qual (defScope st) f (.ref c) A outer s H E).nox (defBody st) t ∧ t { nx := fun _ H' => Q .non H', rt := Q } (start N vs) H) : FnOk P w K mg base CX0 (k + 1) f fd ps sp := by
  obtain ⟨oc, od, kV, doc, pm, an, cdv, ct, osl, rfl, lk, hcd⟩ := F.ex
  obtain rfl : cdv = .ref c := hc
  refine fn_of lk hcd S len fun A outer s H vs Q E hr hsp => ?_
  obtain ⟨t, h, q⟩ := hbody A outer s H vs Q E hr hsp
  exact ⟨t, h.nox, q⟩
end
/-- the lambda at f, told by the maker's names js -/
def LamIs (X : Cx) (k : Nat) (H : Hp) (f : Addr) (js : List Nat) (tl : List (Option V) → XK → Hp → VK → Prop) : Prop :=
  ∃ (L : LF) (fr : List Str) (dvs : List V), H f = some (LamO f L) ∧ H L.c = some (CodeO L.c L.qual) ∧ DflAt H L.dV dvs ∧ LOk X.prog X.w X.K X.mg X.base k f L fr dvs tl ∧ (X.Ok → Caps X L.cl fr js)
theorem DflAt.ext {H H1 : Hp} {dV : Value} {dvs : List V} (d : DflAt H dV dvs) (e : ExtN H H1) : DflAt H1 dV dvs := by
  rcases d with ⟨a, b⟩ | ⟨a, T, b, c⟩
  · exact .inl ⟨a, b⟩
  · exact .inr ⟨a, T, b, e _ _ c (fun ps z => nomatch z)⟩
theorem LamIs.ext {X : Cx} {k : Nat} {H H1 : Hp} {f : Addr} {js : List Nat} {tl : List (Option V) → XK → Hp → VK → Prop} (h : LamIs X k H f js tl) (e : ExtN H H1) : LamIs X k H1 f js tl := by
  obtain ⟨L, fr, dvs, h1, h2, h3, h4, h5⟩ := h
  exact ⟨L, fr, dvs, e _ _ h1 (fun ps => lamO_tbl ps), e _ _ h2 codeO_ne, h3.ext e, h4, h5⟩
theorem extN_same {H H1 : Hp} (s : Same H H1) : ExtN H H1 := ExtN.of s
def freeB (sc scope : Scope) : Bool := scope.names.all fun y => match y.2 with
  | .free => (match sc.names.lookup y.1 with | some .cell => true | some .free => true | _ => false)
  | _ => true
theorem free_by {sc scope : Scope} (h : freeB sc scope = true) : ∀ y ∈ scope.names, y.2 = .free → sc.names.lookup y.1 = some .cell ∨ sc.names.lookup y.1 = some .free := fun y hy e => by
  have q := List.all_eq_true.mp h y hy
  rw [e] at q
  simp only at q
  split at q
  · rename_i z
    exact .inl z
  · rename_i z
    exact .inr z
  · cases q
/-- the reading of a lambda as a value -/
def tLamK (X : Cx) (k : Nat) (T : List (Addr × Str)) (js : List Nat) (tl : List (Option V) → XK → Hp → VK → Prop) : TE := fun _ H Q => Tabs T H ∧ ∀ (f : Addr) (H1 : Hp), ExtN H H1 → (∀ b, H1 b = none → H b = none) → Tabs T H1 → H f = none → LamIs X k H1 f js tl → Q (.ref f) H1
section
variable {X : Cx} {k : Nat} {T : List (Addr × Str)} {c P : Addr} {params : Arguments} {body : Expr} {scope : Scope} {pos : Pos} {js : List Nat} {fr N ps : List Str} {tl : List (Option V) → XK → Hp → VK → Prop}
/-- what its body keeps, wherever it was made -/
def LamB (X : Cx) (k : Nat) (N : List Str) (params : Arguments) (body : Expr) (scope : Scope) (fr : List Str) (dvs : List V) (tl : List (Option V) → XK → Hp → VK → Prop) : Prop :=
  ∀ (qual : Str) (cl : List (Str × Addr)) (dV : Value) (c f : Addr) (A : Around) (outer : List Env) (s : Shared) (H : Hp) (ws : List (Option V)) (Q : VK) (E : XK), Room k (A.deeper (envF (LF.nf ⟨params, body, scope, qual, cl, dV, c⟩) f s.heap.objs.size)) → tl ws E H Q →
    ∃ t, PE (ncx (L2.CX X.prog X.w) X.prog X.w X.K X.mg X.base N (LF.nf ⟨params, body, scope, qual, cl, dV, c⟩) f A outer s H E) body t ∧ t (startF N dvs ws) H Q
theorem lamB_ok {f c' : Addr} {cl : List (Str × Addr)} {q : Str} {dV : Value} {dvs : List V} (hB : LamB X k N params body scope fr dvs tl) (S : NScope N ps fr scope) (hb : LBinds ⟨params, body, scope, q, cl, dV, c'⟩ ps dvs) (hl : dvs.length = ps.length) :
    LOk X.prog X.w X.K X.mg X.base (k + 1) f ⟨params, body, scope, q, cl, dV, c'⟩ fr dvs tl := lok_of S hb hl fun A outer s H ws Q E hr _ ht => hB q cl dV c' f A outer s H ws Q E hr ht
theorem pe_lamK0 (LT : LamT X T c P) (hB : LamB X k N params body scope fr [] tl) (hd : defaultsOf params X.env = ([], []) := by rfl)
    (hfree : ∀ y ∈ scope.names, y.2 = .free → X.env.scope.names.lookup y.1 = some .cell ∨ X.env.scope.names.lookup y.1 = some .free := by exact free_by rfl)
    (S : NScope N [] fr scope := by exact nscope_by (by decide +kernel)) (hbn : ∀ q cl pm cv ctv, bindArgs (PySem.W.kla_fn "<lambda>" q params body scope cl pm cv ctv) ⟨[], []⟩ = pure [] := by intro q cl pm cv ctv; rfl)
    (hfr : ∀ y ∈ fr, (y, NameKind.free) ∈ scope.names := by decide +kernel) (hjs : js.map (fun j => X.N[j]?) = fr.map some := by rfl) :
    PE X (.Lambda params body scope pos) (tLamK X (k + 1) T js tl) := by
  refine ⟨fun pins s σ H Q I ⟨hT, h⟩ => (pe_lam0 LT hd hfree).run pins s σ H Q I ⟨hT, fun f c' dV H1 a1 a2 a3 a4 a5 a6 a7 => h f H1 a1 a2 a3 a4 ⟨_, fr, [], a5, a6, a7, lamB_ok hB S (lbinds0 hbn) rfl, fun ok => Caps.made ok hfree hfr hjs⟩⟩⟩
theorem pe_lamK1 {i : Int} {jn : Nat} {p2 : Pos} {a : Str} (LT : LamT X T c P) (hB : LamB X k N params body scope fr [.int i] tl) (hbn : ∀ q cl pm cv ctv (T : Addr) (u : Value), ∃ k, bindArgs { PySem.W.kla_fn "<lambda>" q params body scope cl pm cv ctv with defaults := .ref T } ⟨[], []⟩ = seqItems? (.ref T) >>= k ∧ k (some [u].toArray) = pure [(a, u)])
    (hd : defaultsOf params X.env = ([eval (.Constant (.int i) jn p2) X.env], []) := by rfl)
    (hfree : ∀ y ∈ scope.names, y.2 = .free → X.env.scope.names.lookup y.1 = some .cell ∨ X.env.scope.names.lookup y.1 = some .free := by exact free_by rfl)
    (S : NScope N [a] fr scope := by exact nscope_by (by decide +kernel))
    (hfr : ∀ y ∈ fr, (y, NameKind.free) ∈ scope.names := by decide +kernel) (hjs : js.map (fun j => X.N[j]?) = fr.map some := by rfl) :
    PE X (.Lambda params body scope pos) (tLamK X (k + 1) T js tl) := by
  refine ⟨fun pins s σ H Q I ⟨hT, h⟩ => (pe_lam1 (j := 0) LT hd hfree).run pins s σ H Q I ⟨hT, fun f c' dV H1 a1 a2 a3 a4 a5 a6 a7 => h f H1 a1 a2 a3 a4 ⟨_, fr, [.int i], a5, a6, a7, lamB_ok hB S (lbinds1 hbn) rfl, fun ok => Caps.made ok hfree hfr hjs⟩⟩⟩
end
section
variable {CS C0 C1 C2 C3 C4 C5 C6 C7 C8 C9 C10 C11 C12 C13 C14 : Addr}
/-- the reading of _law_error(lambda: ..) -/
def tErrL (K : PySem.W.Frag) (T : List (Addr × Str)) (js : List Nat) (tl : List (Option V) → XK → Hp → VK → Prop) (CS C0 C1 C2 C3 C4 C5 C6 C7 C8 C9 C10 C11 C12 C13 C14 : Addr) : TE := fun σ H Q => Tabs T H ∧ ∀ H1, ExtN H H1 → (∀ b, H1 b = none → H b = none) → Tabs T H1 → tl (js.map (slotAt σ)) (ErrE K CS C0 C1 C2 C3 C4 C5 C6 C7 C8 C9 C10 C11 C12 C13 C14 Q) H1 (OkQ Q)
/-- .. of a lambda that the def around holds -/
def tErrB (X : Cx) (k i : Nat) (σ0 : L2.St) (CS C0 C1 C2 C3 C4 C5 C6 C7 C8 C9 C10 C11 C12 C13 C14 : Addr) : TE := fun σ H Q => ∃ f js tl, σ[i]? = some (some (.ref f)) ∧ LamIs X k H f js tl ∧ tl (js.map (slotAt σ0)) (ErrE X.K CS C0 C1 C2 C3 C4 C5 C6 C7 C8 C9 C10 C11 C12 C13 C14 Q) H (OkQ Q)
/-- _law_error(lambda: ..) -/
theorem pe_errLam {X : Cx} {k : Nat} {g : Addr} {T : List (Addr × Str)} {js : List Nat} {tl : List (Option V) → XK → Hp → VK → Prop} {e : Expr} {p pos : Pos} (G : FnSt X.prog X.w X.K X.mg X.base (k + 1) g (KnErr X.prog X.w X.K X.mg X.base k CS C0 C1 C2 C3 C4 C5 C6 C7 C8 C9 C10 C11 C12 C13 C14))
    (hr : Room (k + 1) X.A) (hg : Gl X "_law_error") (hm : X.mg "_law_error" = some (.ref g)) (hk : PySem.W.keepIn X.K (.ref g) = true)
    (hfar : ∀ (pins : List (Addr × Obj)) (σ : L2.St) (H : Hp) (s : Shared), Inv X pins σ H s → Far X) (he : PE X e (tLamK X k T js tl)) (hst : starEach [e] X.env = (false, eval e X.env) :: starEach [] X.env := by rfl) :
    PE X (.Call (.Name "_law_error" p) [e] [] pos) (tErrL X.K T js tl CS C0 C1 C2 C3 C4 C5 C6 C7 C8 C9 C10 C11 C12 C13 C14) := by
  refine ⟨fun pins s σ H Q I ⟨hT, h⟩ => (pe_callSt (te := fun σ1 H1 Q1 => σ1 = σ ∧ tLamK X k T js tl σ1 H1 Q1) G hr hg hm hk ⟨fun pins s σ1 H Q I h => he.run pins s σ1 H Q I h.2⟩ (hst := hst)).run pins s σ H Q I ⟨rfl, hT, fun f H1 a1 a2 a3 a4 a5 pins' s' I' => ?_⟩⟩
  obtain ⟨L, fr, dvs, h1, h2, h3, h4, h5⟩ := a5
  have cp := h5 I'.ok
  exact ⟨f, L, fr, dvs, js.map (slotAt σ), tl, rfl, ⟨h1, h2, h3, h4, cells_of I' cp, fun y c e => hfar _ _ _ _ I' y c (cp.sub y c e)⟩, h H1 a1 a2 a3⟩
/-- _law_error(x) in a comprehension, x a lambda of the def around it -/
theorem pe_errBlk {X : Cx} {k : Nat} {g : Addr} {i : Nat} {x : Str} {p p2 pos : Pos} {scope : Scope} {σ0 : L2.St} {s0 : Shared} {H0 : Hp} {C : Addr} {cl : List (Str × Addr)} {fp : List Addr} (G : FnSt X.prog X.w X.K X.mg X.base (k + 1) g (KnErr X.prog X.w X.K X.mg X.base k CS C0 C1 C2 C3 C4 C5 C6 C7 C8 C9 C10 C11 C12 C13 C14))
    (hr : Room (k + 1) X.A) (hX : ∀ y, X.fn y = true) (B0 : Blk0 X σ0 s0 H0 cl fp) (hg : Gl (X.blk s0 H0 scope (compEnvC scope cl C X.env) fp) "_law_error") (hm : X.mg "_law_error" = some (.ref g)) (hk : PySem.W.keepIn X.K (.ref g) = true)
    (hv : PE (X.blk s0 H0 scope (compEnvC scope cl C X.env) fp) (.Name x p2) (tVar i)) :
    PE (X.blk s0 H0 scope (compEnvC scope cl C X.env) fp) (.Call (.Name "_law_error" p) [.Name x p2] [] pos)
      (tErrB X k i σ0 CS C0 C1 C2 C3 C4 C5 C6 C7 C8 C9 C10 C11 C12 C13 C14) := by
  refine ⟨fun pins s σ H Q I ⟨f, js, tl, e1, ⟨L, fr, dvs, h1, h2, h3, h4, h5⟩, ht⟩ => (pe_callSt (Y := X.blk s0 H0 scope (compEnvC scope cl C X.env) fp) G hr hg hm hk hv).run pins s σ H Q I ⟨.ref f, e1, fun pins' s' I' => ?_⟩⟩
  obtain ⟨pins0, I0, hfp⟩ := B0.inv
  have cp := h5 I0.ok
  have far := far_def I0 hX
  refine ⟨f, L, fr, dvs, js.map (slotAt σ0), tl, rfl, ⟨h1, h2, h3, h4, ?_, fun y c e => far y c (cp.sub y c e)⟩, ht⟩
  refine cells_later (fs := L2.frs X.stack) (ex := fp) (cells_of I0 cp) (fun y c e => far y c (cp.sub y c e)) (fun y c e hm => ?_) I'.base
  exact (hfp c hm).2.2.2.2.1 y c (cp.sub y c e) rfl
end
end Sv
set_option maxHeartbeats 8000000
namespace Sv
open PySem PySem.Spec PyProof.Rows L2 LamX NdefX
/-- all but lists and tables stay -/
def ExtL (H H1 : Hp) : Prop := ∀ b o, H b = some o → (∀ xs, o ≠ .lst xs) → (∀ ps, o ≠ .tbl ps) → H1 b = some o
theorem ExtL.refl (H : Hp) : ExtL H H := fun _ _ e _ _ => e
theorem ExtL.trans {H H1 H2 : Hp} (a : ExtL H H1) (b : ExtL H1 H2) : ExtL H H2 := fun c o e n m => b c o (a c o e n m) n m
theorem ExtL.n {H H1 : Hp} (e : ExtN H H1) : ExtL H H1 := fun b o h _ m => e b o h m
theorem ExtL.s {H H1 : Hp} (e : Same H H1) : ExtL H H1 := fun b o h _ _ => e b o h
theorem ExtL.x {H H1 : Hp} {h l : Addr} (L : LawH H h l) (e : SameX h l H H1) : ExtL H H1 := fun b o hb n _ => by
  obtain ⟨m, i, cs, e1, e2, _⟩ := L.ex
  refine e b o (fun z => ?_) (fun z => ?_) hb
  · rw [z, e1] at hb
    exact n _ (Option.some.inj hb).symm
  · rw [z, e2] at hb
    exact n _ (Option.some.inj hb).symm
theorem ExtL.upd {H : Hp} {p : Addr} {xs : List V} {o : HO} (h : H p = some (.lst xs)) : ExtL H (L2.upd H p o) := fun b u e n _ => by
  rw [upd_ne (fun z => by rw [z, h] at e; exact n _ (Option.some.inj e).symm)]
  exact e
theorem sqT_ext {K : PySem.W.Frag} {H H1 : Hp} {a : Addr} {xs : List V} (e : ExtL H H1) (h : SqT K H a xs) : SqT K H1 a xs := by
  rcases h with (h | ⟨o, h⟩) | h
  · exact .inl (.inl (e _ _ h (fun _ z => nomatch z) (fun _ z => nomatch z)))
  · exact .inl (.inr ⟨o, e _ _ h (fun _ z => nomatch z) (fun _ z => nomatch z)⟩)
  · exact .inr h
theorem LamIs.extL {X : Cx} {k : Nat} {H H1 : Hp} {f : Addr} {js : List Nat} {tl : List (Option V) → XK → Hp → VK → Prop} (h : LamIs X k H f js tl) (e : ExtL H H1) : LamIs X k H1 f js tl := by
  obtain ⟨L, fr, dvs, h1, h2, h3, h4, h5⟩ := h
  refine ⟨L, fr, dvs, e _ _ h1 (fun _ z => by unfold LamO at z; cases z) (fun ps => lamO_tbl ps), e _ _ h2 (fun _ z => by unfold CodeO at z; cases z) codeO_ne, ?_, h4, h5⟩
  rcases h3 with ⟨a, b⟩ | ⟨a, T, b, c⟩
  · exact .inl ⟨a, b⟩
  · exact .inr ⟨a, T, b, e _ _ c (fun _ z => nomatch z) (fun _ z => nomatch z)⟩
/-- the law's source and its table -/
structure LS (T : List (Addr × Str)) (h l : Addr) (H : Hp) : Prop where
  law : LawH H h l
  tabs : Tabs T H
theorem LawH.ext {H H' : Hp} {h l : Addr} (x : LawH H h l) (e : ExtN H H') : LawH H' h l := by
  obtain ⟨m, i, cs, e1, e2, e3⟩ := x.ex
  exact ⟨m, i, cs, e _ _ e1 (fun _ z => nomatch z), e _ _ e2 (fun _ z => nomatch z), e3⟩
theorem tabs_x {T : List (Addr × Str)} {H H1 : Hp} {h l : Addr} (t : Tabs T H) (L : LawH H h l) (e : SameX h l H H1) : Tabs T H1 := fun p hp => by
  obtain ⟨ps, h1, h2, h3⟩ := t p hp
  obtain ⟨m, i, cs, e1, e2, _⟩ := L.ex
  refine ⟨ps, e _ _ (fun z => ?_) (fun z => ?_) h1, h2, fun pos cv hc => ?_⟩
  · rw [z, e1] at h1
    cases h1
  · rw [z, e2] at h1
    cases h1
  · obtain ⟨c, q1, q2⟩ := h3 pos cv hc
    exact ⟨c, q1, ExtL.x L e _ _ q2 (fun _ z => by unfold CodeO at z; cases z) codeO_ne⟩
theorem LS.x {T : List (Addr × Str)} {h l : Addr} {H H1 : Hp} (a : LS T h l H) (L : LawH H1 h l) (e : SameX h l H H1) : LS T h l H1 := ⟨L, tabs_x a.tabs a.law e⟩
theorem LS.s {T : List (Addr × Str)} {h l : Addr} {H H1 : Hp} (a : LS T h l H) (e : Same H H1) : LS T h l H1 := ⟨a.law.same e, a.tabs.ext e⟩
theorem LS.e {T : List (Addr × Str)} {h l : Addr} {H H1 : Hp} (a : LS T h l H) (e : ExtN H H1) (t : Tabs T H1) : LS T h l H1 := ⟨a.law.ext e, t⟩
section
variable {K : PySem.W.Frag} {H : Hp}
theorem tabs_upd {T : List (Addr × Str)} {p : Addr} {xs : List V} {o : HO} (t : Tabs T H) (hp : H p = some (.lst xs)) : Tabs T (L2.upd H p o) := fun y hy => by
  obtain ⟨ps, h1, h2, h3⟩ := t y hy
  refine ⟨ps, ?_, h2, fun pos cv hc => ?_⟩
  · rw [upd_ne (fun z => by rw [z, hp] at h1; cases h1)]
    exact h1
  · obtain ⟨c, q1, q2⟩ := h3 pos cv hc
    exact ⟨c, q1, ExtL.upd hp _ _ q2 (fun _ z => by unfold CodeO at z; cases z) codeO_ne⟩
end
section
variable {K : PySem.W.Frag} {H : Hp} {Q : VK}
theorem errE_of {CS C0 C1 C2 C3 C4 C5 C6 C7 C8 C9 C10 C11 C12 C13 C14 D : Addr} {nm : Str} (A : ∃ (b0 b1 b2 b3 b4 b5 b6 b7 b8 b9 b10 b11 b12 b13 b14 : Bool) (j : Nat), ErK K CS C0 C1 C2 C3 C4 C5 C6 C7 C8 C9 C10 C11 C12 C13 C14 D nm b0 b1 b2 b3 b4 b5 b6 b7 b8 b9 b10 b11 b12 b13 b14 j) (q : NewS H [.str nm] Q) (n1 : nm ≠ ("plan" : Str)) (n2 : nm ≠ ("swap" : Str)) :
    ErrE K CS C0 C1 C2 C3 C4 C5 C6 C7 C8 C9 C10 C11 C12 C13 C14 Q (.ref D) none H := by
  obtain ⟨b0, b1, b2, b3, b4, b5, b6, b7, b8, b9, b10, b11, b12, b13, b14, j, R⟩ := A
  exact ⟨D, nm, b0, b1, b2, b3, b4, b5, b6, b7, b8, b9, b10, b11, b12, b13, b14, j, rfl, .inl rfl, R, .inl ⟨n1, n2, q⟩⟩
/-- how three of the classes answer -/
structure ErA (K : PySem.W.Frag) (CS C0 C1 C2 C3 C4 C5 C6 C7 C8 C9 C10 C11 C12 C13 C14 D : Addr) (nm : Str) : Prop where
  ex : ∃ (b0 b1 b2 b3 b4 b5 b6 b7 b8 b9 b10 b11 b12 b13 b14 : Bool) (j : Nat), ErK K CS C0 C1 C2 C3 C4 C5 C6 C7 C8 C9 C10 C11 C12 C13 C14 D nm b0 b1 b2 b3 b4 b5 b6 b7 b8 b9 b10 b11 b12 b13 b14 j
end
def zE : Expr := .Name "x" ⟨0, 0, 0, 0⟩
def eArgs : Expr → List Expr | .Call _ as _ _ => as | _ => []
def eElts : Expr → List Expr | .List es _ => es | .Tuple es _ _ => es | _ => []
def eLeft : Expr → Expr | .Compare l _ _ _ => l | e => e
def sVal : Stmt → Expr | .Assign _ v _ => v | .Expr v _ => v | .If t _ _ _ => t | .Return (some v) _ => v | _ => zE
def sBody : Stmt → List Stmt | .For _ _ b _ _ => b | _ => []
def lamP : Expr → Arguments | .Lambda p _ _ _ => p | _ => ⟨[], [], none, [], [], none, []⟩
def lamE : Expr → Expr | .Lambda _ b _ _ => b | e => e
def lamS : Expr → Scope | .Lambda _ _ s _ => s | _ => default
end Sv
set_option maxHeartbeats 4000000
namespace Sv
open PySem PySem.Spec PyProof.Rows L2
section
variable {P : Program} {w : World} {K : PySem.W.Frag} {mg : Str → Option Value} {base : Heap}
theorem scAdvance : FnScope ["plan", "state", "count", "time", "carried", "shelves"] ["plan", "state", "count"] (defScope sAdvance) := ⟨rfl, rfl, rfl, by decide +kernel, rfl, by decide +kernel, by decide +kernel⟩
theorem PS0.bad {H : Hp} {p s : Addr} {zs : List Int} {rs : List Ro} {t : Int} {L : Lay Int} (x : PS0 K H p s zs rs t L) : bad zs rs = none := x.v.bad
def spAdvance (K : PySem.W.Frag) (C CS CC : Addr) : Sp := fun vs H Q E => ∃ (p s : Addr) (zs : List Int) (rs : List Ro) (t c : Int) (L : Lay Int), vs = [.ref p, .ref s, .int c] ∧ PlanAt K H p zs rs ∧ Small zs rs ∧ StateAt K H s t L ∧ BadE C zs rs H E ∧
  (bad zs rs = none → ¬ StOk zs rs t L → ∀ H', Same H H' → E (.ref CS) none H') ∧ (bad zs rs = none → StOk zs rs t L → ¬ CtOk c → ∀ H', Same H H' → E (.ref CC) none H') ∧
  (bad zs rs = none → StOk zs rs t L → CtOk c → NewSt K H (t + c) (advA 0 zs rs t c L) Q)
theorem ok_advance (T : Bd P K mg) : FnOk P w K mg base (L2.CX P w) 6 T.aAdvance T.dAdvance ["plan", "state", "count"] (spAdvance K T.C T.CS T.CC) := by
  have GP : FnOk P w K mg base (L2.CX P w) 4 T.aCheckPlan T.dCheckPlan ["plan"] (spCheckPlan K T.C) := ok_checkPlan T
  have GS : FnOk P w K mg base (L2.CX P w) 3 T.aCheckState T.dCheckState ["plan", "state"] (spCheckState K T.CS) := ok_checkState T
  have GC : FnOk P w K mg base (L2.CX P w) 3 T.aCheckCount T.dCheckCount ["count"] (spCheckCount T.CC) := ok_checkCount T
  have GF : FnOk P w K mg base CX0 5 T.aEffectTicks T.dEffectTicks ["plan", "time", "count"] (spEffectTicks K) := ok_effectTicks T
  have GM : FnOk P w K mg base CX0 3 T.aMoved T.dMoved ["plan", "state", "effect"] (spMoved K) := ok_moved T
  refine T.Advance.F.okX scAdvance (fun vs H Q E h => ?_) (fun cdv A outer s H vs Q E hr h => ?_)
  · obtain ⟨p, s, zs, rs, t, c, L, rfl, _⟩ := h
    rfl
  · obtain ⟨p, s, zs, rs, t, c, L, rfl, hp, hs, hst, q1, q2, q3, q4⟩ := h
    refine ⟨_, (pss_cons (ps_expr (pe_call (E := E) GP (hr.mono (by decide)) (by rfl) T.CheckPlan.g T.CheckPlan.F.kp T.CheckPlan.b .nil (passes_call (takes_of rfl rfl rfl rfl) fun _ _ _ _ h => h) (pa_cons (pv 0) pa_nil)))
      (pss_cons (ps_expr (pe_call (E := E) GS (hr.mono (by decide)) (by rfl) T.CheckState.g T.CheckState.F.kp T.CheckState.b .nil (passes_call (takes_of rfl rfl rfl rfl) fun _ _ _ _ h => h) (pa_cons (pv 0) (pa_cons (pv 1) pa_nil))))
      (pss_cons (ps_expr (pe_call (E := E) GC (hr.mono (by decide)) (by rfl) T.CheckCount.g T.CheckCount.F.kp T.CheckCount.b .nil (passes_call (takes_of rfl rfl rfl rfl) fun _ _ _ _ h => h) (pa_cons (pv 2) pa_nil)))
      (pss_cons (ps_asg (pe_call (E := E0) GM (hr.mono (by decide)) (by rfl) T.Moved.g T.Moved.F.kp T.Moved.b .nil pass0 (pa_cons (pv 0) (pa_cons (pv 1) (pa_cons (pe_call (E := E0) GF (hr.mono (by decide)) (by rfl) T.EffectTicks.g T.EffectTicks.F.kp T.EffectTicks.b .nil pass0 (pa_cons (pv 0) (pa_cons (pe_ix ix_tup (pv 1) pe_int (fun _ _ => rfl)) (pa_cons (pv 2) pa_nil)))) pa_nil)))) (pg_tup rfl (pgs_cons (pg_name (i := 3) scAdvance.nd rfl (.inl rfl)) (pgs_cons (pg_name (i := 4) scAdvance.nd rfl (.inl rfl)) (pgs_cons (pg_name (i := 5) scAdvance.nd rfl (.inl rfl)) pgs_nil)))))
      (pss_one (ps_ret (pe_tup (pa_cons (pe_op op_add (pv 3) (pv 2)) (pa_cons (pv 4) (pa_cons (pv 5) pa_nil)))))))))), ?_⟩
    refine ⟨.ref p, rfl, p, zs, rs, rfl, hp, hs, fun e1 H1 sm1 => ?_, q1⟩
    have hv := val_of e1
    refine ⟨.ref p, rfl, .ref s, rfl, p, s, zs, rs, t, L, rfl, hp.same sm1, hv, hst.same sm1, fun hok H2 sm2 => ?_, fun hno H2 sm2 => q2 e1 hno H2 (sm1.trans sm2)⟩
    have smA := sm1.trans sm2
    refine ⟨.int c, rfl, c, rfl, fun hc => ?_, fun hc => q3 e1 hok hc H2 smA⟩
    obtain ⟨ca, sh, hs1, hL⟩ := (hst.same smA).ex
    refine ⟨.ref p, rfl, .ref s, rfl, .ref p, rfl, .ref s, rfl, s, _, 0, .int t, rfl, rfl, hs1, rfl, .int c, rfl, p, t, c, zs, rs, rfl, hp.same smA, hv, .inl fun H3 a sm3 na ka => ?_⟩
    have smB := smA.trans sm3
    refine ⟨p, s, a, zs, rs, t, L, effT rs.length zs rs t c, rfl, hp.same smB, hv, hst.same smB, hok.f, .inl (.inl ka), effT_eff .., effT_len .., fun H4 s' sm4 ns st4 => ?_⟩
    obtain ⟨c2, s2, hs2, hL2⟩ := st4.ex
    refine ⟨s', _, rfl, hs2, rfl, _, _, rfl, _, _, rfl, _, _, rfl, rfl, ?_⟩
    refine ⟨.int t, rfl, .int c, rfl, t, c, rfl, rfl, .ref c2, rfl, .ref s2, rfl, (by show 3 ≤ sizeLine; decide), fun y hy => ?_⟩
    have smy := same_upd (o := .tup [.int (t + c), .ref c2, .ref s2]) hy
    exact q4 e1 hok hc _ y ((smB.trans sm4).trans smy) (Same.free (smB.trans sm4) hy) ⟨c2, s2, .inl (.inl upd_same), hL2.same smy⟩
theorem adv_ok (T : Bd P K mg) : FnOk P w K mg base (L2.CX P w) 12 T.aAdvance T.dAdvance ["plan", "state", "count"] (qAdvance K) := by
  unfold qAdvance
  refine ((ok_advance T).mono (by decide)).imp fun vs H Q E h => ?_
  obtain ⟨p, s, zs, rs, t, c, L, rfl, x, hc, q⟩ := h
  have hb := x.bad
  exact ⟨p, s, zs, rs, t, c, L, rfl, x.p, x.v.small, x.s, (fun part i e => by rw [hb] at e; cases e), fun _ h => absurd x.o h, fun _ _ h => absurd hc h, fun _ _ _ H' s' sm _ st => q H' s' sm st⟩
/-- the place at which something is that was at place i -/
theorem loc_at {zs : List Int} {rs : List Ro} {t c x : Int} {L : Lay Int} {i : Nat} (hf : Fits rs.length zs L) (hi : (join L)[i]? = some x) : (join (advA 0 zs rs t c L))[ap (effT rs.length zs rs t c) i]? = some x := by
  have jl := join_len hf
  have il := (List.getElem?_eq_some_iff.mp hi).1
  rw [join_advA, moveA_at 0 (effT_eff ..) (by rw [effT_len, jl]) (by rw [effT_len]; omega)]
  exact hi
end
end Sv
set_option maxHeartbeats 4000000
namespace Sv
open PySem PySem.Spec PyProof.Rows L2 LamX NdefX
section
variable {now wanted : List Int}
theorem swS_succ (i : Nat) : swS now wanted (i + 1) = if (swS now wanted i).1.getD i 0 = wanted.getD i 0 then swS now wanted i else (xch (swS now wanted i).1 i (ixOf (swS now wanted i).1 (wanted.getD i 0)), (swS now wanted i).2 ++ [(i, ixOf (swS now wanted i).1 (wanted.getD i 0))]) := rfl
theorem swS_run : ∀ i, runO now ((swS now wanted i).2.map some) = (swS now wanted i).1
  | 0 => rfl
  | i + 1 => by
    have ih := swS_run i
    rw [swS_succ]
    by_cases h : (swS now wanted i).1.getD i 0 = wanted.getD i 0
    · rw [if_pos h]
      exact ih
    · rw [if_neg h]
      show runO now (((swS now wanted i).2 ++ [(i, ixOf (swS now wanted i).1 (wanted.getD i 0))]).map some) = _
      rw [List.map_append]
      show runO now ((swS now wanted i).2.map some ++ [some (i, ixOf (swS now wanted i).1 (wanted.getD i 0))]) = _
      rw [runO_snoc, ih]
theorem swS_pairs (nd : now.Nodup) (pm : wanted.Perm now) : ∀ i, i ≤ now.length → ∀ ij ∈ (swS now wanted i).2, ij.1 < now.length ∧ ij.2 < now.length ∧ ij.1 ≠ ij.2
  | 0, _ => fun ij h => nomatch h
  | i + 1, hi => fun ij h => by
    have ih := swS_pairs nd pm i (by omega)
    have wl : wanted.length = now.length := pm.length_eq
    rw [swS_succ] at h
    by_cases e : (swS now wanted i).1.getD i 0 = wanted.getD i 0
    · rw [if_pos e] at h
      exact ih ij h
    · rw [if_neg e] at h
      rcases List.mem_append.mp h with h | h
      · exact ih ij h
      · rw [List.mem_singleton.mp h]
        have I := swS_ok nd pm i (by omega)
        have G := gN_ok (gW_pm nd pm) i (by omega)
        have at_ := I.at_ i (by omega)
        have wi : wanted[i]? = some (wanted.getD i 0) := getD_at (by omega)
        rw [wi] at at_
        obtain ⟨q1, q2⟩ := ixOf_at (List.mem_of_getElem? at_)
        refine ⟨by show i < _; omega, by rw [← I.len]; exact q2, fun z => e ?_⟩
        have z : i = ixOf (swS now wanted i).1 (wanted.getD i 0) := z
        rw [List.getD_eq_getElem?_getD (l := (swS now wanted i).1)]
        rw [← z] at q1
        rw [q1]
        rfl
end
/-- behind the swaps and the ticks: the goal -/
theorem wan_goal {zs : List Int} {rs : List Ro} {t c : Int} {gs : List Int} (h : gs.length = rs.length + sumN zs) : join (advA 0 zs rs t c (spl rs.length zs (wanL zs rs t c gs))) = gs := by
  have wl : (wanL zs rs t c gs).length = rs.length + sumN zs := by rw [(wanL_perm h).length_eq, h]
  have hf : Fits rs.length zs (spl rs.length zs (wanL zs rs t c gs)) := spl_fits wl
  have E := effT_eff rs.length zs rs t c
  have el := effT_len rs.length zs rs t c
  refine List.ext_getElem? fun j => ?_
  by_cases hj : j < rs.length + sumN zs
  · have ij : ap (inv (effT rs.length zs rs t c)) j < rs.length + sumN zs := by
      have := ap_lt (inv_eff E) (x := j) (by rw [inv_len, el]; exact hj)
      rwa [inv_len, el] at this
    have aj := ap_inv E (q := j) (by rw [el]; exact hj)
    have wat : (join (spl rs.length zs (wanL zs rs t c gs)))[ap (inv (effT rs.length zs rs t c)) j]? = some (gs.getD j 0) := by
      rw [join_spl wl]
      unfold wanL
      rw [List.getElem?_map, ap_at (by rw [el]; exact ij), aj]
      rfl
    have := loc_at (t := t) (c := c) hf wat
    rw [aj] at this
    rw [this, getD_at (by omega)]
  · have l1 : (join (advA 0 zs rs t c (spl rs.length zs (wanL zs rs t c gs)))).length = rs.length + sumN zs := join_len (advA_fits ..)
    rw [List.getElem?_eq_none (by omega), List.getElem?_eq_none (by omega)]
/-- as many swaps as there are parcels without the wheels -/
theorem sw_wheels {zs : List Int} {rs : List Ro} {t c : Int} {L : Lay Int} {gs : List Int} (hf : Fits rs.length zs L) (nd : (join L).Nodup) (pm : gs.Perm (join L)) :
    (swL zs rs t c L gs).length + cn gs.length (mnP fun p => ixOf (join (advA 0 zs rs t c L)) (gs.getD p 0)) = gs.length := by
  have jl := join_len hf
  have gl : gs.length = rs.length + sumN zs := by rw [pm.length_eq, jl]
  have wp : (wanL zs rs t c gs).Perm (join L) := (wanL_perm gl).trans pm
  have wl : (wanL zs rs t c gs).length = rs.length + sumN zs := by rw [wp.length_eq, jl]
  have E := effT_eff rs.length zs rs t c
  have el := effT_len rs.length zs rs t c
  have lp : (join (advA 0 zs rs t c L)).Perm (join L) := advA_perm t c hf
  have ndl : (join (advA 0 zs rs t c L)).Nodup := lp.nodup_iff.mpr nd
  have ll : (join (advA 0 zs rs t c L)).length = rs.length + sumN zs := join_len (advA_fits ..)
  have P1 := gW_pm nd wp
  have pl : gs.Perm (join (advA 0 zs rs t c L)) := pm.trans lp.symm
  have P2 := gW_pm ndl pl
  have cnt := swS_cnt nd wp
  rw [jl] at P1 cnt
  rw [ll] at P2
  have inv1 := inv_eff E
  have key : cn (rs.length + sumN zs) (mxP (gW (join L) (wanL zs rs t c gs))) = cn (rs.length + sumN zs) (mnP (gW (join (advA 0 zs rs t c L)) gs)) := by
    refine cn_conj P1 P2 (ap (effT rs.length zs rs t c)) (ap (inv (effT rs.length zs rs t c))) (fun p hp => ?_) (fun p hp => ?_) (fun p hp => ap_inv E (by rw [el]; exact hp)) (fun p hp => ?_) (fun p hp => ?_)
    · have := ap_lt E (x := p) (by rw [el]; exact hp)
      rwa [el] at this
    · have := ap_lt inv1 (x := p) (by rw [inv_len, el]; exact hp)
      rwa [inv_len, el] at this
    · have hq : ap (effT rs.length zs rs t c) p < rs.length + sumN zs := by
        have := ap_lt E (x := p) (by rw [el]; exact hp)
        rwa [el] at this
      have h1 := ap_inv E (q := ap (effT rs.length zs rs t c) p) (by rw [el]; exact hq)
      refine ap_inj E ?_ (by rw [el]; exact hp) h1
      have := ap_lt inv1 (x := ap (effT rs.length zs rs t c) p) (by rw [inv_len, el]; exact hq)
      rwa [inv_len] at this
    · have hq : ap (effT rs.length zs rs t c) p < rs.length + sumN zs := by
        have := ap_lt E (x := p) (by rw [el]; exact hp)
        rwa [el] at this
      have wat : (wanL zs rs t c gs).getD p 0 = gs.getD (ap (effT rs.length zs rs t c) p) 0 := by
        rw [List.getD_eq_getElem?_getD]
        unfold wanL
        rw [List.getElem?_map, ap_at (by rw [el]; exact hp)]
        rfl
      have gm : gs.getD (ap (effT rs.length zs rs t c) p) 0 ∈ join L := pm.mem_iff.mp (List.mem_of_getElem? (getD_at (by omega)))
      have a1 := (ixOf_at gm).1
      have a2 := loc_at (t := t) (c := c) hf a1
      have a3 := (ixOf_at (lp.mem_iff.mpr gm)).1
      show ap (effT rs.length zs rs t c) (ixOf (join L) ((wanL zs rs t c gs).getD p 0)) = ixOf (join (advA 0 zs rs t c L)) (gs.getD (ap (effT rs.length zs rs t c) p) 0)
      rw [wat]
      exact at_one ndl a2 a3
  rw [key] at cnt
  unfold swL
  rw [jl, gl]
  exact cnt
theorem runO_wan {zs : List Int} {rs : List Ro} {t c : Int} {L : Lay Int} {gs : List Int} (hf : Fits rs.length zs L) (nd : (join L).Nodup) (pm : gs.Perm (join L)) : runO (join L) ((swL zs rs t c L gs).map some) = wanL zs rs t c gs := by
  have gl : gs.length = rs.length + sumN zs := by rw [pm.length_eq, join_len hf]
  unfold swL
  rw [swS_run]
  exact swS_end nd ((wanL_perm gl).trans pm)
theorem swL_pairs {zs : List Int} {rs : List Ro} {t c : Int} {L : Lay Int} {gs : List Int} (hf : Fits rs.length zs L) (nd : (join L).Nodup) (pm : gs.Perm (join L)) : ∀ ij ∈ swL zs rs t c L gs, ij.1 < rs.length + sumN zs ∧ ij.2 < rs.length + sumN zs ∧ ij.1 ≠ ij.2 := by
  have gl : gs.length = rs.length + sumN zs := by rw [pm.length_eq, join_len hf]
  have := swS_pairs nd ((wanL_perm (zs := zs) (rs := rs) (t := t) (c := c) gl).trans pm) (join L).length (Nat.le_refl _)
  unfold swL
  rw [join_len hf] at this ⊢
  exact this
theorem swL_len {zs : List Int} {rs : List Ro} {t c : Int} {L : Lay Int} {gs : List Int} (hf : Fits rs.length zs L) (nd : (join L).Nodup) (pm : gs.Perm (join L)) : (swL zs rs t c L gs).length ≤ rs.length + sumN zs := by
  have h := sw_wheels (t := t) (c := c) hf nd pm
  have gl : gs.length = rs.length + sumN zs := by rw [pm.length_eq, join_len hf]
  omega
@[irreducible] def qArr (K : PySem.W.Frag) (C CS : Addr) : Sp := spArrange K C CS
@[irreducible] def qPlS (K : PySem.W.Frag) (C CS CA CC : Addr) : Sp := spPlS K C CS CA CC
@[irreducible] def qFew (K : PySem.W.Frag) (C CS CA CC : Addr) : Sp := spFew K C CS CA CC
@[irreducible] def qSwA (K : PySem.W.Frag) (C CS CW : Addr) : Sp := spSwA K C CS CW
@[irreducible] def qPls (K : PySem.W.Frag) (C : Addr) : Sp := spPlaces K C
section
variable {P : Program} {w : World} {K : PySem.W.Frag} {mg : Str → Option Value} {base : Heap}
theorem arr_ok (T : Bd P K mg) : FnOk P w K mg base (L2.CX P w) 12 T.aArrange T.dArrange ["plan", "state"] (qArr K T.C T.CS) := by
  unfold qArr
  exact (ok_arrange T).mono (by decide)
theorem plS_ok7 (T : Bd P K mg) : FnOk P w K mg base (L2.CX P w) 7 T.aPlanSwaps T.dPlanSwaps ["plan", "state", "goal", "count"] (qPlS K T.C T.CS T.CAr T.CC) := by
  unfold qPlS
  exact (ok_plS T).mono (by decide)
theorem plS_ok (T : Bd P K mg) : FnOk P w K mg base (L2.CX P w) 12 T.aPlanSwaps T.dPlanSwaps ["plan", "state", "goal", "count"] (qPlS K T.C T.CS T.CAr T.CC) := (plS_ok7 T).mono (by decide)
theorem few_ok7 (T : Bd P K mg) : FnOk P w K mg base (L2.CX P w) 7 T.aFewest T.dFewest ["plan", "state", "goal", "count"] (qFew K T.C T.CS T.CAr T.CC) := by
  unfold qFew
  exact ok_few T
theorem few_ok (T : Bd P K mg) : FnOk P w K mg base (L2.CX P w) 12 T.aFewest T.dFewest ["plan", "state", "goal", "count"] (qFew K T.C T.CS T.CAr T.CC) := (few_ok7 T).mono (by decide)
theorem swA_ok7 (T : Bd P K mg) : FnOk P w K mg base (L2.CX P w) 7 T.aSwapAll T.dSwapAll ["plan", "state", "swaps"] (qSwA K T.C T.CS T.CSw) := by
  unfold qSwA
  exact (ok_swA T).mono (by decide)
theorem swA_ok (T : Bd P K mg) : FnOk P w K mg base (L2.CX P w) 12 T.aSwapAll T.dSwapAll ["plan", "state", "swaps"] (qSwA K T.C T.CS T.CSw) := (swA_ok7 T).mono (by decide)
theorem pls_ok (T : Bd P K mg) : FnOk P w K mg base (L2.CX P w) 12 T.aPlaces T.dPlaces ["plan"] (qPls K T.C) := by
  unfold qPls
  exact (ok_places T).mono (by decide)
end
section
variable {K : PySem.W.Frag} {H : Hp} {p s g r : Addr} {zs : List Int} {rs : List Ro} {t c : Int} {L : Lay Int} {gs : List Int} {Q : VK} {E : XK} {C CS CA CC CW : Addr}
theorem go_arr (X : PS0 K H p s zs rs t L) (q : ∀ H' u, Same H H' → H u = none → TupF H' u ((join L).map V.int) → Q (.ref u) H') : qArr K C CS [.ref p, .ref s] H Q E := by
  unfold qArr
  exact ⟨p, s, zs, rs, t, L, rfl, X.p, X.v.small, X.s, (fun part i e => by rw [X.v.bad] at e; cases e), fun _ h => absurd X.o h, fun _ _ => q⟩
theorem go_plS (X : PS0 K H p s zs rs t L) (hg : SqT K H g (gs.map V.int)) (gl : gs.length ≤ 1000) (q1 : ¬ GoalOk gs (join L) → ∀ H', Same H H' → E (.ref CA) none H') (q2 : GoalOk gs (join L) → ¬ CtOk c → ∀ H', Same H H' → E (.ref CC) none H')
    (q3 : GoalOk gs (join L) → CtOk c → ∀ H' r, Same H H' → H r = none → SwAt H' r (swL zs rs t c L gs) zs rs.length → Q (.ref r) H') : qPlS K C CS CA CC [.ref p, .ref s, .ref g, .int c] H Q E := by
  unfold qPlS
  exact ⟨p, s, g, zs, rs, t, c, L, gs, rfl, X.p, X.v.small, X.s, hg, gl, (fun part i e => by rw [X.v.bad] at e; cases e), fun _ h => absurd X.o h, fun _ _ => q1, fun _ _ => q2, fun _ _ => q3⟩
theorem go_few (X : PS0 K H p s zs rs t L) (hg : SqT K H g (gs.map V.int)) (gl : gs.length ≤ 1000) (q1 : ¬ GoalOk gs (join L) → ∀ H', Same H H' → E (.ref CA) none H') (q2 : GoalOk gs (join L) → ¬ CtOk c → ∀ H', Same H H' → E (.ref CC) none H')
    (q3 : GoalOk gs (join L) → CtOk c → ∀ H', Same H H' → Q (.int ((swL zs rs t c L gs).length : Nat)) H') : qFew K C CS CA CC [.ref p, .ref s, .ref g, .int c] H Q E := by
  unfold qFew
  exact ⟨p, s, g, zs, rs, t, c, L, gs, rfl, X.p, X.v.small, X.s, hg, gl, (fun part i e => by rw [X.v.bad] at e; cases e), fun _ h => absurd X.o h, fun _ _ => q1, fun _ _ => q2, fun _ _ => q3⟩
theorem go_pls (hp : PlanAt K H p zs rs) (v : Val zs rs) (q : NewTL H (placesV zs rs.length) Q) : qPls K C [.ref p] H Q E := by
  unfold qPls
  exact ⟨p, zs, rs, rfl, hp, v.small, fun _ => q, (fun part i e => by rw [v.bad] at e; cases e)⟩
/-- a list of swaps, all of them in order -/
theorem go_swA (X : PS0 K H p s zs rs t L) {xs : List V} {sw : List (Nat × Nat)} (hr : H r = some (.lst xs)) (xl : xs.length ≤ 1000) (hl : sw.length = xs.length) (hv : ∀ (i : Nat) (v : V) (ij : Nat × Nat), xs[i]? = some v → sw[i]? = some ij → SwV K H (placesV zs rs.length) v (some ij))
    (q : NewSt K H t (spl rs.length zs (runO (join L) (sw.map some))) Q) : qSwA K C CS CW [.ref p, .ref s, .ref r] H Q E := by
  unfold qSwA
  refine ⟨p, s, r, zs, rs, t, L, xs, sw.map some, rfl, X.p, X.v.small, X.s, hr, xl, by rw [List.length_map]; exact hl, (fun part i e => by rw [X.v.bad] at e; cases e), fun _ h => absurd X.o h, fun _ _ => ⟨fun i v o hx ho => ?_, fun k hk => ?_, fun _ => q⟩⟩
  · rw [List.getElem?_map] at ho
    cases hs : sw[i]? with
    | none => rw [hs] at ho; cases ho
    | some ij =>
      rw [hs] at ho
      obtain rfl := Option.some.inj ho
      exact hv i v ij hx hs
  · rw [List.getElem?_map] at hk
    cases hs : sw[k]? with
    | none => rw [hs] at hk; cases hk
    | some ij => rw [hs] at hk; cases hk
/-- a list of swaps whose last is none -/
theorem go_swE (X : PS0 K H p s zs rs t L) {xs : List V} {v : V} {sw : List (Nat × Nat)} (hr : H r = some (.lst (xs ++ [v]))) (xl : xs.length ≤ 900) (hl : sw.length = xs.length) (hv : ∀ (i : Nat) (v : V) (ij : Nat × Nat), xs[i]? = some v → sw[i]? = some ij → SwV K H (placesV zs rs.length) v (some ij)) (hn : SwV K H (placesV zs rs.length) v none)
    (q : SwapE CW H (xs.length : Nat) E) : qSwA K C CS CW [.ref p, .ref s, .ref r] H Q E := by
  unfold qSwA
  refine ⟨p, s, r, zs, rs, t, L, xs ++ [v], sw.map some ++ [none], rfl, X.p, X.v.small, X.s, hr, by rw [List.length_append, List.length_singleton]; omega, by rw [List.length_append, List.length_append, List.length_map, hl]; rfl, (fun part i e => by rw [X.v.bad] at e; cases e), fun _ h => absurd X.o h, fun _ _ => ⟨fun i w o hx ho => ?_, fun k hk hb => ?_, fun h => absurd rfl (h none (List.mem_append.mpr (.inr (List.mem_singleton.mpr rfl))))⟩⟩
  · by_cases hi : i < xs.length
    · rw [List.getElem?_append_left hi] at hx
      rw [List.getElem?_append_left (by rw [List.length_map]; omega), List.getElem?_map] at ho
      cases hs : sw[i]? with
      | none => rw [hs] at ho; cases ho
      | some ij =>
        rw [hs] at ho
        obtain rfl := Option.some.inj ho
        exact hv i w ij hx hs
    · have : i = xs.length := by
        have := (List.getElem?_eq_some_iff.mp hx).1
        rw [List.length_append, List.length_singleton] at this
        omega
      subst this
      rw [List.getElem?_append_right (Nat.le_refl _), Nat.sub_self] at hx
      rw [List.getElem?_append_right (by rw [List.length_map]; omega), List.length_map, hl, Nat.sub_self] at ho
      obtain rfl := Option.some.inj hx
      obtain rfl := Option.some.inj ho
      exact hn
  · have : k = xs.length := by
      refine Nat.le_antisymm ?_ (Nat.le_of_not_lt fun hlt => ?_)
      · have := (List.getElem?_eq_some_iff.mp hk).1
        rw [List.length_append, List.length_map, List.length_singleton] at this
        omega
      · rw [List.getElem?_append_left (by rw [List.length_map]; omega), List.getElem?_map] at hk
        cases hs : sw[k]? with
        | none => rw [hs] at hk; cases hk
        | some ij => rw [hs] at hk; cases hk
    subst this
    exact q
end
end Sv
set_option maxHeartbeats 8000000
namespace Sv
open PySem PySem.Spec PyProof.Rows L2 LamX NdefX
theorem seq_abs {a b : TS} {D : Ends} {σ : L2.St} {H : Hp} (h : ∀ b' : TS, b' = b → tSeq a b' D σ H) : tSeq a b D σ H := h _ rfl
theorem getD_i {l : List Int} {i : Nat} (h : i < l.length) : l.getD i 0 = l[i] := by
  rw [List.getD_eq_getElem?_getD, List.getElem?_eq_getElem h]
  rfl
theorem xch_perm {l : List Int} {i j : Nat} (hi : i < l.length) (hj : j < l.length) : (xch l i j).Perm l := by
  unfold xch
  rw [getD_i hi, getD_i hj]
  exact List.set_set_perm hi hj
section
variable {P : Program} {w : World} {K : PySem.W.Frag} {mg : Str → Option Value} {base : Heap}
def nMx : List Str := ["_law_h", "_law_row", "_law_changes", "_law_found", "_law_k", "_law_one", "_law_other"]
theorem scMx : FnScope nMx ["_law_h", "_law_row", "_law_changes"] (defScope sMixed) := ⟨rfl, rfl, rfl, by decide +kernel, rfl, by decide +kernel, by decide +kernel⟩
def spMx (K : PySem.W.Frag) : Sp := fun vs H Q _ => ∃ (h l r : Addr) (ns : List Int) (c : Int), vs = [.ref h, .ref r, .int c] ∧ LawH H h l ∧ SqT K H r (ns.map V.int) ∧ (1 ≤ ns.length ∧ ns.length ≤ 900) ∧ (0 ≤ c ∧ c ≤ 900) ∧
  ∀ H' (u : Addr) (gs : List Int), St h l H H' → SqT K H' u (gs.map V.int) → gs.Perm ns → Q (.ref u) H'
theorem ok_mx (T : Bd P K mg) : FnOk P w K mg base CX0 2 T.aLMixed T.dLMixed ["_law_h", "_law_row", "_law_changes"] (spMx K) := by
  have GN : FnOk P w K mg base CX0 1 T.aLNext T.dLNext ["_law_h", "_law_limit"] qNext := by unfold qNext; exact ok_next T.LNext.F T.bt
  refine T.LMixed.F.ok scMx (fun vs H Q E h => ?_) (fun cdv A outer s H vs Q E hr h => ?_)
  · obtain ⟨h, l, r, ns, c, rfl, _⟩ := h
    rfl
  · obtain ⟨h, l, r, ns, c, rfl, L0, R0, nl, hc, q⟩ := h
    refine ⟨_, pss_cons (ps_set (i := 3) scMx.nd rfl (Or.inl rfl) (pe_callTy call_list_of (by rfl) T.bt.list b_list (pa_cons (pv 1) pa_nil)))
      (pss_cons (ps_for PassesOwn.never rfl (pi_range1 (by rfl) T.bt.range (pa_cons (pv 2) pa_nil)) (pg_name (i := 4) scMx.nd rfl (Or.inl rfl))
        (pss_cons (ps_par (i := 5) (j := 6) rfl scMx.nd rfl rfl (by decide) rfl rfl (pa_cons (pe_call (E := E0) GN (hr.mono (by decide)) (by rfl) T.LNext.g T.LNext.F.kp T.LNext.b .nil pass0 (pa_cons (pv 0) (pa_cons (pe_callB call_len_seq (by rfl) T.bt.len b_len (pa_cons (pv 3) pa_nil)) pa_nil))) (pa_cons (pe_call (E := E0) GN (hr.mono (by decide)) (by rfl) T.LNext.g T.LNext.F.kp T.LNext.b .nil pass0 (pa_cons (pv 0) (pa_cons (pe_callB call_len_seq (by rfl) T.bt.len b_len (pa_cons (pv 3) pa_nil)) pa_nil))) pa_nil)) (by rfl))
      (pss_one (ps_asg (pe_tup (pa_cons (pe_ix ix_list (pv 3) (pv 6) (fun _ _ => rfl)) (pa_cons (pe_ix ix_list (pv 3) (pv 5) (fun _ _ => rfl)) pa_nil))) (pg_tup rfl (pgs_cons (pg_sub (pv 3) (pv 5) set_list) (pgs_cons (pg_sub (pv 3) (pv 6) set_list) pgs_nil)))))))
      (pss_one (ps_ret (pe_callTy call_tuple_of (by rfl) T.bt.tuple b_tuple (pa_cons (pv 3) pa_nil))))), ?_⟩
    have eS : L2.start nMx [.ref h, .ref r, .int c] = [some (.ref h), some (.ref r), some (.int c), none, none, none, none] := rfl
    rw [eS]
    refine seq_abs fun bT eT => ?_
    refine ⟨.ref r, rfl, r, _, rfl, .inr R0, fun D hD => ?_⟩
    have nD := L0.nh hD
    have S1 : St h l H (upd H D (.lst (ns.map V.int))) := (St.refl L0).upd hD nD.1 nD.2
    have k1 : (upd H D (.lst (ns.map V.int))) D = some (.lst (ns.map V.int)) := upd_same
    generalize upd H D (.lst (ns.map V.int)) = H1 at S1 k1 ⊢
    show bT _ _ _
    subst eT
    refine seq_abs fun bT eT => ?_
    refine ⟨.int c, rfl, c, rfl, by omega, by omega, ?_⟩
    refine for_range (lo := 0) (n := c.toNat) (fun i σ H' => (∃ x4 x5 x6, σ = [some (.ref h), some (.ref r), some (.int c), some (.ref D), x4, x5, x6]) ∧ St h l H H' ∧ ∃ gs : List Int, H' D = some (.lst (gs.map V.int)) ∧ gs.Perm ns)
      ⟨⟨_, _, _, rfl⟩, S1, ns, k1, .refl _⟩ (fun i σ H3 hi ⟨⟨x4, x5, x6, es⟩, S3, gs, k3, pm⟩ => ?_) (fun σ H3 ⟨⟨x4, x5, x6, es⟩, S3, gs, k3, pm⟩ => ?_)
    · subst es
      clear S1 k1
      have gl := pm.length_eq
      refine seq_abs fun bT2 eT2 => ?_
      refine ⟨.ref h, rfl, .ref D, rfl, D, _, rfl, .inl (.inl (.inl k3)), ?_⟩
      rw [List.length_map]
      show qNext _ _ _ _
      refine go_next S3.law (by omega) (by omega) fun a H4 ha L4 x4' => ?_
      have S4 := S3.next L4 x4'
      have k4 := x4' _ _ nD.1 nD.2 k3
      refine ⟨.ref h, rfl, .ref D, rfl, D, _, rfl, .inl (.inl (.inl k4)), ?_⟩
      rw [List.length_map]
      show qNext _ _ _ _
      refine go_next S4.law (by omega) (by omega) fun b H5 hb L5 x5' => ?_
      have S5 := S4.next L5 x5'
      have k5 := x5' _ _ nD.1 nD.2 k4
      clear S3 S4 k3 k4 L4 x4' L5 x5'
      refine ⟨_, _, rfl, ?_⟩
      show bT2 _ _ _
      subst eT2
      have hi' : a < gs.length := by omega
      have hj' : b < gs.length := by omega
      have ai : (gs.map V.int)[a]? = some (V.int (gs.getD a 0)) := by rw [List.getElem?_map, getD_at hi']; rfl
      have aj : (gs.map V.int)[b]? = some (V.int (gs.getD b 0)) := by rw [List.getElem?_map, getD_at hj']; rfl
      refine ⟨.ref D, rfl, .int (b : Nat), rfl, D, _, (b : Nat), .int (gs.getD b 0), rfl, rfl, .inl (.inl k5), atI_nat aj, .ref D, rfl, .int (a : Nat), rfl, D, _, (a : Nat), .int (gs.getD a 0), rfl, rfl, .inl (.inl k5), atI_nat ai, (by show 2 ≤ sizeLine; decide), fun t ht => ?_⟩
      have lt : D ≠ t := ne_of_none k5 ht
      refine ⟨t, _, rfl, .inl (.inl upd_same), rfl, _, _, rfl, .ref D, rfl, .int (a : Nat), rfl, D, _, _, a, rfl, rfl, by rw [upd_ne lt]; exact k5, ixN_nat (by rw [List.length_map]; exact hi'), ?_⟩
      refine ⟨_, _, rfl, .ref D, rfl, .int (b : Nat), rfl, D, _, _, b, rfl, rfl, upd_same, ixN_nat (by rw [List.length_set, List.length_map]; exact hj'), rfl, ?_⟩
      refine ⟨⟨_, _, _, rfl⟩, ((S5.same (same_upd ht)).upd hD nD.1 nD.2).upd hD nD.1 nD.2, xch gs a b, ?_, (xch_perm hi' hj').trans pm⟩
      rw [upd_same]
      unfold xch
      rw [List.map_set, List.map_set]
    · subst es
      show bT _ _ _
      subst eT
      refine ⟨.ref D, rfl, D, _, rfl, .inl ⟨.inl (.inl k3), fun u hu => q _ _ gs (S3.same (same_upd hu)) (.inl (.inl upd_same)) pm⟩⟩
end
end Sv
set_option maxHeartbeats 8000000
namespace Sv
open PySem PySem.Spec PyProof.Rows L2 LamX NdefX
structure SeenI (n : Nat) (f : Nat → Nat) (i : Nat) (S : List Nat) : Prop where
  nd : S.Nodup
  m : ∀ q, q ∈ S ↔ q < n ∧ ∃ p, p < i ∧ Orb f p q
theorem SeenI.start (n : Nat) (f : Nat → Nat) : SeenI n f 0 [] := ⟨List.nodup_nil, fun q => ⟨(fun h => nomatch h), fun ⟨_, p, hp, _⟩ => absurd hp (Nat.not_lt_zero _)⟩⟩
section
variable {n i : Nat} {f : Nat → Nat} {S : List Nat}
theorem SeenI.skip (x : SeenI n f i S) (h : Pm n f) (hn : i < n) (hi : i ∈ S) : SeenI n f (i + 1) S ∧ ¬ mnP f i := by
  obtain ⟨_, p, hp, o⟩ := (x.m i).mp hi
  refine ⟨⟨x.nd, fun q => ⟨fun hq => ?_, fun ⟨hq, p', hp', o'⟩ => ?_⟩⟩, fun hm => ?_⟩
  · obtain ⟨a, p', b, c⟩ := (x.m q).mp hq
    exact ⟨a, p', by omega, c⟩
  · by_cases e : p' = i
    · rw [e] at o'
      exact (x.m q).mpr ⟨hq, p, hp, o.trans o'⟩
    · exact (x.m q).mpr ⟨hq, p', by omega, o'⟩
  · have := hm p (o.symm h (by omega))
    omega
theorem SeenI.new (x : SeenI n f i S) (h : Pm n f) (hn : i < n) (hi : i ∉ S) : mnP f i := fun q hq => by
  refine Nat.le_of_not_lt fun hlt => hi ((x.m i).mpr ⟨hn, q, hlt, hq.symm h hn⟩)
/-- a walk from i -/
def wkF (f : Nat → Nat) (i k : Nat) : List Nat := (List.range k).map fun j => itF f j i
theorem wkF_succ (f : Nat → Nat) (i k : Nat) : wkF f i (k + 1) = wkF f i k ++ [itF f k i] := by
  unfold wkF
  rw [List.range_succ, List.map_append]
  rfl
theorem wkF_mem {f : Nat → Nat} {i k q : Nat} : q ∈ wkF f i k ↔ ∃ j, j < k ∧ itF f j i = q := by
  unfold wkF
  rw [List.mem_map]
  exact ⟨fun ⟨j, h, e⟩ => ⟨j, List.mem_range.mp h, e⟩, fun ⟨j, h, e⟩ => ⟨j, List.mem_range.mpr h, e⟩⟩
theorem walk_next {k : Nat} (nd : (S ++ wkF f i k).Nodup) (hk : itF f k i ∉ S ++ wkF f i k) : (S ++ wkF f i (k + 1)).Nodup := by
  rw [wkF_succ, ← List.append_assoc]
  refine List.nodup_append.mpr ⟨nd, List.nodup_cons.mpr ⟨(fun h => nomatch h), List.nodup_nil⟩, fun a ha b hb e => hk ?_⟩
  rw [List.mem_singleton.mp hb] at e
  rw [← e]
  exact ha
theorem walk_lt (x : SeenI n f i S) (h : Pm n f) (hn : i < n) (k : Nat) : ∀ q ∈ S ++ wkF f i k, q < n := fun q hq => by
  rcases List.mem_append.mp hq with hq | hq
  · exact ((x.m q).mp hq).1
  · obtain ⟨j, _, rfl⟩ := wkF_mem.mp hq
    exact itF_lt h j hn
theorem walk_end {k : Nat} (x : SeenI n f i S) (h : Pm n f) (hn : i < n) (hi : i ∉ S) (nd : (S ++ wkF f i k).Nodup) (hk : itF f k i ∈ S ++ wkF f i k) : SeenI n f (i + 1) (S ++ wkF f i k) := by
  rcases List.mem_append.mp hk with hk | hk
  · exfalso
    obtain ⟨_, p, hp, o⟩ := (x.m _).mp hk
    have : Orb f i (itF f k i) := ⟨k, rfl⟩
    exact hi ((x.m i).mpr ⟨hn, p, hp, o.trans (this.symm h hn)⟩)
  · obtain ⟨j, hj, ej⟩ := wkF_mem.mp hk
    have cl : ∀ m, itF f m i ∈ wkF f i k := fun m => by
      induction m with
      | zero => exact wkF_mem.mpr ⟨0, by omega, rfl⟩
      | succ m ih =>
        obtain ⟨a, ha, ea⟩ := wkF_mem.mp ih
        show f (itF f m i) ∈ _
        rw [← ea]
        by_cases e : a + 1 = k
        · refine wkF_mem.mpr ⟨j, hj, ?_⟩
          rw [ej, ← e]
          rfl
        · exact wkF_mem.mpr ⟨a + 1, by omega, rfl⟩
    refine ⟨nd, fun q => ⟨fun hq => ?_, fun ⟨hq, p, hp, o⟩ => ?_⟩⟩
    · rcases List.mem_append.mp hq with hq | hq
      · obtain ⟨a, p, b, c⟩ := (x.m q).mp hq
        exact ⟨a, p, by omega, c⟩
      · obtain ⟨a, _, rfl⟩ := wkF_mem.mp hq
        exact ⟨itF_lt h a hn, i, by omega, a, rfl⟩
    · by_cases e : p = i
      · obtain ⟨m, rfl⟩ := o
        rw [e]
        exact List.mem_append.mpr (.inr (cl m))
      · exact List.mem_append.mpr (.inl ((x.m q).mpr ⟨hq, p, by omega, o⟩))
end
theorem mem_nInts {x : Nat} {l : List Nat} : (x : Int) ∈ nInts l ↔ x ∈ l := by
  unfold nInts
  rw [List.mem_map]
  exact ⟨fun ⟨y, h, e⟩ => by have : y = x := by omega
                             rw [← this]; exact h, fun h => ⟨x, h, rfl⟩⟩
theorem nInts_app (a b : List Nat) : nInts (a ++ b) = nInts a ++ nInts b := by unfold nInts; rw [List.map_append]
theorem nInts_len (a : List Nat) : (nInts a).length = a.length := by unfold nInts; rw [List.length_map]
section
variable {P : Program} {w : World} {K : PySem.W.Frag} {mg : Str → Option Value} {base : Heap}
def nWh : List Str := ["_law_one", "_law_other", "_law_found", "_law_seen_here", "_law_start", "_law_spot"]
theorem scWh : FnScope nWh ["_law_one", "_law_other"] (defScope sLawWheels) := ⟨rfl, rfl, rfl, by decide +kernel, rfl, by decide +kernel, by decide +kernel⟩
def spWh (K : PySem.W.Frag) : Sp := fun vs H Q _ => ∃ (a b : Addr) (ns gs : List Int), vs = [.ref a, .ref b] ∧ TupF H a (ns.map V.int) ∧ SqT K H b (gs.map V.int) ∧ gs.Perm ns ∧ ns.Nodup ∧ ns.length ≤ 900 ∧
  ∀ H', Same H H' → Q (.int (cn ns.length (mnP fun p => ixOf ns (gs.getD p 0)) : Nat)) H'
theorem ok_wh (T : Bd P K mg) : FnOk P w K mg base CX0 1 T.aLLawWheels T.dLLawWheels ["_law_one", "_law_other"] (spWh K) := by
  refine T.LLawWheels.F.ok scWh (fun vs H Q E h => ?_) (fun cdv A outer s H vs Q E hr h => ?_)
  · obtain ⟨a, b, ns, gs, rfl, _⟩ := h
    rfl
  · obtain ⟨a, b, ns, gs, rfl, hA, hB, pm, nd, nl, q⟩ := h
    refine ⟨_, pss_cons (ps_par (i := 2) (j := 3) rfl scWh.nd rfl rfl (by decide) rfl rfl (pa_cons (pe_int) (pa_cons (pe_lst pa_nil) pa_nil)) (by rfl))
      (pss_cons (ps_for PassesOwn.never rfl (pi_range1 (by rfl) T.bt.range (pa_cons (pe_callB call_len_seq (by rfl) T.bt.len b_len (pa_cons (pv 0) pa_nil)) pa_nil)) (pg_name (i := 4) scWh.nd rfl (Or.inl rfl))
        (pss_one (ps_if (pt_cmpR op_notIn_seq (pv 4) (pv 3) (by rfl)) (pss_cons (ps_par (i := 2) (j := 5) rfl scWh.nd rfl rfl (by decide) rfl rfl (pa_cons (pe_op op_add (pv 2) (pe_int)) (pa_cons (pv 4) pa_nil)) (by rfl))
      (pss_one (ps_while PassesOwn.never (pt_cmpR op_notIn_seq (pv 5) (pv 3) (by rfl)) (pss_cons (ps_expr (pe_bm PySem.F.plainAttrs_list PySem.F.slot_list_append PySem.F.type_list_append mt_append (pv 3) (pa_cons (pv 5) pa_nil)))
      (pss_one (ps_set (i := 5) scWh.nd rfl (Or.inl rfl) (pe_tupM PySem.F.slot_tuple_index PySem.F.type_tuple_index mt_tupIx (pv 0) (pa_cons (pe_ix ix_tup (pv 1) (pv 5) (fun _ _ => rfl)) pa_nil)))))))) pss_nil)))
      (pss_one (ps_ret (pv 2)))), ?_⟩
    have eS : L2.start nWh [.ref a, .ref b] = [some (.ref a), some (.ref b), none, none, none, none] := rfl
    rw [eS]
    have gl := pm.length_eq
    have PF : Pm ns.length (fun p => ixOf ns (gs.getD p 0)) := gW_pm nd pm
    have ixs : ∀ p, p < ns.length → ns[ixOf ns (gs.getD p 0)]? = some (gs.getD p 0) := fun p hp => (ixOf_at (pm.mem_iff.mp (List.mem_of_getElem? (getD_at (by omega))))).1
    generalize hf : (fun p => ixOf ns (gs.getD p 0)) = f at q PF
    have fx : ∀ p, f p = ixOf ns (gs.getD p 0) := fun p => by rw [← hf]
    refine seq_abs fun bT eT => ?_
    refine ⟨Nat.zero_le _, fun D hD => ⟨_, _, rfl, ?_⟩⟩
    have S1 : Same H (upd H D (.lst [])) := same_upd hD
    have k1 : (upd H D (.lst [])) D = some (.lst ((nInts []).map V.int)) := upd_same
    generalize upd H D (.lst []) = H1 at S1 k1 ⊢
    show bT _ _ _
    subst eT
    refine seq_abs fun bT eT => ?_
    refine ⟨.ref a, rfl, a, _, rfl, .inr (TupF.sq (hA.same S1)), (ns.length : Nat), by rw [List.length_map], by omega, by omega, ?_⟩
    refine for_range (lo := 0) (n := ((ns.length : Nat) : Int).toNat) (fun i σ H' => (∃ x4 x5, σ = [some (.ref a), some (.ref b), some (.int (cn i (mnP f) : Nat)), some (.ref D), x4, x5]) ∧ Same H H' ∧ ∃ S : List Nat, H' D = some (.lst ((nInts S).map V.int)) ∧ SeenI ns.length f i S)
      ⟨⟨_, _, rfl⟩, S1, [], k1, SeenI.start _ _⟩ (fun i σ H3 hi ⟨⟨x4, x5, es⟩, S3, S, k3, sn⟩ => ?_) (fun σ H3 ⟨⟨x4, x5, es⟩, S3, S, k3, sn⟩ => ?_)
    · subst es
      clear S1 k1
      have hi' : i < ns.length := by omega
      refine ⟨.int (0 + (i : Nat)), rfl, .ref D, rfl, D, _, rfl, .inl (.inl (.inl k3)), rfl, flat_ints _, _, rfl, ?_⟩
      rw [Int.zero_add, inV_ints]
      by_cases hm : i ∈ S
      · rw [decide_eq_true (mem_nInts.mpr hm)]
        obtain ⟨sn2, nm⟩ := sn.skip PF hi' hm
        have cs0 : cn (i + 1) (mnP f) = cn i (mnP f) := by rw [cn_succ, if_neg nm, Nat.add_zero]
        refine iteF ⟨⟨some (.int (i : Nat)), x5, by rw [cs0]; rfl⟩, S3, S, k3, sn2⟩
      · rw [decide_eq_false (fun z => hm (mem_nInts.mp z))]
        refine iteT ?_
        have mn := sn.new PF hi' hm
        refine seq_abs fun bT2 eT2 => ?_
        refine ⟨_, rfl, _, _, rfl, rfl, _, rfl, _, _, rfl, ?_⟩
        show bT2 _ _ _
        subst eT2
        have nd0 : (S ++ wkF f i 0).Nodup := by
          show (S ++ []).Nodup
          rw [List.append_nil]
          exact sn.nd
        have k30 : H3 D = some (.lst ((nInts (S ++ wkF f i 0)).map V.int)) := by
          show H3 D = some (.lst ((nInts (S ++ [])).map V.int))
          rw [List.append_nil]
          exact k3
        have cs : cn (i + 1) (mnP f) = cn i (mnP f) + 1 := by rw [cn_succ, if_pos mn]
        refine while_by (fun σ H' => ∃ k, σ = [some (.ref a), some (.ref b), some (.int ((cn i (mnP f) : Nat) + 1)), some (.ref D), some (.int (i : Nat)), some (.int (itF f k i : Nat))] ∧ Same H H' ∧ H' D = some (.lst ((nInts (S ++ wkF f i k)).map V.int)) ∧ (S ++ wkF f i k).Nodup) (fun σ H' => match H' D with | some (.lst xs) => ns.length + 1 - xs.length | _ => 0)
          ⟨0, ?_, S3, k30, nd0⟩ (fun σ H4 hP => ?_) (fun σ H4 Q1 Q2 mono h => ?_)
        · show _ = [some (V.ref a), some (V.ref b), some (V.int ((cn i (mnP f) : Nat) + 1)), some (V.ref D), some (V.int (i : Nat)), some (V.int (i : Nat))]
          rw [← Int.zero_add ((i : Nat) : Int)]
          rfl
        · obtain ⟨k, rfl, S4, k4, nd4⟩ := hP
          clear S3 k3 k30
          have hlt := walk_lt sn PF hi' k
          have ln := below_len nd4 hlt
          have hm4 : (match H4 D with | some (.lst xs) => ns.length + 1 - xs.length | _ => 0) = ns.length + 1 - (S ++ wkF f i k).length := by
            rw [k4]
            show ns.length + 1 - ((nInts (S ++ wkF f i k)).map V.int).length = _
            rw [List.length_map, nInts_len]
          refine ⟨.int (itF f k i : Nat), rfl, .ref D, rfl, D, _, rfl, .inl (.inl (.inl k4)), rfl, flat_ints _, _, rfl, ?_⟩
          rw [inV_ints]
          by_cases hk : itF f k i ∈ S ++ wkF f i k
          · rw [decide_eq_true (mem_nInts.mpr hk)]
            refine iteF ⟨⟨some (.int (i : Nat)), some (.int (itF f k i : Nat)), ?_⟩, S4, _, k4, walk_end sn PF hi' hm nd4 hk⟩
            rw [cs]
            rfl
          · rw [decide_eq_false (fun z => hk (mem_nInts.mp z))]
            refine iteT ?_
            have nd5 := walk_next nd4 hk
            have hlt5 := walk_lt sn PF hi' (k + 1)
            have ln5 := below_len nd5 hlt5
            have l5 : (S ++ wkF f i (k + 1)).length = (S ++ wkF f i k).length + 1 := by
              rw [wkF_succ, ← List.append_assoc, List.length_append, List.length_singleton]
            refine seq_abs fun bT3 eT3 => ?_
            refine ⟨.ref D, rfl, .inl ⟨rfl, _, .inl (.inl k4)⟩, .int (itF f k i : Nat), rfl, D, _, _, rfl, rfl, k4, ?_, ?_⟩
            · rw [List.length_map, nInts_len]
              exact small1000 (by omega)
            · have S5 : Same H (upd H4 D (.lst ((nInts (S ++ wkF f i k)).map V.int ++ [.int (itF f k i : Nat)]))) := same_of S4 hD
              have k5 : (upd H4 D (.lst ((nInts (S ++ wkF f i k)).map V.int ++ [.int (itF f k i : Nat)]))) D = some (.lst ((nInts (S ++ wkF f i (k + 1))).map V.int)) := by
                rw [upd_same, wkF_succ, ← List.append_assoc, nInts_app (S ++ wkF f i k), List.map_append]
                rfl
              generalize upd H4 D (.lst ((nInts (S ++ wkF f i k)).map V.int ++ [.int (itF f k i : Nat)])) = H5 at S5 k5 ⊢
              show bT3 _ _ _
              subst eT3
              have sp := itF_lt PF k hi'
              have g5 : (gs.map V.int)[itF f k i]? = some (V.int (gs.getD (itF f k i) 0)) := by rw [List.getElem?_map, getD_at (by omega)]; rfl
              have n5 : (ns.map V.int)[f (itF f k i)]? = some (V.int (gs.getD (itF f k i) 0)) := by rw [List.getElem?_map, fx, ixs _ sp]; rfl
              obtain ⟨oa, ka, da⟩ := hA.same S5
              refine ⟨.ref a, rfl, ⟨a, oa, _, rfl, ka, da⟩, .ref b, rfl, .int (itF f k i : Nat), rfl, b, _, (itF f k i : Nat), .int (gs.getD (itF f k i) 0), rfl, rfl, sqT_same S5 hB, atI_nat g5, a, _, .int (gs.getD (itF f k i) 0), .int (gs.getD (itF f k i) 0), f (itF f k i), rfl, rfl, (hA.same S5).sq, rfl, flat_ints _, n5, by rw [eqV_int]; simp, fun m z hm2 hz => ?_, ?_⟩
              · obtain ⟨z1, hz1, rfl⟩ := iV_lt hz
                rw [eqV_int]
                refine decide_eq_false fun e2 => ?_
                rw [e2] at hz1
                have h9 := ixs _ sp
                rw [← fx] at h9
                have := at_one nd hz1 h9
                omega
              · refine ⟨⟨k + 1, rfl, S5, k5, nd5⟩, ?_⟩
                rw [hm4, k5]
                show ns.length + 1 - ((nInts (S ++ wkF f i (k + 1))).map V.int).length < _
                rw [List.length_map, nInts_len]
                omega
        · obtain ⟨x, hx, y, hy, l, xs, e, hS, f1, f2, b', hb, hq⟩ := h
          exact ⟨x, hx, y, hy, l, xs, e, hS, f1, f2, b', hb, mono _ _ hq⟩
    · subst es
      show bT _ _ _
      subst eT
      exact ⟨_, rfl, q _ S3⟩
end
end Sv
set_option maxHeartbeats 4000000
namespace Sv
open PySem PySem.Spec PyProof.Rows L2 LamX NdefX
section
variable {X : Cx} {k : Nat} {CS C0 C1 C2 C3 C4 C5 C6 C7 C8 C9 C10 C11 C12 C13 C14 : Addr} {In : Hp → Prop} {Sl : L2.St → Prop} {H H' : Hp} {f W : Addr} {nm : List V} {fs : List Addr} {nms : List (List V)}
/-- the lambda at f ends as nm says, wherever In holds; Sl tells the slots that it looks at -/
def Wk4 (X : Cx) (k : Nat) (CS C0 C1 C2 C3 C4 C5 C6 C7 C8 C9 C10 C11 C12 C13 C14 : Addr) (In : Hp → Prop) (Sl : L2.St → Prop) (H : Hp) (f : Addr) (nm : List V) : Prop :=
  ∃ (js : List Nat) (tl : List (Option V) → XK → Hp → VK → Prop) (ws : List (Option V)), LamIs X k H f js tl ∧ (∀ σ, Sl σ → js.map (slotAt σ) = ws) ∧ ∀ (H' : Hp) (Q : VK), In H' → NewS H' nm Q → tl ws (ErrE X.K CS C0 C1 C2 C3 C4 C5 C6 C7 C8 C9 C10 C11 C12 C13 C14 Q) H' (OkQ Q)
theorem Wk4.ext (h : Wk4 X k CS C0 C1 C2 C3 C4 C5 C6 C7 C8 C9 C10 C11 C12 C13 C14 In Sl H f nm) (e : ExtL H H') : Wk4 X k CS C0 C1 C2 C3 C4 C5 C6 C7 C8 C9 C10 C11 C12 C13 C14 In Sl H' f nm := by
  obtain ⟨js, tl, ws, h1, h2, h3⟩ := h
  exact ⟨js, tl, ws, h1.extL e, h2, h3⟩
theorem paired_monoB {α β : Type} {P P' : α → β → Prop} (h : ∀ a b, P a b → P' a b) : ∀ {xs : List α} {ys : List β}, Paired P xs ys → Paired P' xs ys
  | _, _, .nil => .nil
  | _, _, .cons a t => .cons (h _ _ a) (paired_monoB h t)
theorem paired_lenB {α β : Type} {P : α → β → Prop} : ∀ {xs : List α} {ys : List β}, Paired P xs ys → xs.length = ys.length
  | _, _, .nil => rfl
  | _, _, .cons _ t => congrArg (· + 1) (paired_lenB t)
theorem paired_ixB {α β : Type} {P : α → β → Prop} : ∀ {xs : List α} {ys : List β} {i : Nat} {a : α}, Paired P xs ys → xs[i]? = some a → ∃ b, ys[i]? = some b ∧ P a b
  | _, _, 0, _, .cons h _, e => by
    obtain rfl := Option.some.inj e
    exact ⟨_, rfl, h⟩
  | _, _, i + 1, _, .cons _ t, e => paired_ixB (i := i) t e
/-- the list of them -/
structure WL4 (X : Cx) (k : Nat) (CS C0 C1 C2 C3 C4 C5 C6 C7 C8 C9 C10 C11 C12 C13 C14 : Addr) (In : Hp → Prop) (Sl : L2.St → Prop) (H : Hp) (W : Addr) (fs : List Addr) (nms : List (List V)) : Prop where
  at_ : H W = some (.lst (fs.map V.ref))
  p : Paired (Wk4 X k CS C0 C1 C2 C3 C4 C5 C6 C7 C8 C9 C10 C11 C12 C13 C14 In Sl H) fs nms
theorem WL4.ext (h : WL4 X k CS C0 C1 C2 C3 C4 C5 C6 C7 C8 C9 C10 C11 C12 C13 C14 In Sl H W fs nms) (e : ExtL H H') (hW : H' W = H W) : WL4 X k CS C0 C1 C2 C3 C4 C5 C6 C7 C8 C9 C10 C11 C12 C13 C14 In Sl H' W fs nms :=
  ⟨hW.trans h.at_, paired_monoB (fun _ _ q => q.ext e) h.p⟩
theorem WL4.en (h : WL4 X k CS C0 C1 C2 C3 C4 C5 C6 C7 C8 C9 C10 C11 C12 C13 C14 In Sl H W fs nms) (e : ExtN H H') : WL4 X k CS C0 C1 C2 C3 C4 C5 C6 C7 C8 C9 C10 C11 C12 C13 C14 In Sl H' W fs nms :=
  ⟨e _ _ h.at_ (fun _ z => nomatch z), paired_monoB (fun _ _ q => q.ext (.n e)) h.p⟩
theorem WL4.sm (h : WL4 X k CS C0 C1 C2 C3 C4 C5 C6 C7 C8 C9 C10 C11 C12 C13 C14 In Sl H W fs nms) (e : Same H H') : WL4 X k CS C0 C1 C2 C3 C4 C5 C6 C7 C8 C9 C10 C11 C12 C13 C14 In Sl H' W fs nms := h.en (extN_same e)
/-- more behind them -/
theorem WL4.more {gs : List Addr} {ms : List (List V)} (h : WL4 X k CS C0 C1 C2 C3 C4 C5 C6 C7 C8 C9 C10 C11 C12 C13 C14 In Sl H W fs nms) (g : Paired (Wk4 X k CS C0 C1 C2 C3 C4 C5 C6 C7 C8 C9 C10 C11 C12 C13 C14 In Sl H) gs ms) : WL4 X k CS C0 C1 C2 C3 C4 C5 C6 C7 C8 C9 C10 C11 C12 C13 C14 In Sl (L2.upd H W (.lst (fs.map V.ref ++ gs.map V.ref))) W (fs ++ gs) (nms ++ ms) := by
  have e : ExtL H (L2.upd H W (.lst (fs.map V.ref ++ gs.map V.ref))) := ExtL.upd h.at_
  refine ⟨by rw [upd_same, List.map_append], ?_⟩
  have app : ∀ {as : List Addr} {bs : List (List V)} {cs : List Addr} {ds : List (List V)}, Paired (Wk4 X k CS C0 C1 C2 C3 C4 C5 C6 C7 C8 C9 C10 C11 C12 C13 C14 In Sl H) as bs → Paired (Wk4 X k CS C0 C1 C2 C3 C4 C5 C6 C7 C8 C9 C10 C11 C12 C13 C14 In Sl H) cs ds → Paired (Wk4 X k CS C0 C1 C2 C3 C4 C5 C6 C7 C8 C9 C10 C11 C12 C13 C14 In Sl H) (as ++ cs) (bs ++ ds) := by
    intro as bs cs ds a b
    induction a with
    | nil => exact b
    | cons q t ih => exact .cons q ih
  exact paired_monoB (fun _ _ q => q.ext e) (app h.p g)
end
theorem tupsV_snocB {H : Hp} {q : Addr} {x : List V} (h : H q = some (.tup x)) : ∀ {ps : List Addr} {ts : List (List V)}, TupsV H ps ts → TupsV H (ps ++ [q]) (ts ++ [x])
  | _, _, .nil => .cons h .nil
  | _, _, .cons a t => .cons a (tupsV_snocB h t)
theorem nm_step4 {T : List (Addr × Str)} {Hw H' : Hp} {D : Addr} {ps : List Addr} {nms : List (List V)} {nm : List V} (hD : Hw D = none) (e : ExtN Hw H') (t : Tabs T H') (hd : H' D = some (.lst (ps.map V.ref))) (hp : TupsV H' ps nms) (hi : ps.length < 1000) :
    NewS H' nm (fun y H4 => ∃ acc, H4 D = some (.lst acc) ∧ acc.length < sizeLine ∧ (ExtN Hw (L2.upd H4 D (.lst (acc ++ [y]))) ∧ Tabs T (L2.upd H4 D (.lst (acc ++ [y]))) ∧ ∃ ps' : List Addr, (L2.upd H4 D (.lst (acc ++ [y]))) D = some (.lst (ps'.map V.ref)) ∧ TupsV (L2.upd H4 D (.lst (acc ++ [y]))) ps' (nms ++ [nm]))) := fun H4 p sm hp0 hk => by
  refine ⟨_, sm _ _ hd, ?_, fun b o hb hn => ?_, tabs_upd (t.ext sm) (sm _ _ hd), ps ++ [p], ?_, ?_⟩
  · rw [List.length_map]
    exact small1000 (Nat.le_of_lt hi)
  · rw [upd_ne (ne_of_none hb hD)]
    exact sm _ _ (e b o hb hn)
  · rw [upd_same, List.map_append]
    rfl
  · have h3 : TupsV H4 (ps ++ [p]) (nms ++ [nm]) := by
      exact tupsV_snocB hk (tupsV_imp (fun _ _ => sm _ _) hp)
    refine tupsV_imp (fun a xs q => ?_) h3
    rw [upd_ne (fun z => by rw [z, sm _ _ hd] at q; cases q)]
    exact q
section
variable {X : Cx} {k : Nat} {CS C0 C1 C2 C3 C4 C5 C6 C7 C8 C9 C10 C11 C12 C13 C14 : Addr} {In : Hp → Prop} {Sl : L2.St → Prop} {H : Hp} {W D : Addr} {fs : List Addr} {nms : List (List V)} {TT : List (Addr × Str)} {σ : L2.St} {i0 : Nat} {vs : List Nat} {Qd : Hp → Prop}
/-- [_law_error(call) for call in works] -/
theorem lc_errs4 (w : WL4 X k CS C0 C1 C2 C3 C4 C5 C6 C7 C8 C9 C10 C11 C12 C13 C14 In Sl H W fs nms) (hs : Sl σ) (hT : Tabs TT H) (hIn : ∀ H', ExtN H H' → Tabs TT H' → In H') (hl : nms.length ≤ 900) (hD : H D = none) (hv : ∀ v : V, ((wipe σ vs).set i0 (some v))[i0]? = some (some v) ∧ wipe ((wipe σ vs).set i0 (some v)) vs = wipe σ vs)
    (hd : ∀ H', ExtN H H' → Tabs TT H' → (∃ ps : List Addr, H' D = some (.lst (ps.map V.ref)) ∧ TupsV H' ps nms) → Qd H') :
    ∃ Wr : Nat → Nat → Hp → Prop, (∃ m, Wr 0 m (upd H D (.lst []))) ∧ ∀ i m H, Wr i m H →
      ((Itl X.K W).stop i H ∧ Qd H) ∨ ((Itl X.K W).go i H ∧ ∃ Nx : Hp → Prop, (∀ H', Nx H' → ∃ m', m' < m ∧ Wr (i + 1) m' H') ∧ ∀ x H', (Itl X.K W).yld i H x H' → gName i0 x (wipe σ vs) H' fun σ2 H2 => wipe σ2 vs = wipe σ vs ∧ tYes σ2 H2 fun b H3 =>
        if b = true then tErrB X k i0 σ CS C0 C1 C2 C3 C4 C5 C6 C7 C8 C9 C10 C11 C12 C13 C14 σ2 H3 fun y H4 => ∃ acc, H4 D = some (.lst acc) ∧ acc.length < sizeLine ∧ Nx (upd H4 D (.lst (acc ++ [y]))) else Nx H3) := by
  refine lc_list (xs := fs.map V.ref) (fun i H' => ExtN H H' ∧ Tabs TT H' ∧ ∃ ps : List Addr, H' D = some (.lst (ps.map V.ref)) ∧ TupsV H' ps (nms.take i))
    ⟨extN_same (same_upd hD), hT.ext (same_upd hD), [], upd_same, .nil⟩ (fun i H' _ h => .inl (.inl (h.1 _ _ w.at_ (fun _ z => nomatch z)))) (fun i x H' hx ⟨e, t, ps, hd2, hp⟩ => ?_) (fun H' ⟨e, t, ps, hd2, hp⟩ => ?_)
  · rw [List.getElem?_map] at hx
    cases hf : fs[i]? with
    | none => rw [hf] at hx; cases hx
    | some f =>
      rw [hf] at hx
      obtain rfl := Option.some.inj hx
      obtain ⟨nm, hnm, js, tl, ws, h1, h2, h3⟩ := paired_ixB w.p hf
      have il := (List.getElem?_eq_some_iff.mp hnm).1
      have pl := tupsV_len hp
      rw [List.length_take] at pl
      have st := nm_step4 (nm := nm) hD e t hd2 hp (by omega)
      have et : nms.take (i + 1) = nms.take i ++ [nm] := by rw [List.take_add_one, hnm]; rfl
      rw [et]
      refine ⟨(hv (.ref f)).2, yes_go ⟨f, js, tl, (hv (.ref f)).1, h1.extL (.n e), ?_⟩⟩
      rw [h2 σ hs]
      exact h3 H' _ (hIn H' e t) st
  · have fl := paired_lenB w.p
    rw [List.length_map, fl, List.take_length] at hp
    exact hd H' e t ⟨ps, hd2, hp⟩
end
end Sv
set_option maxHeartbeats 8000000
namespace Sv
open PySem PySem.Spec PyProof.Rows L2 LamX NdefX
section
variable {X : Cx}
def lamE0 : Expr := (eElts (sVal ((defBody sErrsRight).getD 1 (.Pass ⟨0, 0, 0, 0⟩)))).getD 0 zE
def tlE0 (K : PySem.W.Frag) (C CS CA CC : Addr) : List (Option V) → XK → Hp → VK → Prop := fun ws E H Q => ∃ (F : Int) (g : Addr) (p : Addr) (s : Addr), ws = [some (.int F), some (.ref g), some (.ref p), some (.ref s)] ∧ ∃ gs : List Int, SqT K H g (gs.map V.int) ∧ gs.length ≤ 900 ∧ ∀ H1 u, Same H H1 → SqT K H1 u ((gs.drop 1).map V.int) → qPlS K C CS CA CC [.ref p, .ref s, .ref u, .int F] H1 Q E
theorem lbE0 (T : Bd X.prog X.K X.mg) : LamB X 7 ["_law_far", "_law_goal", "_law_plan_here", "_law_state_here"] (lamP lamE0) (lamE lamE0) (lamS lamE0) ["_law_far", "_law_goal", "_law_plan_here", "_law_state_here"] [] (tlE0 X.K T.C T.CS T.CAr T.CC) := fun qual cl dV c f A outer s0 H ws Q E hr ht => by
  have GC : FnOk X.prog X.w X.K X.mg X.base (L2.CX X.prog X.w) 7 T.aPlanSwaps T.dPlanSwaps ["plan", "state", "goal", "count"] (qPlS X.K T.C T.CS T.CAr T.CC) := plS_ok7 T
  obtain ⟨F, g, p, s, rfl, gs, hg, gl, q⟩ := ht
  exact ⟨_, pe_call (E := E) GC hr (by rfl) T.PlanSwaps.g T.PlanSwaps.F.kp T.PlanSwaps.b .nil (tkX (takes_of rfl rfl rfl rfl)) (pa_cons (pv 2) (pa_cons (pv 3) (pa_cons (pe_slice sl_tupQ (pv 1) (po_some (pe_int)) (po_none)) (pa_cons (pv 0) pa_nil)))), .ref p, rfl, .ref s, rfl, .ref g, rfl, _, rfl, sl_go hg fun G a sm cc => ⟨.int F, rfl, q _ _ sm (by rw [List.map_drop]; exact (cut_from (k := 1) ▸ cc))⟩⟩
def lamE1 : Expr := (eElts (sVal ((defBody sErrsRight).getD 1 (.Pass ⟨0, 0, 0, 0⟩)))).getD 1 zE
def tlE1 (K : PySem.W.Frag) (C CS CA CC : Addr) : List (Option V) → XK → Hp → VK → Prop := fun ws E H Q => ∃ (F : Int) (g : Addr) (p : Addr) (s : Addr), ws = [some (.int F), some (.ref g), some (.ref p), some (.ref s)] ∧ ∃ gs : List Int, SqT K H g (gs.map V.int) ∧ gs.length ≤ 900 ∧ ∀ H1 u, Same H H1 → SqT K H1 u ((gs ++ [1]).map V.int) → qFew K C CS CA CC [.ref p, .ref s, .ref u, .int F] H1 Q E
theorem lbE1 (T : Bd X.prog X.K X.mg) : LamB X 7 ["_law_a", "_law_far", "_law_goal", "_law_plan_here", "_law_state_here"] (lamP lamE1) (lamE lamE1) (lamS lamE1) ["_law_far", "_law_goal", "_law_plan_here", "_law_state_here"] [.int 0] (tlE1 X.K T.C T.CS T.CAr T.CC) := fun qual cl dV c f A outer s0 H ws Q E hr ht => by
  have GC : FnOk X.prog X.w X.K X.mg X.base (L2.CX X.prog X.w) 7 T.aFewest T.dFewest ["plan", "state", "goal", "count"] (qFew X.K T.C T.CS T.CAr T.CC) := few_ok7 T
  obtain ⟨F, g, p, s, rfl, gs, hg, gl, q⟩ := ht
  exact ⟨_, pe_call (E := E) GC hr (by rfl) T.Fewest.g T.Fewest.F.kp T.Fewest.b .nil (tkX (takes_of rfl rfl rfl rfl)) (pa_cons (pv 3) (pa_cons (pv 4) (pa_cons (pe_op op_catQ (pv 2) (pe_tup (pa_cons (pe_int) pa_nil))) (pa_cons (pv 1) pa_nil)))), .ref p, rfl, .ref s, rfl, .ref g, rfl, (by show 1 ≤ sizeLine; decide), fun t ht => cat_go (sqT_same (same_upd ht) hg) (.inl (.inl upd_same)) (by rw [List.length_map]; show _ + 1 ≤ 1000; omega) fun G a sm cc => ⟨.int F, rfl, q _ _ ((same_upd ht).trans sm) (by rw [List.map_append]; exact cc)⟩⟩
theorem hbnE1 : ∀ q cl pm cv ctv (T : Addr) (u : Value), ∃ k, bindArgs { PySem.W.kla_fn "<lambda>" q (lamP lamE1) (lamE lamE1) (lamS lamE1) cl pm cv ctv with defaults := .ref T } ⟨[], []⟩ = seqItems? (.ref T) >>= k ∧ k (some [u].toArray) = pure [(("_law_a" : Str), u)] := by
  intro q cl pm cv ctv T u
  exact ⟨_, rfl, rfl⟩
def lamE2 : Expr := (eElts ((eArgs (sVal ((defBody sErrsRight).getD 2 (.Pass ⟨0, 0, 0, 0⟩)))).getD 0 zE)).getD 0 zE
def tlE2 (K : PySem.W.Frag) (C CS CA CC : Addr) : List (Option V) → XK → Hp → VK → Prop := fun ws E H Q => ∃ (F : Int) (g : Addr) (p : Addr) (s : Addr), ws = [some (.int F), some (.ref g), some (.ref p), some (.ref s)] ∧ qPlS K C CS CA CC [.ref p, .ref s, .ref g, .int F] H Q E
theorem lbE2 (T : Bd X.prog X.K X.mg) : LamB X 7 ["_law_far", "_law_goal", "_law_plan_here", "_law_state_here"] (lamP lamE2) (lamE lamE2) (lamS lamE2) ["_law_far", "_law_goal", "_law_plan_here", "_law_state_here"] [] (tlE2 X.K T.C T.CS T.CAr T.CC) := fun qual cl dV c f A outer s0 H ws Q E hr ht => by
  have GC : FnOk X.prog X.w X.K X.mg X.base (L2.CX X.prog X.w) 7 T.aPlanSwaps T.dPlanSwaps ["plan", "state", "goal", "count"] (qPlS X.K T.C T.CS T.CAr T.CC) := plS_ok7 T
  obtain ⟨F, g, p, s, rfl, q⟩ := ht
  exact ⟨_, pe_call (E := E) GC hr (by rfl) T.PlanSwaps.g T.PlanSwaps.F.kp T.PlanSwaps.b .nil (tkX (takes_of rfl rfl rfl rfl)) (pa_cons (pv 2) (pa_cons (pv 3) (pa_cons (pv 1) (pa_cons (pv 0) pa_nil)))), .ref p, rfl, .ref s, rfl, .ref g, rfl, .int F, rfl, q⟩
def lamE3 : Expr := (eElts ((eArgs (sVal ((defBody sErrsRight).getD 2 (.Pass ⟨0, 0, 0, 0⟩)))).getD 0 zE)).getD 1 zE
def tlE3 (K : PySem.W.Frag) (C CS CA CC : Addr) : List (Option V) → XK → Hp → VK → Prop := fun ws E H Q => ∃ (F : Int) (g : Addr) (p : Addr) (s : Addr), ws = [some (.int F), some (.ref g), some (.ref p), some (.ref s)] ∧ qFew K C CS CA CC [.ref p, .ref s, .ref g, .int (0 - F)] H Q E
theorem lbE3 (T : Bd X.prog X.K X.mg) : LamB X 7 ["_law_a", "_law_far", "_law_goal", "_law_plan_here", "_law_state_here"] (lamP lamE3) (lamE lamE3) (lamS lamE3) ["_law_far", "_law_goal", "_law_plan_here", "_law_state_here"] [.int 0] (tlE3 X.K T.C T.CS T.CAr T.CC) := fun qual cl dV c f A outer s0 H ws Q E hr ht => by
  have GC : FnOk X.prog X.w X.K X.mg X.base (L2.CX X.prog X.w) 7 T.aFewest T.dFewest ["plan", "state", "goal", "count"] (qFew X.K T.C T.CS T.CAr T.CC) := few_ok7 T
  obtain ⟨F, g, p, s, rfl, q⟩ := ht
  exact ⟨_, pe_call (E := E) GC hr (by rfl) T.Fewest.g T.Fewest.F.kp T.Fewest.b .nil (tkX (takes_of rfl rfl rfl rfl)) (pa_cons (pv 3) (pa_cons (pv 4) (pa_cons (pv 2) (pa_cons (pe_op op_sub (pe_int) (pv 1)) pa_nil)))), .ref p, rfl, .ref s, rfl, .ref g, rfl, .int F, rfl, _, _, rfl, rfl, q⟩
theorem hbnE3 : ∀ q cl pm cv ctv (T : Addr) (u : Value), ∃ k, bindArgs { PySem.W.kla_fn "<lambda>" q (lamP lamE3) (lamE lamE3) (lamS lamE3) cl pm cv ctv with defaults := .ref T } ⟨[], []⟩ = seqItems? (.ref T) >>= k ∧ k (some [u].toArray) = pure [(("_law_a" : Str), u)] := by
  intro q cl pm cv ctv T u
  exact ⟨_, rfl, rfl⟩
def lamE4 : Expr := (eArgs (sVal ((defBody sErrsRight).getD 3 (.Pass ⟨0, 0, 0, 0⟩)))).getD 0 zE
def tlE4 (K : PySem.W.Frag) (C CS CA CC : Addr) : List (Option V) → XK → Hp → VK → Prop := fun ws E H Q => ∃ (g : Addr) (p : Addr) (s : Addr), ws = [some (.ref g), some (.ref p), some (.ref s)] ∧ ∃ gs : List Int, SqT K H g (gs.map V.int) ∧ gs.length ≤ 900 ∧ ∀ H1 u, Same H H1 → SqT K H1 u ((gs ++ gs.take 1).map V.int) → qPlS K C CS CA CC [.ref p, .ref s, .ref u, .int 0] H1 Q E
theorem lbE4 (T : Bd X.prog X.K X.mg) : LamB X 7 ["_law_goal", "_law_plan_here", "_law_state_here"] (lamP lamE4) (lamE lamE4) (lamS lamE4) ["_law_goal", "_law_plan_here", "_law_state_here"] [] (tlE4 X.K T.C T.CS T.CAr T.CC) := fun qual cl dV c f A outer s0 H ws Q E hr ht => by
  have GC : FnOk X.prog X.w X.K X.mg X.base (L2.CX X.prog X.w) 7 T.aPlanSwaps T.dPlanSwaps ["plan", "state", "goal", "count"] (qPlS X.K T.C T.CS T.CAr T.CC) := plS_ok7 T
  obtain ⟨g, p, s, rfl, gs, hg, gl, q⟩ := ht
  exact ⟨_, pe_call (E := E) GC hr (by rfl) T.PlanSwaps.g T.PlanSwaps.F.kp T.PlanSwaps.b .nil (tkX (takes_of rfl rfl rfl rfl)) (pa_cons (pv 1) (pa_cons (pv 2) (pa_cons (pe_op op_catQ (pv 0) (pe_slice sl_tupQ (pv 0) (po_none) (po_some (pe_int)))) (pa_cons (pe_int) pa_nil)))), .ref p, rfl, .ref s, rfl, .ref g, rfl, .ref g, rfl, _, rfl, sl_go hg fun G0 a0 sm0 c0 => cat_go (sqT_same sm0 hg) c0 (by rw [show cutV (gs.map V.int) none (some 1) = (gs.map V.int).take 1 from cut_to (k := 1), List.length_take, List.length_map]; omega) fun G a sm cc => (q _ _ (sm0.trans sm) (by rw [List.map_append, List.map_take]; exact (cut_to (k := 1) ▸ cc)))⟩
def lamE5 : Expr := (eArgs (eLeft (sVal ((sBody ((defBody sErrsRight).getD 7 (.Pass ⟨0, 0, 0, 0⟩))).getD 1 (.Pass ⟨0, 0, 0, 0⟩))))).getD 0 zE
def tlE5 (K : PySem.W.Frag) (C CS CW : Addr) : List (Option V) → XK → Hp → VK → Prop := fun ws E H Q => ∃ (p : Addr) (s : Addr) (r : Addr), ws = [some (.ref p), some (.ref s), some (.ref r)] ∧ qSwA K C CS CW [.ref p, .ref s, .ref r] H Q E
theorem lbE5 (T : Bd X.prog X.K X.mg) : LamB X 7 ["_law_plan_here", "_law_state_here", "_law_swaps"] (lamP lamE5) (lamE lamE5) (lamS lamE5) ["_law_plan_here", "_law_state_here", "_law_swaps"] [] (tlE5 X.K T.C T.CS T.CSw) := fun qual cl dV c f A outer s0 H ws Q E hr ht => by
  have GC : FnOk X.prog X.w X.K X.mg X.base (L2.CX X.prog X.w) 7 T.aSwapAll T.dSwapAll ["plan", "state", "swaps"] (qSwA X.K T.C T.CS T.CSw) := swA_ok7 T
  obtain ⟨p, s, r, rfl, q⟩ := ht
  exact ⟨_, pe_call (E := E) GC hr (by rfl) T.SwapAll.g T.SwapAll.F.kp T.SwapAll.b .nil (tkX (takes_of rfl rfl rfl rfl)) (pa_cons (pv 0) (pa_cons (pv 1) (pa_cons (pv 2) pa_nil))), .ref p, rfl, .ref s, rfl, .ref r, rfl, q⟩
end
def erQ : Str := (envOfC "_law_errors_right" (defScope sErrsRight) 0 0 .none).qual ++ "<lambda>"
/-- how three of the classes answer -/
structure Ans14 (K : PySem.W.Frag) (CS C0 C1 C2 C3 C4 C5 C6 C7 C8 C9 C10 C11 C12 C13 C14 : Addr) : Prop where
  count : ErA K CS C0 C1 C2 C3 C4 C5 C6 C7 C8 C9 C10 C11 C12 C13 C14 C2 "count"
  arr : ErA K CS C0 C1 C2 C3 C4 C5 C6 C7 C8 C9 C10 C11 C12 C13 C14 C11 "arrangement"
  swap : ErA K CS C0 C1 C2 C3 C4 C5 C6 C7 C8 C9 C10 C11 C12 C13 C14 C14 "swap"
  xf : XfC K C14
  xi : PySem.W.findIn K (.ref C14) "index" = some none
theorem swE_err {K : PySem.W.Frag} {CS C0 C1 C2 C3 C4 C5 C6 C7 C8 C9 C10 C11 C12 C13 C14 : Addr} {H : Hp} {Q : VK} {i : Int} (AN : Ans14 K CS C0 C1 C2 C3 C4 C5 C6 C7 C8 C9 C10 C11 C12 C13 C14) (hq : NewS H [.str "swap", .int i] Q) :
    SwapE C14 H i (ErrE K CS C0 C1 C2 C3 C4 C5 C6 C7 C8 C9 C10 C11 C12 C13 C14 Q) := by
  intro H' dd fs sm h1 h2
  obtain ⟨b0, b1, b2, b3, b4, b5, b6, b7, b8, b9, b10, b11, b12, b13, b14, j, R⟩ := AN.swap.ex
  exact ⟨C14, "swap", b0, b1, b2, b3, b4, b5, b6, b7, b8, b9, b10, b11, b12, b13, b14, j, rfl, .inr ⟨dd, fs, rfl, h1⟩, R, .inr (.inr ⟨rfl, rfl, AN.xf, AN.xi, dd, fs, _, rfl, h1, h2, hq.imp sm⟩)⟩
/-- what a def stands on that makes new things only -/
structure B14 (TT : List (Addr × Str)) (H0 H : Hp) : Prop where
  e : ExtN H0 H
  t : Tabs TT H
section
variable {TT : List (Addr × Str)} {H0 H H' : Hp}
theorem B14.sm (b : B14 TT H0 H) (e : Same H H') : B14 TT H0 H' := ⟨b.e.trans (extN_same e), b.t.ext e⟩
theorem B14.en (b : B14 TT H0 H) (e : ExtN H H') (t : Tabs TT H') : B14 TT H0 H' := ⟨b.e.trans e, t⟩
theorem B14.fr {W : Addr} (b : B14 TT H0 H) (h : H W = none) : ∀ o, H0 W = some o → ¬ (∀ ps, o ≠ .tbl ps) := fun o e n => by
  rw [b.e _ _ e n] at h
  cases h
theorem B14.up {W : Addr} {xs : List V} {o : HO} (b : B14 TT H0 H) (h : H W = some (.lst xs)) (h0 : ∀ o, H0 W = some o → ¬ (∀ ps, o ≠ .tbl ps)) : B14 TT H0 (L2.upd H W o) := ⟨fun y u hy hn => by
  rw [upd_ne (fun z => by rw [z] at hy; exact h0 _ hy hn)]
  exact b.e _ _ hy hn, tabs_upd b.t h⟩
theorem B14.k {K : PySem.W.Frag} (b : B14 TT H0 H) : ∀ a xs, SqT K H0 a xs → SqT K H a xs := fun _ _ => sqT_ext (ExtL.n b.e)
end
abbrev farI : Int := 1000000000000000001
def Sl14 (p s g : Addr) : L2.St → Prop := fun σ => ∃ y2 y5 y6 y7 y8 y9 y10, σ = [some (.ref p), some (.ref s), y2, some (.ref g), some (.int farI), y5, y6, y7, y8, y9, y10]
section
variable {X : Cx} (T : Bd X.prog X.K X.mg) {TT : List (Addr × Str)} {CS C1 C3 C4 C5 C6 C7 C8 C9 C10 C12 C13 p s g f : Addr} {H0 H : Hp} {zs : List Int} {rs : List Ro} {t : Int} {L : Lay Int} {gs : List Int}
  (AN : Ans14 X.K CS T.C C1 T.CC C3 C4 C5 C6 C7 C8 C9 C10 T.CAr C12 C13 T.CSw) (X0 : PS0 X.K H0 p s zs rs t L) (hg : SqT X.K H0 g (gs.map V.int)) (gl : 1 ≤ gs.length ∧ gs.length ≤ 900) (go : GoalOk gs (join L))
include AN X0 hg gl go
theorem wkE0 (h : LamIs X 8 H f [4, 3, 0, 1] (tlE0 X.K T.C T.CS T.CAr T.CC)) : Wk4 X 8 CS T.C C1 T.CC C3 C4 C5 C6 C7 C8 C9 C10 T.CAr C12 C13 T.CSw (B14 TT H0) (Sl14 p s g) H f [.str "arrangement"] :=
  ⟨_, _, [some (.int farI), some (.ref g), some (.ref p), some (.ref s)], h, fun σ hs => (by obtain ⟨_, _, _, _, _, _, _, rfl⟩ := hs; rfl), fun H' Q I s9 => ⟨farI, g, p, s, rfl, gs, I.k _ _ hg, gl.2, fun H1 u sm hu => by
    have n : ¬ GoalOk (gs.drop 1) (join L) := fun z => by
      have h1 := z.1
      have h2 := go.1
      rw [List.length_drop] at h1
      omega
    exact go_plS ((X0.imp I.k).imp fun _ _ => sqT_same sm) hu (by rw [List.length_drop]; omega) (fun _ H9 sm9 => errE_of AN.arr.ex (s9.imp (sm.trans sm9)) (by decide) (by decide)) (fun z => absurd z n) (fun z => absurd z n)⟩⟩
theorem wkE1 (h : LamIs X 8 H f [4, 3, 0, 1] (tlE1 X.K T.C T.CS T.CAr T.CC)) : Wk4 X 8 CS T.C C1 T.CC C3 C4 C5 C6 C7 C8 C9 C10 T.CAr C12 C13 T.CSw (B14 TT H0) (Sl14 p s g) H f [.str "arrangement"] :=
  ⟨_, _, [some (.int farI), some (.ref g), some (.ref p), some (.ref s)], h, fun σ hs => (by obtain ⟨_, _, _, _, _, _, _, rfl⟩ := hs; rfl), fun H' Q I s9 => ⟨farI, g, p, s, rfl, gs, I.k _ _ hg, gl.2, fun H1 u sm hu => by
    have n : ¬ GoalOk (gs ++ [1]) (join L) := fun z => by
      have h1 := z.1
      have h2 := go.1
      rw [List.length_append, List.length_singleton] at h1
      omega
    exact go_few ((X0.imp I.k).imp fun _ _ => sqT_same sm) hu (by rw [List.length_append, List.length_singleton]; omega) (fun _ H9 sm9 => errE_of AN.arr.ex (s9.imp (sm.trans sm9)) (by decide) (by decide)) (fun z => absurd z n) (fun z => absurd z n)⟩⟩
theorem wkE2 (h : LamIs X 8 H f [4, 3, 0, 1] (tlE2 X.K T.C T.CS T.CAr T.CC)) : Wk4 X 8 CS T.C C1 T.CC C3 C4 C5 C6 C7 C8 C9 C10 T.CAr C12 C13 T.CSw (B14 TT H0) (Sl14 p s g) H f [.str "count"] :=
  ⟨_, _, [some (.int farI), some (.ref g), some (.ref p), some (.ref s)], h, fun σ hs => (by obtain ⟨_, _, _, _, _, _, _, rfl⟩ := hs; rfl), fun H' Q I s9 => ⟨farI, g, p, s, rfl,
    go_plS (X0.imp I.k) (I.k _ _ hg) (by omega) (fun z => absurd go z) (fun _ _ H9 sm9 => errE_of AN.count.ex (s9.imp sm9) (by decide) (by decide)) (fun _ z => absurd z (by decide))⟩⟩
theorem wkE3 (h : LamIs X 8 H f [4, 3, 0, 1] (tlE3 X.K T.C T.CS T.CAr T.CC)) : Wk4 X 8 CS T.C C1 T.CC C3 C4 C5 C6 C7 C8 C9 C10 T.CAr C12 C13 T.CSw (B14 TT H0) (Sl14 p s g) H f [.str "count"] :=
  ⟨_, _, [some (.int farI), some (.ref g), some (.ref p), some (.ref s)], h, fun σ hs => (by obtain ⟨_, _, _, _, _, _, _, rfl⟩ := hs; rfl), fun H' Q I s9 => ⟨farI, g, p, s, rfl,
    go_few (X0.imp I.k) (I.k _ _ hg) (by omega) (fun z => absurd go z) (fun _ _ H9 sm9 => errE_of AN.count.ex (s9.imp sm9) (by decide) (by decide)) (fun _ z => absurd z (by decide))⟩⟩
theorem wkE4 (h : LamIs X 8 H f [3, 0, 1] (tlE4 X.K T.C T.CS T.CAr T.CC)) : Wk4 X 8 CS T.C C1 T.CC C3 C4 C5 C6 C7 C8 C9 C10 T.CAr C12 C13 T.CSw (B14 TT H0) (Sl14 p s g) H f [.str "arrangement"] :=
  ⟨_, _, [some (.ref g), some (.ref p), some (.ref s)], h, fun σ hs => (by obtain ⟨_, _, _, _, _, _, _, rfl⟩ := hs; rfl), fun H' Q I s9 => ⟨g, p, s, rfl, gs, I.k _ _ hg, gl.2, fun H1 u sm hu => by
    have n : ¬ GoalOk (gs ++ gs.take 1) (join L) := fun z => by
      have h1 := z.1
      have h2 := go.1
      rw [List.length_append, List.length_take] at h1
      omega
    exact go_plS ((X0.imp I.k).imp fun _ _ => sqT_same sm) hu (by rw [List.length_append, List.length_take]; omega) (fun _ H9 sm9 => errE_of AN.arr.ex (s9.imp (sm.trans sm9)) (by decide) (by decide)) (fun z => absurd z n) (fun z => absurd z n)⟩⟩
end
end Sv
set_option maxHeartbeats 8000000
namespace Sv
open PySem PySem.Spec PyProof.Rows L2 LamX NdefX
theorem tupsV_ix {H : Hp} : ∀ {ps : List Addr} {ts : List (List V)} {i : Nat} {t : List V}, TupsV H ps ts → ts[i]? = some t → ∃ p, ps[i]? = some p ∧ H p = some (.tup t)
  | _, _, _, _, .nil, e => by simp at e
  | _, _, 0, _, .cons h _, e => by
    obtain rfl := Option.some.inj e
    exact ⟨_, rfl, h⟩
  | _, _, i + 1, _, .cons _ t, e => tupsV_ix (i := i) t (by simpa using e)
theorem atI_end {xs : List V} {v : V} (h : xs[xs.length - 1]? = some v) : atI xs (-1) = some v := by
  have hn : xs ≠ [] := fun z => by
    rw [z] at h
    simp at h
  have e : atI (xs.dropLast ++ [xs.getLast hn]) (-1) = some (xs.getLast hn) := atI_last _ _
  rw [List.dropLast_concat_getLast] at e
  rw [e, List.getLast_eq_getElem]
  exact congrArg some (List.getElem?_eq_some_iff.mp h).2
theorem can_swap : PyData.canLay0 (.str ("swap" : Str)) = true := by decide +kernel
theorem SwV.en {K : PySem.W.Frag} {H H' : Hp} (e : ExtN H H') {ts : List (List V)} {v : V} {o : Option (Nat × Nat)} (h : SwV K H ts v o) : SwV K H' ts v o := by
  have k : ∀ a xs, SqT K H a xs → SqT K H' a xs := fun _ _ => sqT_ext (ExtL.n e)
  cases o with
  | some ij =>
    obtain ⟨u, a, b, pa, pb, h1, h2, h3, h4, h5⟩ := h
    exact ⟨u, a, b, pa, pb, h1, k _ _ h2, k _ _ h3, k _ _ h4, h5⟩
  | none =>
    rcases h with (h | ⟨a, xs, h1, h2⟩ | ⟨a, xs, h1, h2, h3⟩) | ⟨u, a, b, pa, pb, h1, h2, h3, h4, h5⟩
    · exact .inl (.inl h)
    · refine .inl (.inr (.inl ⟨a, xs, h1, ?_⟩))
      rcases h2 with (z | ⟨o, z⟩) | z
      · exact .inl (.inl (e _ _ z (fun _ z => nomatch z)))
      · exact .inl (.inr ⟨o, e _ _ z (fun _ z => nomatch z)⟩)
      · exact .inr z
    · exact .inl (.inr (.inr ⟨a, xs, h1, k _ _ h2, h3⟩))
    · exact .inr ⟨u, a, b, pa, pb, h1, k _ _ h2, k _ _ h3, k _ _ h4, h5⟩
abbrev eN : List Str := ["arrangement", "arrangement", "count", "count", "arrangement"]
theorem can_e : ∀ n ∈ eN, PyData.canLay0 (.str n) = true := by decide +kernel
theorem dpAll_nmS {K : PySem.W.Frag} {H : Hp} : ∀ {ps : List Addr} {nms : List Str}, Paired (fun p nm => SqT K H p [.str nm]) ps nms → DpAll K H (ps.map V.ref) (nms.map fun n => PyData.tuple [.str n])
  | _, _, .nil => .nil
  | _, _, .cons h t => .cons (.tup h (.cons (.str _) .nil)) (dpAll_nmS t)
def dNm (nm : Str) : PyData := .tuple [.str nm]
theorem dpAll_nm {K : PySem.W.Frag} {H : Hp} : ∀ {ps : List Addr} {nms : List Str}, TupsV H ps (nms.map fun n => [V.str n]) → DpAll K H (ps.map V.ref) (nms.map dNm)
  | _, [], h => by cases h; exact .nil
  | _, n :: nms, h => by
    cases h with
    | cons a t => exact .cons (.tup (.inl (.inl a)) (.cons (.str n) .nil)) (dpAll_nm t)
theorem pld_nms : ∀ {nms : List Str}, (∀ n ∈ nms, PyData.canLay0 (.str n) = true) → pldAll (nms.map dNm) = true
  | [], _ => by unfold pldAll; rfl
  | n :: nms, h => by
    rw [List.map_cons]
    unfold pldAll
    rw [pld_nms fun m hm => h m (List.mem_cons_of_mem _ hm), Bool.and_true]
    unfold dNm pld pldAll pldAll pld
    rw [h n (List.mem_cons_self ..)]
    rfl
theorem okD_nms : ∀ {nms : List Str}, okDs 1 (nms.map dNm) = true
  | [] => by unfold okDs; rfl
  | n :: nms => by
    rw [List.map_cons]
    unfold okDs
    rw [okD_nms, Bool.and_true]
    rfl
theorem far_place {zs : List Int} {n : Nat} (h : zs.length ≤ 12) : [V.str "shelf", V.int 12, V.int 0] ∉ placesV zs n := fun hm => by
  unfold placesV at hm
  rcases List.mem_append.mp hm with h1 | h1
  · unfold carV at h1
    obtain ⟨c, _, e⟩ := List.mem_map.mp h1
    have := congrArg List.length e
    simp at this
  · have key : ∀ k, [V.str "shelf", V.int 12, V.int 0] ∈ shN zs k → 12 < k := by
      intro k
      induction k with
      | zero => intro h; cases h
      | succ k ih =>
        intro h
        rcases List.mem_append.mp (show _ ∈ shN zs k ++ _ from h) with h2 | h2
        · have := ih h2
          omega
        · unfold posV at h2
          obtain ⟨c, _, e⟩ := List.mem_map.mp h2
          injection e with _ e
          injection e with e _
          have := V.int.inj e
          omega
    have := key _ h1
    omega
theorem seq_ways2 {a b : TS} {D : Ends} {σ : L2.St} {H : Hp} {B : L2.St → Hp → Prop} (tail : ∀ σ' H', B σ' H' → b D σ' H') (main : (∀ σ' H', B σ' H' → b D σ' H') → tSeq a b D σ H) : tSeq a b D σ H := main tail
theorem ne_swap {K : PySem.W.Frag} {H : Hp} {e d : Addr} {i : Int} {Q : VK} (h1 : H e = some (.tup [.str "swap", .int i])) (h2 : H d = some (.tup [.str "swap", .int i])) (q : Q (.bl false) H) : qNe K (.ref e) (.ref d) H Q :=
  have dp : ∀ {a : Addr}, H a = some (.tup [.str "swap", .int i]) → Dp K H (.ref a) (.tuple [.str "swap", .int i]) := fun z => .tup (.inl (.inl z)) (.cons (.str _) (.cons (.int _) .nil))
  ne_same (n := 1) (dp h1) (dp h2) (by unfold pld pldAll pldAll pldAll pld; rw [can_swap]; rfl) (by rfl) (by decide) q
theorem ite_no {b : Bool} {A B : Prop} (h : b = false) (k : B) : if b = true then A else B := by rw [h]; exact iteF k
theorem ite_yes {b : Bool} {A B : Prop} (h : b = true) (k : A) : if b = true then A else B := by rw [h]; exact iteT k
section
variable {P : Program} {w : World} {K : PySem.W.Frag} {mg : Str → Option Value} {base : Heap}
def nEr : List Str := ["_law_plan_here", "_law_state_here", "_law_every", "_law_goal", "_law_far", "_law_works", "_law_due", "_law_good", "_law_odd", "_law_swaps", "_law_call"]
theorem scEr : FnScope nEr ["_law_plan_here", "_law_state_here", "_law_every", "_law_goal"] (defScope sErrsRight) := ⟨rfl, rfl, rfl, by decide +kernel, rfl, by decide +kernel, by decide +kernel⟩
def spEr (K : PySem.W.Frag) (TT : List (Addr × Str)) : Sp := fun vs H Q _ => ∃ (p s e g : Addr) (ps : List Addr) (zs : List Int) (rs : List Ro) (t : Int) (L : Lay Int) (gs : List Int), vs = [.ref p, .ref s, .ref e, .ref g] ∧ Tabs TT H ∧ PS0 K H p s zs rs t L ∧ H e = some (.lst (ps.map V.ref)) ∧ TupsV H ps (placesV zs rs.length) ∧ SqT K H g (gs.map V.int) ∧ GoalOk gs (join L) ∧
  ∀ H', B14 TT H H' → Q (.bl true) H'
theorem ok_er {TT : List (Addr × Str)} {c Pt : Addr} (T : Bd P K mg) {CS C1 C3 C4 C5 C6 C7 C8 C9 C10 C12 C13 : Addr} (hc : T.dLErrsRight.code = .ref c) (TB : TabB base mg c Pt) (hm : (Pt, erQ) ∈ TT) (hu : ∀ p ∈ TT, p.1 = Pt → p.2 = erQ)
    (GX : FnSt P w K mg base 9 T.aLError (KnErr P w K mg base 8 CS T.C C1 T.CC C3 C4 C5 C6 C7 C8 C9 C10 T.CAr C12 C13 T.CSw)) (AN : Ans14 K CS T.C C1 T.CC C3 C4 C5 C6 C7 C8 C9 C10 T.CAr C12 C13 T.CSw) :
    FnOk P w K mg base CX0 13 T.aLErrsRight T.dLErrsRight ["_law_plan_here", "_law_state_here", "_law_every", "_law_goal"] (spEr K TT) := by
  refine fun_okC T.LErrsRight.F hc scEr (fun vs H Q E h => ?_) (fun A outer s H vs Q E hr h => ?_)
  · obtain ⟨p, s, e, g, ps, zs, rs, t, L, gs, rfl, _⟩ := h
    rfl
  · obtain ⟨p, st, e, g, ps, zs, rs, t, L, gs, rfl, T0, X0, hE, tv, hg, go, q⟩ := h
    have LT : LamT (cxOf CX0 P w K mg base nEr "_law_errors_right" (defScope sErrsRight) T.aLErrsRight (.ref c) A outer s H E).nox TT c Pt := ⟨TB, rfl, hm, hu⟩
    have far0 : ∀ (pins : List (Addr × Obj)) (σ : L2.St) (H' : Hp) (s' : Shared), Inv (cxOf CX0 P w K mg base nEr "_law_errors_right" (defScope sErrsRight) T.aLErrsRight (.ref c) A outer s H E).nox pins σ H' s' → Far (cxOf CX0 P w K mg base nEr "_law_errors_right" (defScope sErrsRight) T.aLErrsRight (.ref c) A outer s H E).nox := fun _ _ _ _ I => far_def I fun _ => rfl
    refine ⟨_, pss_cons (ps_set (i := 4) scEr.nd rfl (Or.inr rfl) (pe_op op_add (pe_op op_pow pe_int pe_int) (pe_int)))
      (pss_cons (ps_set (i := 5) scEr.nd rfl (Or.inl rfl) (pe_lst (pa_cons ((pe_lamK0 (js := [4, 3, 0, 1]) LT (lbE0 T))) (pa_cons ((pe_lamK1 (js := [4, 3, 0, 1]) LT (lbE1 T) hbnE1)) pa_nil))))
      (pss_cons (ps_expr (pe_bm PySem.F.plainAttrs_list PySem.F.slot_list_extend PySem.F.type_list_extend mt_extend (pv 5) (pa_cons (pe_lst (pa_cons ((pe_lamK0 (js := [4, 3, 0, 1]) LT (lbE2 T))) (pa_cons ((pe_lamK1 (js := [4, 3, 0, 1]) LT (lbE3 T) hbnE3)) pa_nil))) pa_nil)))
      (pss_cons (ps_expr (pe_bm PySem.F.plainAttrs_list PySem.F.slot_list_append PySem.F.type_list_append mt_append (pv 5) (pa_cons ((pe_lamK0 (js := [3, 0, 1]) LT (lbE4 T))) pa_nil)))
      (pss_cons (ps_set (i := 6) scEr.nd rfl (Or.inl rfl) (pe_op op_cat (pe_op op_cat (pe_op op_rep (pe_lst (pa_cons (pe_tup (pa_cons (pe_str) pa_nil)) pa_nil)) (pe_int)) (pe_op op_rep (pe_lst (pa_cons (pe_tup (pa_cons (pe_str) pa_nil)) pa_nil)) (pe_int))) (pe_lst (pa_cons (pe_tup (pa_cons (pe_str) pa_nil)) pa_nil))))
      (pss_cons (ps_if (pt_cmpR (op_neQ hr.units) (pe_lcI (own := [("_law_call", 10)]) (g := gName 10) (tt := fun _ => tYes) rfl scEr.nd (pi_list (pv 5)) (blkOk_by (N := nEr) (sc := defScope sErrsRight) (by decide +kernel)) (fun _ _ _ _ _ => pg_name (i := 10) scEr.nd rfl (Or.inl rfl)) (fun _ _ _ _ _ _ _ => pts_nil) (fun _ _ _ _ _ _ B0 => pe_errBlk (i := 10) GX (hr.mono (by decide)) (fun _ => rfl) B0 (by rfl) T.LError.g T.LError.F.kp (pv 10))) (pv 6) (nomark _)) pss_never pss_nil)
      (pss_cons (ps_set (i := 7) scEr.nd rfl (Or.inl rfl) (pe_tup (pa_cons (pe_ix ix_list (pv 2) (pe_int) (fun _ _ => rfl)) (pa_cons (pe_ix ix_list (pv 2) (pe_un un_neg (pe_int)) (fun _ _ => rfl)) pa_nil))))
      (pss_cons (ps_for PassesOwn.never rfl (pi_tup (pe_tup (pa_cons (pe_tup (pa_cons (pe_ix ix_list (pv 2) (pe_int) (fun _ _ => rfl)) (pa_cons (pe_ix ix_list (pv 2) (pe_int) (fun _ _ => rfl)) pa_nil))) (pa_cons (pe_tup (pa_cons (pe_ix ix_list (pv 2) (pe_int) (fun _ _ => rfl)) pa_nil)) (pa_cons (pe_lst (pa_cons (pe_ix ix_list (pv 2) (pe_int) (fun _ _ => rfl)) (pa_cons (pe_ix ix_list (pv 2) (pe_un un_neg (pe_int)) (fun _ _ => rfl)) pa_nil))) (pa_cons (pe_non) (pa_cons (pe_tup (pa_cons (pe_ix ix_list (pv 2) (pe_int) (fun _ _ => rfl)) (pa_cons (pe_tup (pa_cons (pe_str) (pa_cons (pe_int) (pa_cons (pe_int) pa_nil)))) pa_nil))) pa_nil))))))) (pg_name (i := 8) scEr.nd rfl (Or.inl rfl))
        (pss_cons (ps_set (i := 9) scEr.nd rfl (Or.inr rfl) (pe_ifExp (pt_cmpR (op_neQ hr.units) (pe_ix ix_list (pv 2) (pe_int) (fun _ _ => rfl)) (pe_ix ix_list (pv 2) (pe_un un_neg (pe_int)) (fun _ _ => rfl)) (nomark _)) (pe_op op_cat (pe_op op_rep (pe_lst (pa_cons (pv 7) pa_nil)) (pe_int)) (pe_lst (pa_cons (pv 8) pa_nil))) (pe_lst (pa_cons (pv 8) pa_nil))))
      (pss_one (ps_if (pt_cmpR (op_neQ hr.units) (pe_errLam GX (hr.mono (by decide)) (by rfl) T.LError.g T.LError.F.kp far0 (pe_lamK0 (js := [0, 1, 9]) LT (lbE5 T))) (pe_tup (pa_cons (pe_str) (pa_cons (pe_op op_sub (pe_callB call_len_seq (by rfl) T.bt.len b_len (pa_cons (pv 9) pa_nil)) (pe_int)) pa_nil))) (nomark _)) pss_never pss_nil))))
      (pss_one (ps_ret (pe_bl)))))))))), ?_⟩
    have eS : L2.start nEr [.ref p, .ref st, .ref e, .ref g] = [some (.ref p), some (.ref st), some (.ref e), some (.ref g), none, none, none, none, none, none, none] := rfl
    rw [eS]
    have jl := join_len X0.o.f
    have z1 := X0.v.z1
    have r1 := X0.v.r1
    have hnum := X0.v.num
    have glen := go.1
    have gl : 1 ≤ gs.length ∧ gs.length ≤ 900 := ⟨by omega, by omega⟩
    have pn := placesV_len zs rs.length fun z hz => (X0.v.z2 z hz).1
    have pl := tupsV_len tv
    have J0 : B14 TT H H := ⟨fun _ _ h _ => h, T0⟩
    refine seq_abs fun bT eT => ?_
    refine ⟨10, 18, rfl, rfl, ⟨by decide, by decide, by decide⟩, _, _, rfl, rfl, ?_⟩
    show bT _ [some (.ref p), some (.ref st), some (.ref e), some (.ref g), some (.int ((10 : Int) ^ (18 : Int).toNat + 1)), none, none, none, none, none, none] H
    rw [show (10 : Int) ^ (18 : Int).toNat + 1 = farI by decide]
    subst eT
    refine seq_abs fun bT eT => ?_
    refine ⟨J0.t, fun f0 Ha xa va ta nfa is0 => ⟨ta, fun f1 Hb xb vb tb nfb is1 => ⟨(by show 2 ≤ sizeLine; decide), fun W hW => ?_⟩⟩⟩
    have IA0 := (J0.en xa ta).en xb tb
    have nW := IA0.fr hW
    have IA := IA0.sm (same_upd (o := .lst [.ref f0, .ref f1]) hW)
    have WA : WL4 (cxOf CX0 P w K mg base nEr "_law_errors_right" (defScope sErrsRight) T.aLErrsRight (.ref c) A outer s H E).nox 8 CS T.C C1 T.CC C3 C4 C5 C6 C7 C8 C9 C10 T.CAr C12 C13 T.CSw (B14 TT H) (Sl14 p st g) (upd Hb W (.lst [.ref f0, .ref f1])) W [f0, f1] [[.str "arrangement"], [.str "arrangement"]] := ⟨upd_same, .cons (wkE0 (X := (cxOf CX0 P w K mg base nEr "_law_errors_right" (defScope sErrsRight) T.aLErrsRight (.ref c) A outer s H E).nox) T AN X0 hg gl go (is0.ext (xb.trans (extN_same (same_upd hW))))) (.cons (wkE1 (X := (cxOf CX0 P w K mg base nEr "_law_errors_right" (defScope sErrsRight) T.aLErrsRight (.ref c) A outer s H E).nox) T AN X0 hg gl go (is1.ext (extN_same (same_upd hW)))) .nil)⟩
    generalize upd Hb W (.lst [.ref f0, .ref f1]) = HA at IA WA ⊢
    clear xa va ta nfa is0 xb vb tb nfb is1 IA0 hW
    show bT _ _ _
    subst eT
    refine seq_abs fun bT eT => ?_
    refine ⟨.ref W, rfl, .inl ⟨rfl, _, .inl (.inl WA.at_)⟩, IA.t, fun f2 Ha xa va ta nfa isy => ⟨ta, fun f3 Hb xb vb tb nfb isz => ⟨(by show 2 ≤ sizeLine; decide), fun u hu => ⟨W, u, _, _, rfl, rfl, (same_upd hu) _ _ ((WA.en xa).en xb).at_, upd_same, (by show 4 ≤ sizeLine; decide), ?_⟩⟩⟩⟩
    have eu : ExtN Hb (upd Hb u (.lst [.ref f2, .ref f3])) := extN_same (same_upd hu)
    have W0 := ((WA.en xa).en xb).en eu
    have IC := (((IA.en xa ta).en xb tb).sm (same_upd (o := .lst [.ref f2, .ref f3]) hu)).up (o := .lst ([f0, f1].map V.ref ++ [V.ref f2, V.ref f3])) W0.at_ nW
    have WC : WL4 (cxOf CX0 P w K mg base nEr "_law_errors_right" (defScope sErrsRight) T.aLErrsRight (.ref c) A outer s H E).nox 8 CS T.C C1 T.CC C3 C4 C5 C6 C7 C8 C9 C10 T.CAr C12 C13 T.CSw (B14 TT H) (Sl14 p st g) (upd (upd Hb u (.lst [.ref f2, .ref f3])) W (.lst ([f0, f1].map V.ref ++ [V.ref f2, V.ref f3]))) W [f0, f1, f2, f3] [[.str "arrangement"], [.str "arrangement"], [.str "count"], [.str "count"]] := W0.more (gs := [f2, f3]) (ms := [[.str "count"], [.str "count"]]) (.cons (wkE2 (X := (cxOf CX0 P w K mg base nEr "_law_errors_right" (defScope sErrsRight) T.aLErrsRight (.ref c) A outer s H E).nox) T AN X0 hg gl go (isy.ext (xb.trans eu))) (.cons (wkE3 (X := (cxOf CX0 P w K mg base nEr "_law_errors_right" (defScope sErrsRight) T.aLErrsRight (.ref c) A outer s H E).nox) T AN X0 hg gl go (isz.ext eu)) .nil))
    generalize upd (upd Hb u (.lst [.ref f2, .ref f3])) W (.lst ([f0, f1].map V.ref ++ [V.ref f2, V.ref f3])) = HC at IC WC ⊢
    clear xa va ta nfa isy xb vb tb nfb isz IA WA hu eu W0
    show bT _ _ _
    subst eT
    refine seq_abs fun bT eT => ?_
    refine ⟨.ref W, rfl, .inl ⟨rfl, _, .inl (.inl WC.at_)⟩, IC.t, fun f4 Hb xb vb tb nfb isz => ⟨W, _, _, rfl, rfl, (WC.en xb).at_, (by show 4 < sizeLine; decide), ?_⟩⟩
    have IB := (IC.en xb tb).up (o := .lst ([f0, f1, f2, f3].map V.ref ++ [V.ref f4])) (WC.en xb).at_ nW
    have WB : WL4 (cxOf CX0 P w K mg base nEr "_law_errors_right" (defScope sErrsRight) T.aLErrsRight (.ref c) A outer s H E).nox 8 CS T.C C1 T.CC C3 C4 C5 C6 C7 C8 C9 C10 T.CAr C12 C13 T.CSw (B14 TT H) (Sl14 p st g) (upd Hb W (.lst ([f0, f1, f2, f3].map V.ref ++ [V.ref f4]))) W [f0, f1, f2, f3, f4] [[.str "arrangement"], [.str "arrangement"], [.str "count"], [.str "count"], [.str "arrangement"]] := (WC.en xb).more (gs := [f4]) (ms := [[.str "arrangement"]]) (.cons (wkE4 (X := (cxOf CX0 P w K mg base nEr "_law_errors_right" (defScope sErrsRight) T.aLErrsRight (.ref c) A outer s H E).nox) T AN X0 hg gl go isz) .nil)
    generalize upd Hb W (.lst ([f0, f1, f2, f3].map V.ref ++ [V.ref f4])) = HB at IB WB ⊢
    clear xb vb tb nfb isz IC WC
    show bT _ _ _
    subst eT
    refine seq_abs fun bT eT => ?_
    -- what is due
    refine ⟨(by show 1 ≤ sizeLine; decide), fun t1 h1 => ⟨(by show 1 ≤ sizeLine; decide), fun a1 ha1 => ⟨a1, 2, _, rfl, rfl, upd_same, by decide, by decide, (by show 2 ≤ sizeLine; decide), fun a2 ha2 => ?_⟩⟩⟩
    refine ⟨(by show 1 ≤ sizeLine; decide), fun t2 h2 => ⟨(by show 1 ≤ sizeLine; decide), fun b1 hb1 => ⟨b1, 2, _, rfl, rfl, upd_same, by decide, by decide, (by show 2 ≤ sizeLine; decide), fun b2 hb2 => ?_⟩⟩⟩
    refine ⟨a2, b2, _, _, rfl, rfl, ((same_upd h2).trans ((same_upd hb1).trans (same_upd hb2))) _ _ upd_same, upd_same, (by show 4 ≤ sizeLine; decide), fun c1 hc1 => ⟨(by show 1 ≤ sizeLine; decide), fun t3 h3 => ⟨(by show 1 ≤ sizeLine; decide), fun d1 hd1 => ⟨c1, d1, _, _, rfl, rfl, ((same_upd h3).trans (same_upd hd1)) _ _ upd_same, upd_same, (by show 5 ≤ sizeLine; decide), fun du hdu => ?_⟩⟩⟩⟩
    have s1 := same_upd (o := .tup [.str "arrangement"]) h1
    have s2 := same_upd (o := .lst [.ref t1]) ha1
    have s3 := same_upd (o := .lst (List.replicate (2 : Int).toNat [V.ref t1]).flatten) ha2
    have s4 := same_upd (o := .tup [.str "count"]) h2
    have s5 := same_upd (o := .lst [.ref t2]) hb1
    have s6 := same_upd (o := .lst (List.replicate (2 : Int).toNat [V.ref t2]).flatten) hb2
    have s7 := same_upd (o := .lst ((List.replicate (2 : Int).toNat [V.ref t1]).flatten ++ (List.replicate (2 : Int).toNat [V.ref t2]).flatten)) hc1
    have s8 := same_upd (o := .tup [.str "arrangement"]) h3
    have s9 := same_upd (o := .lst [.ref t3]) hd1
    have s10 := same_upd (o := .lst (((List.replicate (2 : Int).toNat [V.ref t1]).flatten ++ (List.replicate (2 : Int).toNat [V.ref t2]).flatten) ++ [.ref t3])) hdu
    have sB := s5.trans (s6.trans (s7.trans (s8.trans (s9.trans s10))))
    have sA := s1.trans (s2.trans (s3.trans (s4.trans sB)))
    have k3 := s9.trans s10
    have kt1 := (s2.trans (s3.trans (s4.trans sB))) t1 _ upd_same
    have kt2 := sB t2 _ upd_same
    have kt3 := k3 t3 _ upd_same
    have kdu : (upd (upd (upd (upd (upd (upd (upd (upd (upd (upd HB t1 (.tup [.str "arrangement"])) a1 (.lst [.ref t1])) a2 (.lst (List.replicate (2 : Int).toNat [V.ref t1]).flatten)) t2 (.tup [.str "count"])) b1 (.lst [.ref t2])) b2 (.lst (List.replicate (2 : Int).toNat [V.ref t2]).flatten)) c1 (.lst ((List.replicate (2 : Int).toNat [V.ref t1]).flatten ++ (List.replicate (2 : Int).toNat [V.ref t2]).flatten))) t3 (.tup [.str "arrangement"])) d1 (.lst [.ref t3])) du (.lst (((List.replicate (2 : Int).toNat [V.ref t1]).flatten ++ (List.replicate (2 : Int).toNat [V.ref t2]).flatten) ++ [.ref t3]))) du = some (HO.lst ([t1, t1, t2, t2, t3].map V.ref)) := upd_same
    have ID := IB.sm sA
    have WD := WB.sm sA
    generalize (upd (upd (upd (upd (upd (upd (upd (upd (upd (upd HB t1 (.tup [.str "arrangement"])) a1 (.lst [.ref t1])) a2 (.lst (List.replicate (2 : Int).toNat [V.ref t1]).flatten)) t2 (.tup [.str "count"])) b1 (.lst [.ref t2])) b2 (.lst (List.replicate (2 : Int).toNat [V.ref t2]).flatten)) c1 (.lst ((List.replicate (2 : Int).toNat [V.ref t1]).flatten ++ (List.replicate (2 : Int).toNat [V.ref t2]).flatten))) t3 (.tup [.str "arrangement"])) d1 (.lst [.ref t3])) du (.lst (((List.replicate (2 : Int).toNat [V.ref t1]).flatten ++ (List.replicate (2 : Int).toNat [V.ref t2]).flatten) ++ [.ref t3]))) = HD at ID WD kt1 kt2 kt3 kdu ⊢
    clear s1 s2 s3 s4 s5 s6 s7 s8 s9 s10 sB sA k3 IB WB h1 ha1 ha2 h2 hb1 hb2 hc1 h3 hd1 hdu
    show bT _ _ _
    subst eT
    refine seq_abs fun bT eT => ?_
    refine ⟨.ref W, rfl, W, rfl, ⟨_, .inl (.inl WD.at_)⟩, fun D hD => ?_⟩
    refine lc_errs4 (TT := TT) WD ⟨_, _, _, _, _, _, _, rfl⟩ ID.t (fun H' e t => ID.en e t) (by show 5 ≤ 900; decide) hD (fun v => ⟨rfl, rfl⟩) (fun HF eF tF ⟨qs, hd, hp⟩ => ?_)
    have IE := ID.en eF tF
    have sq : ∀ {a : Addr} {xs : List V}, HD a = some (.tup xs) → SqT K HF a xs := fun z => .inl (.inl (eF _ _ z (fun _ z => nomatch z)))
    have kd2 := eF _ _ kdu (fun _ z => nomatch z)
    clear WD ID hD
    refine ⟨.ref du, rfl, ?_⟩
    show qNe K _ _ _ _
    refine ne_same (n := 2) (.lst (.inl (.inl hd)) (dpAll_nm (nms := eN) hp)) (.lst (.inl (.inl kd2)) (dpAll_nmS (nms := eN) (.cons (sq kt1) (.cons (sq kt1) (.cons (sq kt2) (.cons (sq kt2) (.cons (sq kt3) .nil))))))) (by unfold pld; exact pld_nms can_e) (okD_l (by rw [List.length_map]; show 5 ≤ 1000; decide) okD_nms) (by decide) ⟨false, rfl, ite_no rfl ?_⟩
    clear eF tF hp sq kd2 kt1 kt2 kt3 kdu hd
    show bT _ _ _
    subst eT
    refine seq_abs fun bT eT => ?_
    -- the first place and the last
    obtain ⟨pl0, hpl0⟩ : ∃ x, (placesV zs rs.length)[0]? = some x := ⟨_, List.getElem?_eq_getElem (by omega)⟩
    obtain ⟨plz, hplz⟩ : ∃ x, (placesV zs rs.length)[ps.length - 1]? = some x := ⟨_, List.getElem?_eq_getElem (by omega)⟩
    obtain ⟨p0, hp0, kp0⟩ := tupsV_ix tv hpl0
    obtain ⟨pz, hpz, kpz⟩ := tupsV_ix tv hplz
    have fl0 := placesV_flP _ (List.mem_of_getElem? hpl0)
    have flz := placesV_flP _ (List.mem_of_getElem? hplz)
    have hE1 := IE.e _ _ hE (fun _ z => nomatch z)
    have sp0 : SqT K HF p0 pl0 := IE.k _ _ (.inl (.inl kp0))
    have spz : SqT K HF pz plz := IE.k _ _ (.inl (.inl kpz))
    have a0 : (ps.map V.ref)[0]? = some (V.ref p0) := by rw [List.getElem?_map, hp0]; rfl
    have az : atI (ps.map V.ref) (-1) = some (V.ref pz) := atI_end (by rw [List.getElem?_map, List.length_map, hpz]; rfl)
    refine ⟨.ref e, rfl, e, _, 0, .ref p0, rfl, rfl, .inl (.inl hE1), atI_nat a0, .ref e, rfl, 1, rfl, e, _, _, .ref pz, rfl, rfl, .inl (.inl hE1), az, (by show 2 ≤ sizeLine; decide), fun gd hgd => ?_⟩
    have IG := IE.sm (same_upd (o := .tup [.ref p0, .ref pz]) hgd)
    have hE2 := same_upd (o := .tup [.ref p0, .ref pz]) hgd _ _ hE1
    have tp0 := sqT_same (same_upd (o := .tup [.ref p0, .ref pz]) hgd) sp0
    have tpz := sqT_same (same_upd (o := .tup [.ref p0, .ref pz]) hgd) spz
    have kgd : (upd HF gd (.tup [.ref p0, .ref pz])) gd = some (.tup [.ref p0, .ref pz]) := upd_same
    generalize upd HF gd (.tup [.ref p0, .ref pz]) = HG at IG hE2 tp0 tpz kgd ⊢
    clear IE hE1 sp0 spz hgd kp0 kpz
    show bT _ _ _
    subst eT
    refine seq_abs fun bT eT => ?_
    -- the odd ones
    refine ⟨.ref e, rfl, e, _, 0, .ref p0, rfl, rfl, .inl (.inl hE2), atI_nat a0, .ref e, rfl, e, _, 0, .ref p0, rfl, rfl, .inl (.inl hE2), atI_nat a0, (by show 2 ≤ sizeLine; decide), fun o1 h1 => ?_⟩
    have s1 := same_upd (o := .tup [.ref p0, .ref p0]) h1
    have u1 : (upd HG o1 (.tup [.ref p0, .ref p0])) o1 = some (.tup [.ref p0, .ref p0]) := upd_same
    generalize upd HG o1 (.tup [.ref p0, .ref p0]) = H1 at s1 u1 ⊢
    refine ⟨.ref e, rfl, e, _, 0, .ref p0, rfl, rfl, .inl (.inl (s1 _ _ hE2)), atI_nat a0, (by show 1 ≤ sizeLine; decide), fun o2 h2 => ?_⟩
    have s2 := same_upd (o := .tup [.ref p0]) h2
    have u2 : (upd H1 o2 (.tup [.ref p0])) o2 = some (.tup [.ref p0]) := upd_same
    generalize upd H1 o2 (.tup [.ref p0]) = H2 at s2 u2 ⊢
    refine ⟨.ref e, rfl, e, _, 0, .ref p0, rfl, rfl, .inl (.inl (s2 _ _ (s1 _ _ hE2))), atI_nat a0, .ref e, rfl, 1, rfl, e, _, _, .ref pz, rfl, rfl, .inl (.inl (s2 _ _ (s1 _ _ hE2))), az, (by show 2 ≤ sizeLine; decide), fun o3 h3 => ?_⟩
    have s3 := same_upd (o := .lst [.ref p0, .ref pz]) h3
    have u3 : (upd H2 o3 (.lst [.ref p0, .ref pz])) o3 = some (.lst [.ref p0, .ref pz]) := upd_same
    generalize upd H2 o3 (.lst [.ref p0, .ref pz]) = H3 at s3 u3 ⊢
    refine ⟨.ref e, rfl, e, _, 0, .ref p0, rfl, rfl, .inl (.inl (s3 _ _ (s2 _ _ (s1 _ _ hE2)))), atI_nat a0, (by show 3 ≤ sizeLine; decide), fun o4 h4 => ⟨(by show 2 ≤ sizeLine; decide), fun o5 h5 => ⟨(by show 5 ≤ sizeLine; decide), fun U hU => ?_⟩⟩⟩
    have s4 := same_upd (o := .tup [.str "shelf", .int 12, .int 0]) h4
    have u4 : (upd H3 o4 (.tup [.str "shelf", .int 12, .int 0])) o4 = some (.tup [.str "shelf", .int 12, .int 0]) := upd_same
    generalize upd H3 o4 (.tup [.str "shelf", .int 12, .int 0]) = H4 at s4 u4 h5 hU ⊢
    have s5 := same_upd (o := .tup [.ref p0, .ref o4]) h5
    have u5 : (upd H4 o5 (.tup [.ref p0, .ref o4])) o5 = some (.tup [.ref p0, .ref o4]) := upd_same
    generalize upd H4 o5 (.tup [.ref p0, .ref o4]) = H5 at s5 u5 hU ⊢
    have s6 := same_upd (o := .tup [.ref o1, .ref o2, .ref o3, .non, .ref o5]) hU
    have u6 : (upd H5 U (.tup [.ref o1, .ref o2, .ref o3, .non, .ref o5])) U = some (.tup [.ref o1, .ref o2, .ref o3, .non, .ref o5]) := upd_same
    generalize upd H5 U (.tup [.ref o1, .ref o2, .ref o3, .non, .ref o5]) = HU at s6 u6 ⊢
    have r5 := s5.trans s6
    have r4 := s4.trans r5
    have r3 := s3.trans r4
    have r2 := s2.trans r3
    have rA := s1.trans r2
    have tq0 := sqT_same rA tp0
    have tqz := sqT_same rA tpz
    have hE3 := rA _ _ hE2
    have kg3 := rA _ _ kgd
    have IU := IG.sm rA
    have odd : ∀ v ∈ [V.ref o1, V.ref o2, V.ref o3, V.non, V.ref o5], SwV K HU (placesV zs rs.length) v none := fun v hv => by
      simp only [List.mem_cons, List.not_mem_nil, or_false] at hv
      rcases hv with rfl | rfl | rfl | rfl | rfl
      · exact .inr ⟨o1, p0, p0, pl0, pl0, rfl, .inl (.inl (r2 _ _ u1)), tq0, tq0, fl0, fl0, fun z => z.2.2 rfl⟩
      · exact .inl (.inr (.inr ⟨o2, _, rfl, .inl (.inl (r3 _ _ u2)), by show 1 ≠ 2; decide⟩))
      · exact .inl (.inr (.inl ⟨o3, _, rfl, .inl (.inl (r4 _ _ u3))⟩))
      · exact .inl (.inl rfl)
      · exact .inr ⟨o5, p0, o4, pl0, _, rfl, .inl (.inl (s6 _ _ u5)), tq0, .inl (.inl (r5 _ _ u4)), fl0, isPl_flP (.pos 12 0), fun z => far_place z1.2 z.2.1⟩
    clear s1 s2 s3 s4 s5 s6 r2 r3 r4 r5 rA u1 u2 u3 u4 u5 h1 h2 h3 h4 h5 hU hE2 tp0 tpz kgd IG
    refine ⟨U, rfl, ⟨_, .inl (.inl u6)⟩, for_tup (xs := [V.ref o1, V.ref o2, V.ref o3, V.non, V.ref o5]) (fun i σ H' => (∃ y8 y9 y10, σ = [some (.ref p), some (.ref st), some (.ref e), some (.ref g), some (.int farI), some (.ref W), some (.ref du), some (.ref gd), y8, y9, y10]) ∧ B14 TT HU H')
      ⟨⟨_, _, _, rfl⟩, ⟨fun _ _ h _ => h, IU.t⟩⟩ (fun i σ H' _ h => h.2.k _ _ (.inl (.inl u6))) (fun i v σ H' hv ⟨⟨y8, y9, y10, es⟩, J⟩ => ?_) (fun σ H' ⟨⟨y8, y9, y10, es⟩, J⟩ => ?_)⟩
    · subst es
      have hvo : SwV K HU (placesV zs rs.length) v none := odd v (List.mem_of_getElem? hv)
      have hEj := J.e _ _ hE3 (fun _ z => nomatch z)
      have kgj := J.e _ _ kg3 (fun _ z => nomatch z)
      have q0 := J.k _ _ tq0
      have qz := J.k _ _ tqz
      refine seq_ways2 (B := fun σ' H4 => B14 TT HU H4 ∧ ∃ (r : Addr) (xs : List V) (sw : List (Nat × Nat)) (y : Option V), σ' = [some (.ref p), some (.ref st), some (.ref e), some (.ref g), some (.int farI), some (.ref W), some (.ref du), some (.ref gd), some v, some (.ref r), y] ∧ H4 r = some (.lst (xs ++ [v])) ∧ xs.length ≤ 6 ∧ sw.length = xs.length ∧ ∀ (i : Nat) (w : V) (ij : Nat × Nat), xs[i]? = some w → sw[i]? = some ij → SwV K H4 (placesV zs rs.length) w (some ij)) (fun σ' H4 ⟨J4, r, xs, sw, y, es, kr, xl, sl, hsw⟩ => ?_) (fun tail => ?_)
      · subst es
        clear q0 qz hEj kgj
        refine ⟨J4.t, fun HB g1 v1 t1 => ⟨p, st, r, rfl, ?_⟩⟩
        have JB := J4.en g1 t1
        have krB := g1 _ _ kr (fun _ z => nomatch z)
        have XB : PS0 K HB p st zs rs t L := X0.imp (IU.en JB.e JB.t).k
        refine go_swE XB krB (by omega) sl (fun i w ij h1 h2 => (hsw i w ij h1 h2).en g1) (hvo.en JB.e) (swE_err AN fun HE ee sm9 hne hke => ?_)
        have JE := JB.sm sm9
        have el : (((xs ++ [v]).length : Nat) : Int) - 1 = ((xs.length : Nat) : Int) := by rw [List.length_append, List.length_singleton]; omega
        refine ⟨.ref r, rfl, r, _, rfl, .inl (.inl (.inl (sm9 _ _ krB))), _, _, rfl, rfl, (by show 2 ≤ sizeLine; decide), ?_⟩
        intro d hd
        show qNe K (.ref ee) (.ref d) (upd HE d (.tup [.str "swap", .int ((((xs ++ [v]).length : Nat) : Int) - 1)])) _
        rw [el]
        refine ne_swap ((same_upd hd) _ _ hke) upd_same ⟨false, rfl, ite_no rfl ?_⟩
        exact ⟨⟨_, _, _, rfl⟩, JE.sm (same_upd hd)⟩
      · refine ⟨.ref e, rfl, e, _, 0, .ref p0, rfl, rfl, .inl (.inl hEj), atI_nat a0, .ref e, rfl, 1, rfl, e, _, _, .ref pz, rfl, rfl, .inl (.inl hEj), az, ?_⟩
        show qNe K _ _ _ _
        refine neP_go q0 qz fl0 flz ⟨_, rfl, ?_⟩
        by_cases eq : pl0 = plz
        · refine ite_no (by rw [decide_eq_true eq]; rfl) ⟨_, rfl, (by show 1 ≤ sizeLine; decide), fun r hr => tail _ _ ⟨J.sm (same_upd hr), r, [], [], y10, rfl, upd_same, Nat.zero_le _, rfl, fun i w ij h _ => by simp at h⟩⟩
        · refine ite_yes (by rw [decide_eq_false eq]; rfl) ⟨_, rfl, (by show 1 ≤ sizeLine; decide), fun a1 ha1 => ⟨a1, 6, _, rfl, rfl, upd_same, by decide, by decide, (by show 6 ≤ sizeLine; decide), fun a2 ha2 => ⟨_, rfl, (by show 1 ≤ sizeLine; decide), fun b1 hb1 => ⟨a2, b1, _, _, rfl, rfl, (same_upd hb1) _ _ upd_same, upd_same, (by show 7 ≤ sizeLine; decide), fun r hr => ?_⟩⟩⟩⟩
          have m := (((same_upd ha1 (o := .lst [.ref gd])).trans (same_upd ha2 (o := .lst (List.replicate (6 : Int).toNat [V.ref gd]).flatten))).trans (same_upd hb1 (o := .lst [v]))).trans (same_upd hr (o := .lst ((List.replicate (6 : Int).toNat [V.ref gd]).flatten ++ [v])))
          refine tail _ _ ⟨J.sm m, r, (List.replicate (6 : Int).toNat [V.ref gd]).flatten, List.replicate 6 (0, ps.length - 1), y10, rfl, upd_same, by show 6 ≤ 6; decide, rfl, fun i w ij h1 h2 => ?_⟩
          have e1 : w = .ref gd := List.eq_of_mem_replicate (n := 6) (List.mem_of_getElem? h1)
          have e2 : ij = (0, ps.length - 1) := List.eq_of_mem_replicate (List.mem_of_getElem? h2)
          subst e1
          subst e2
          exact ⟨gd, p0, pz, pl0, plz, rfl, .inl (.inl (m _ _ kgj)), sqT_same m q0, sqT_same m qz, hpl0, hplz, eq⟩
    · subst es
      show bT _ _ _
      subst eT
      exact q _ (IU.en J.e J.t)
end
end Sv
set_option maxHeartbeats 8000000
namespace Sv
open PySem PySem.Spec PyProof.Rows L2 LamX NdefX
theorem TupF.x {H H' : Hp} {h l u : Addr} {xs : List V} (L : LawH H h l) (e : SameX h l H H') (t : TupF H u xs) : TupF H' u xs := by
  obtain ⟨o, k, d⟩ := t
  exact ⟨o, ExtL.x L e _ _ k (fun _ z => nomatch z) (fun _ z => nomatch z), d⟩
theorem tupsV_xx {H H' : Hp} {h l : Addr} {ps : List Addr} {ts : List (List V)} (L : LawH H h l) (e : SameX h l H H') (t : TupsV H ps ts) : TupsV H' ps ts :=
  tupsV_imp (fun _ _ k => ExtL.x L e _ _ k (fun _ z => nomatch z) (fun _ z => nomatch z)) t
theorem neT_go {K : PySem.W.Frag} {H : Hp} {a b : Addr} {l : List Int} {Q : VK} (h1 : SqT K H a (l.map V.int)) (h2 : SqT K H b (l.map V.int)) (hl : l.length ≤ 1000) (q : Q (.bl false) H) : qNe K (.ref a) (.ref b) H Q :=
  ne_same (n := 1) (dp_ti h1) (dp_ti h2) (pld_ti l) (okD_ti hl) (by decide) q
section
variable {P : Program} {w : World} {K : PySem.W.Frag} {mg : Str → Option Value} {base : Heap}
def nLaw : List Str := ["_law_script", "_law_h", "_law_turn", "_law_plan_here", "_law_state_here", "_law_every", "_law_count", "_law_later", "_law_goal", "_law_swaps", "_law_hence", "_law_row", "_law_first", "_law_second", "_law_one", "_law_other"]
theorem scLaw : FnScope nLaw ["_law_script"] (defScope sLaw) := ⟨rfl, rfl, rfl, by decide +kernel, rfl, by decide +kernel, by decide +kernel⟩
def lwT (Pt : Addr) : List (Addr × Str) := [(Pt, erQ)]
def spLaw (K : PySem.W.Frag) (Pt : Addr) : Sp := fun vs H Q _ => ∃ (a : Addr) (ns : List Int), vs = [.ref a] ∧ SqL K H a (ns.map V.int) ∧ ns.length ≤ 63 ∧ Tabs (lwT Pt) H ∧ ∀ H', Q (.bl true) H'
theorem ok_law {f c Pt : Addr} {fd : FuncData} (T : Bd P K mg) (F : Df K mg "law" sLaw ["_law_script"] f fd) {CS C1 C3 C4 C5 C6 C7 C8 C9 C10 C12 C13 : Addr} (hc : T.dLErrsRight.code = .ref c) (TB : TabB base mg c Pt)
    (G : ErG mg CS T.C C1 T.CC C3 C4 C5 C6 C7 C8 C9 C10 T.CAr C12 C13 T.CSw) (XF : XfC K T.C) (xp : PySem.W.findIn K (.ref T.C) "part" = some none) (xi : PySem.W.findIn K (.ref T.C) "index" = some none)
    (AN : Ans14 K CS T.C C1 T.CC C3 C4 C5 C6 C7 C8 C9 C10 T.CAr C12 C13 T.CSw) :
    FnOk P w K mg base CX0 14 f fd ["_law_script"] (spLaw K Pt) := by
  have GM : FnOk P w K mg base CX0 1 T.aLMix T.dLMix ["_law_script", "_law_seed"] (spMix K) := ok_mix T.LMix.F T.bt
  have GN : FnOk P w K mg base CX0 1 T.aLNext T.dLNext ["_law_h", "_law_limit"] qNext := by unfold qNext; exact ok_next T.LNext.F T.bt
  have GA : FnOk P w K mg base CX0 7 T.aLAlike T.dLAlike ["_law_found", "_law_due"] (qAlike K) := by unfold qAlike; exact ok_alike T.LAlike T.bt 6
  have GP : FnOk P w K mg base CX0 2 T.aLPlan T.dLPlan ["_law_h", "_law_shelves", "_law_carriers"] (qPlanG K) := by unfold qPlanG; exact ok_planG T
  have GS : FnOk P w K mg base CX0 2 T.aLState T.dLState ["_law_h", "_law_plan_here"] (qState K) := by unfold qState; exact ok_state T
  have GMx : FnOk P w K mg base CX0 2 T.aLMixed T.dLMixed ["_law_h", "_law_row", "_law_changes"] (spMx K) := ok_mx T
  have GW : FnOk P w K mg base CX0 1 T.aLLawWheels T.dLLawWheels ["_law_one", "_law_other"] (spWh K) := ok_wh T
  have JA : FnOk P w K mg base (L2.CX P w) 12 T.aArrange T.dArrange ["plan", "state"] (qArr K T.C T.CS) := arr_ok T
  have JV : FnOk P w K mg base (L2.CX P w) 12 T.aAdvance T.dAdvance ["plan", "state", "count"] (qAdvance K) := adv_ok T
  have JP : FnOk P w K mg base (L2.CX P w) 12 T.aPlaces T.dPlaces ["plan"] (qPls K T.C) := pls_ok T
  have JS : FnOk P w K mg base (L2.CX P w) 12 T.aPlanSwaps T.dPlanSwaps ["plan", "state", "goal", "count"] (qPlS K T.C T.CS T.CAr T.CC) := plS_ok T
  have JF : FnOk P w K mg base (L2.CX P w) 12 T.aFewest T.dFewest ["plan", "state", "goal", "count"] (qFew K T.C T.CS T.CAr T.CC) := few_ok T
  have JW : FnOk P w K mg base (L2.CX P w) 12 T.aSwapAll T.dSwapAll ["plan", "state", "swaps"] (qSwA K T.C T.CS T.CSw) := swA_ok T
  have GX : FnSt P w K mg base 9 T.aLError (KnErr P w K mg base 8 CS T.C C1 T.CC C3 C4 C5 C6 C7 C8 C9 C10 T.CAr C12 C13 T.CSw) := ok_error T.LError T.bt G XF xp xi
  have uu : ∀ p ∈ lwT Pt, p.1 = Pt → p.2 = erQ := fun p hp _ => by rw [List.mem_singleton.mp hp]
  have GR : FnOk P w K mg base CX0 13 T.aLErrsRight T.dLErrsRight ["_law_plan_here", "_law_state_here", "_law_every", "_law_goal"] (spEr K (lwT Pt)) := ok_er T hc TB (List.mem_singleton.mpr rfl) uu GX AN
  refine F.F.ok scLaw (fun vs H Q E h => ?_) (fun cdv A outer s H vs Q E hr h => ?_)
  · obtain ⟨a, ns, rfl, _⟩ := h
    rfl
  · obtain ⟨a, ns, rfl, hA, hl, hT, q⟩ := h
    refine ⟨_, pss_cons (ps_set (i := 1) scLaw.nd rfl (Or.inl rfl) (pe_call (E := E0) GM (hr.mono (by decide)) (by rfl) T.LMix.g T.LMix.F.kp T.LMix.b .nil pass0 (pa_cons (pv 0) (pa_cons (pe_int) pa_nil))))
      (pss_cons (ps_for PassesOwn.never rfl (pi_range1 (by rfl) T.bt.range (pa_cons (pe_int) pa_nil)) (pg_name (i := 2) scLaw.nd rfl (Or.inl rfl))
        (pss_cons (ps_set (i := 3) scLaw.nd rfl (Or.inl rfl) (pe_call (E := E0) GP (hr.mono (by decide)) (by rfl) T.LPlan.g T.LPlan.F.kp T.LPlan.b .nil pass0 (pa_cons (pv 1) (pa_cons (pe_ix ix_list (pe_lst (pa_cons (pe_int) (pa_cons (pe_int) pa_nil))) (pe_call (E := E0) GN (hr.mono (by decide)) (by rfl) T.LNext.g T.LNext.F.kp T.LNext.b .nil pass0 (pa_cons (pv 1) (pa_cons (pe_int) pa_nil))) (fun _ _ => rfl)) (pa_cons (pe_int) pa_nil)))))
      (pss_cons (ps_par (i := 4) (j := 5) rfl scLaw.nd rfl rfl (by decide) rfl rfl (pa_cons (pe_call (E := E0) GS (hr.mono (by decide)) (by rfl) T.LState.g T.LState.F.kp T.LState.b .nil pass0 (pa_cons (pv 1) (pa_cons (pv 3) pa_nil))) (pa_cons (pe_call (E := E0) JP (hr.mono (by decide)) (by rfl) T.Places.g T.Places.F.kp T.Places.b .nil passL (pa_cons (pv 3) pa_nil)) pa_nil)) (by rfl))
      (pss_cons (ps_set (i := 6) scLaw.nd rfl (Or.inl rfl) (pe_op op_mul (pe_call (E := E0) GN (hr.mono (by decide)) (by rfl) T.LNext.g T.LNext.F.kp T.LNext.b .nil pass0 (pa_cons (pv 1) (pa_cons (pe_ix ix_list (pe_lst (pa_cons (pe_int) (pa_cons (pe_op op_pow pe_int pe_int) pa_nil))) (pe_call (E := E0) GN (hr.mono (by decide)) (by rfl) T.LNext.g T.LNext.F.kp T.LNext.b .nil pass0 (pa_cons (pv 1) (pa_cons (pe_int) pa_nil))) (fun _ _ => rfl)) pa_nil))) (pe_op op_sub (pe_int) (pe_op op_mul (pe_int) (pe_call (E := E0) GN (hr.mono (by decide)) (by rfl) T.LNext.g T.LNext.F.kp T.LNext.b .nil pass0 (pa_cons (pv 1) (pa_cons (pe_int) pa_nil)))))))
      (pss_cons (ps_set (i := 7) scLaw.nd rfl (Or.inl rfl) (pe_call (E := E0) JA (hr.mono (by decide)) (by rfl) T.Arrange.g T.Arrange.F.kp T.Arrange.b .nil passL (pa_cons (pv 3) (pa_cons (pe_call (E := E0) JV (hr.mono (by decide)) (by rfl) T.Advance.g T.Advance.F.kp T.Advance.b .nil passL (pa_cons (pv 3) (pa_cons (pv 4) (pa_cons (pv 6) pa_nil)))) pa_nil))))
      (pss_cons (ps_set (i := 8) scLaw.nd rfl (Or.inl rfl) (pe_call (E := E0) GMx (hr.mono (by decide)) (by rfl) T.LMixed.g T.LMixed.F.kp T.LMixed.b .nil pass0 (pa_cons (pv 1) (pa_cons (pv 7) (pa_cons (pe_call (E := E0) GN (hr.mono (by decide)) (by rfl) T.LNext.g T.LNext.F.kp T.LNext.b .nil pass0 (pa_cons (pv 1) (pa_cons (pe_ix ix_list (pe_lst (pa_cons (pe_int) (pa_cons (pe_int) pa_nil))) (pe_call (E := E0) GN (hr.mono (by decide)) (by rfl) T.LNext.g T.LNext.F.kp T.LNext.b .nil pass0 (pa_cons (pv 1) (pa_cons (pe_int) pa_nil))) (fun _ _ => rfl)) pa_nil))) pa_nil)))))
      (pss_cons (ps_set (i := 9) scLaw.nd rfl (Or.inl rfl) (pe_call (E := E0) JS (hr.mono (by decide)) (by rfl) T.PlanSwaps.g T.PlanSwaps.F.kp T.PlanSwaps.b .nil passL (pa_cons (pv 3) (pa_cons (pv 4) (pa_cons (pv 8) (pa_cons (pv 6) pa_nil))))))
      (pss_cons (ps_set (i := 10) scLaw.nd rfl (Or.inl rfl) (pe_call (E := E0) JW (hr.mono (by decide)) (by rfl) T.SwapAll.g T.SwapAll.F.kp T.SwapAll.b .nil passL (pa_cons (pv 3) (pa_cons (pv 4) (pa_cons (pv 9) pa_nil)))))
      (pss_cons (ps_if (pt_cmpR (op_neQ hr.units) (pe_call (E := E0) JA (hr.mono (by decide)) (by rfl) T.Arrange.g T.Arrange.F.kp T.Arrange.b .nil passL (pa_cons (pv 3) (pa_cons (pe_call (E := E0) JV (hr.mono (by decide)) (by rfl) T.Advance.g T.Advance.F.kp T.Advance.b .nil passL (pa_cons (pv 3) (pa_cons (pv 10) (pa_cons (pv 6) pa_nil)))) pa_nil))) (pv 8) (nomark _)) pss_never pss_nil)
      (pss_cons (ps_if (pt_cmpR op_ne (pe_call (E := E0) JF (hr.mono (by decide)) (by rfl) T.Fewest.g T.Fewest.F.kp T.Fewest.b .nil passL (pa_cons (pv 3) (pa_cons (pv 4) (pa_cons (pv 8) (pa_cons (pv 6) pa_nil))))) (pe_callB call_len_seq (by rfl) T.bt.len b_len (pa_cons (pv 9) pa_nil)) (nomark _)) pss_never pss_nil)
      (pss_cons (ps_if (pt_cmpR op_ne (pe_callB call_len_seq (by rfl) T.bt.len b_len (pa_cons (pv 9) pa_nil)) (pe_op op_sub (pe_callB call_len_seq (by rfl) T.bt.len b_len (pa_cons (pv 5) pa_nil)) (pe_call (E := E0) GW (hr.mono (by decide)) (by rfl) T.LLawWheels.g T.LLawWheels.F.kp T.LLawWheels.b .nil pass0 (pa_cons (pv 7) (pa_cons (pv 8) pa_nil)))) (nomark _)) pss_never pss_nil)
      (pss_cons (ps_set (i := 11) scLaw.nd rfl (Or.inl rfl) (pe_callTy call_list_of (by rfl) T.bt.list b_list (pa_cons (pe_call (E := E0) JA (hr.mono (by decide)) (by rfl) T.Arrange.g T.Arrange.F.kp T.Arrange.b .nil passL (pa_cons (pv 3) (pa_cons (pv 4) pa_nil))) pa_nil)))
      (pss_cons (ps_for PassesOwn.never rfl (pi_list (pv 9)) (pg_tup rfl (pgs_cons (pg_name (i := 12) scLaw.nd rfl (.inl rfl)) (pgs_cons (pg_name (i := 13) scLaw.nd rfl (.inl rfl)) pgs_nil)))
        (pss_cons (ps_par (i := 14) (j := 15) rfl scLaw.nd rfl rfl (by decide) rfl rfl (pa_cons (pe_bm PySem.F.plainAttrs_list PySem.F.slot_list_index PySem.F.type_list_index (mt_indexD (room65 hr)) (pv 5) (pa_cons (pv 12) pa_nil)) (pa_cons (pe_bm PySem.F.plainAttrs_list PySem.F.slot_list_index PySem.F.type_list_index (mt_indexD (room65 hr)) (pv 5) (pa_cons (pv 13) pa_nil)) pa_nil)) (by rfl))
      (pss_one (ps_asg (pe_tup (pa_cons (pe_ix ix_list (pv 11) (pv 15) (fun _ _ => rfl)) (pa_cons (pe_ix ix_list (pv 11) (pv 14) (fun _ _ => rfl)) pa_nil))) (pg_tup rfl (pgs_cons (pg_sub (pv 11) (pv 14) set_list) (pgs_cons (pg_sub (pv 11) (pv 15) set_list) pgs_nil)))))))
      (pss_cons (ps_if ((pw_or (pt_not (pt_val (pe_call (E := E0) GA (hr.mono (by decide)) (by rfl) T.LAlike.g T.LAlike.F.kp T.LAlike.b .nil pass0 (pa_cons (pe_call (E := E0) JA (hr.mono (by decide)) (by rfl) T.Arrange.g T.Arrange.F.kp T.Arrange.b .nil passL (pa_cons (pv 3) (pa_cons (pv 10) pa_nil))) (pa_cons (pe_callTy call_tuple_of (by rfl) T.bt.tuple b_tuple (pa_cons (pv 11) pa_nil)) pa_nil))))) (pw_or1 (pt_cmpR op_ne (pe_ix ix_tup (pv 10) (pe_int) (fun _ _ => rfl)) (pe_ix ix_tup (pv 4) (pe_int) (fun _ _ => rfl)) (nomark _)))).pt) pss_never pss_nil)
      (pss_one (ps_if (pt_not (pt_val (pe_call (E := E0) GR (hr.mono (by decide)) (by rfl) T.LErrsRight.g T.LErrsRight.F.kp T.LErrsRight.b .nil pass0 (pa_cons (pv 3) (pa_cons (pv 4) (pa_cons (pv 5) (pa_cons (pv 8) pa_nil))))))) pss_never pss_nil))))))))))))))))
      (pss_one (ps_ret (pe_bl)))), ?_⟩
    have eS : L2.start nLaw [.ref a] = [some (.ref a), none, none, none, none, none, none, none, none, none, none, none, none, none, none, none] := rfl
    rw [eS]
    refine seq_abs fun bT eT => ?_
    refine ⟨.ref a, rfl, a, ns, 14, rfl, hA, hl, fun H1 h l LH sm nh nl => ?_⟩
    show bT _ _ _
    subst eT
    refine seq_abs fun bT eT => ?_
    refine ⟨2, rfl, by omega, by omega, ?_⟩
    refine for_range (lo := 0) (n := (2 : Int).toNat) (fun i σ H' => (∃ x0 x2 x3 x4 x5 x6 x7 x8 x9 x10 x11 x12 x13 x14 x15, σ = [x0, some (.ref h), x2, x3, x4, x5, x6, x7, x8, x9, x10, x11, x12, x13, x14, x15]) ∧ LS (lwT Pt) h l H')
      ⟨⟨_, _, _, _, _, _, _, _, _, _, _, _, _, _, _, rfl⟩, ⟨LH, hT.ext sm⟩⟩ (fun i σ H2 hi ⟨⟨x0, x2, x3, x4, x5, x6, x7, x8, x9, x10, x11, x12, x13, x14, x15, es⟩, S2⟩ => ?_) (fun σ H2 _ => by show bT _ _ _; subst eT; exact q _)
    subst es
    clear LH sm nh nl hT
    refine seq_abs fun bT2 eT2 => ?_
    -- the plan
    refine ⟨.ref h, rfl, (by show 2 ≤ sizeLine; decide), fun D hD => ⟨.ref h, rfl, ?_⟩⟩
    have S3 := S2.s (same_upd (o := .lst [.int 3, .int 8]) hD)
    have nD := S2.law.nh hD
    have kD : (upd H2 D (.lst [.int 3, .int 8])) D = some (.lst (([3, 8] : List Int).map V.int)) := upd_same
    generalize upd H2 D (.lst [.int 3, .int 8]) = H3 at S3 kD ⊢
    clear S2 hD
    show qNext _ _ _ _
    refine go_next S3.law (by decide) (by decide) fun w1 H4 hw1 L4 x4' => ?_
    obtain ⟨m, hm, hm2⟩ : ∃ m : Int, ([3, 8] : List Int)[w1]? = some m ∧ 1 ≤ m ∧ m ≤ 12 := by
      have : w1 = 0 ∨ w1 = 1 := by omega
      rcases this with rfl | rfl
      · exact ⟨3, rfl, by decide, by decide⟩
      · exact ⟨8, rfl, by decide, by decide⟩
    refine ⟨D, _, _, .int m, rfl, rfl, .inl (.inl (x4' _ _ nD.1 nD.2 kD)), atI_nat (by rw [List.getElem?_map, hm]; rfl), ?_⟩
    have S4 := S3.x L4 x4'
    clear S3 kD nD hm hw1 L4 x4'
    show qPlanG _ _ _ _ _
    refine go_planG S4.law hm2 ⟨by decide, by decide⟩ fun H5 p zs rs S5 hp5 hv _ _ => ?_
    have LS5 := S4.x S5.law S5.k
    clear S4 S5 hm2
    show bT2 _ _ _
    subst eT2
    refine seq_abs fun bT2 eT2 => ?_
    -- the state and its places
    refine ⟨.ref h, rfl, .ref p, rfl, ?_⟩
    show qState _ _ _ _ _
    refine go_state LS5.law hp5 hv fun H6 st t L S6 hs6 ok0 ht0 => ?_
    have LS6 := LS5.x S6.law S6.k
    have X6 : PS0 K H6 p st zs rs t L := ⟨plan_imp hp5 (sqT_st LS5.law S6), hv, hs6, ok0⟩
    clear LS5 S6 hp5 hs6
    refine ⟨.ref p, rfl, ?_⟩
    show qPls _ _ _ _ _ _
    refine go_pls X6.p hv fun H7 e sm7 ne tl => ⟨_, _, rfl, ?_⟩
    obtain ⟨ps, kE, tv⟩ := tl.ex
    have LS7 := LS6.s sm7
    have nE := LS6.law.nh ne
    have X7 := X6.imp fun _ _ => sqT_same sm7
    clear LS6 X6 sm7 ne tl
    show bT2 _ _ _
    subst eT2
    refine seq_abs fun bT2 eT2 => ?_
    -- the count
    refine ⟨.ref h, rfl, 10, 17, rfl, rfl, ⟨by decide, by decide, by decide⟩, (by show 2 ≤ sizeLine; decide), fun D hD => ⟨.ref h, rfl, ?_⟩⟩
    have e17 : (10 : Int) ^ (17 : Int).toNat = 100000000000000000 := by decide
    have smD := same_upd (o := .lst [.int 9, .int ((10 : Int) ^ (17 : Int).toNat)]) hD
    have nD := LS7.law.nh hD
    have kD : (upd H7 D (.lst [.int 9, .int ((10 : Int) ^ (17 : Int).toNat)])) D = some (.lst (([9, 100000000000000000] : List Int).map V.int)) := by
      rw [upd_same, e17]
      rfl
    have S8 := LS7.s smD
    have X8 := X7.imp fun _ _ => sqT_same smD
    have kE8 := smD _ _ kE
    have tv8 := tupsV_same smD tv
    generalize upd H7 D (.lst [.int 9, .int ((10 : Int) ^ (17 : Int).toNat)]) = H8 at S8 X8 kE8 tv8 kD ⊢
    clear LS7 X7 kE tv smD hD
    show qNext _ _ _ _
    refine go_next S8.law (by decide) (by decide) fun w2 H9 hw2 L9 x9' => ?_
    obtain ⟨m, hm, hm2⟩ : ∃ m : Int, ([9, 100000000000000000] : List Int)[w2]? = some m ∧ 1 ≤ m ∧ m ≤ 100000000000000000 := by
      have : w2 = 0 ∨ w2 = 1 := by omega
      rcases this with rfl | rfl
      · exact ⟨9, rfl, by decide, by decide⟩
      · exact ⟨_, rfl, by decide, by decide⟩
    refine ⟨D, _, _, .int m, rfl, rfl, .inl (.inl (x9' _ _ nD.1 nD.2 kD)), atI_nat (by rw [List.getElem?_map, hm]; rfl), ?_⟩
    have S9 := S8.x L9 x9'
    have k9 : ∀ a xs, SqT K H8 a xs → SqT K H9 a xs := fun _ _ z => sqT_x S8.law x9' z
    have kE9 := x9' _ _ nE.1 nE.2 kE8
    have tv9 := tupsV_xx S8.law x9' tv8
    have X9 := X8.imp k9
    clear S8 X8 kE8 tv8 kD nD hm hw2 L9 x9' k9
    show qNext _ _ _ _
    refine go_next S9.law (by omega) (by omega) fun w3 H10 hw3 L10 x10' => ⟨.ref h, rfl, ?_⟩
    have S10 := S9.x L10 x10'
    have kE10 := x10' _ _ nE.1 nE.2 kE9
    have tv10 := tupsV_xx S9.law x10' tv9
    have X10 := X9.imp fun _ _ z => sqT_x S9.law x10' z
    clear S9 X9 kE9 tv9 L10 x10'
    show qNext _ _ _ _
    refine go_next S10.law (by decide) (by decide) fun w4 H11 hw4 L11 x11' => ⟨2, _, rfl, rfl, .inl ⟨by decide, by decide⟩, _, _, rfl, rfl, _, _, rfl, rfl, ?_, ?_⟩
    · have b64 : (100000000000000000 : Int) < 2 ^ 64 := by decide
      have b0 : -(2 ^ 64 : Int) < 0 := by decide
      exact .inl ⟨by omega, by omega⟩
    have S11 := S10.x L11 x11'
    have kE11 := x11' _ _ nE.1 nE.2 kE10
    have tv11 := tupsV_xx S10.law x11' tv10
    have X11 := X10.imp fun _ _ z => sqT_x S10.law x11' z
    clear S10 X10 kE10 tv10 L11 x11'
    have cb : -100000000000000000 ≤ ((w3 : Nat) : Int) * (1 - 2 * ((w4 : Nat) : Int)) ∧ ((w3 : Nat) : Int) * (1 - 2 * ((w4 : Nat) : Int)) ≤ 100000000000000000 := by
      have : w4 = 0 ∨ w4 = 1 := by omega
      rcases this with rfl | rfl <;> constructor <;> omega
    show bT2 _ [x0, some (.ref h), _, some (.ref p), some (.ref st), some (.ref e), some (.int (((w3 : Nat) : Int) * (1 - 2 * ((w4 : Nat) : Int)))), x7, x8, x9, x10, x11, x12, x13, x14, x15] H11
    generalize ((w3 : Nat) : Int) * (1 - 2 * ((w4 : Nat) : Int)) = ct at cb ⊢
    have hct : CtOk ct := ⟨by omega, by omega⟩
    subst eT2
    refine seq_abs fun bT2 eT2 => ?_
    -- later
    refine ⟨.ref p, rfl, .ref p, rfl, .ref st, rfl, .int ct, rfl, ?_⟩
    show qAdvance _ _ _ _ _
    refine go_advance X11 hct fun H12 s2 sm12 hs12 => ?_
    have X12 := X11.imp fun _ _ => sqT_same sm12
    have tk : TimeOk (t + ct) := ⟨by omega, by omega⟩
    have XL : PS0 K H12 p s2 zs rs (t + ct) (advA 0 zs rs t ct L) := ⟨X12.p, hv, hs12, advA_ok ok0 tk⟩
    show qArr _ _ _ _ _ _ _
    refine go_arr XL fun H13 la sm13 nla tla => ?_
    have S13 := (S11.s sm12).s sm13
    have X13 := X12.imp fun _ _ => sqT_same sm13
    have kE13 := sm13 _ _ (sm12 _ _ kE11)
    have tv13 := tupsV_same sm13 (tupsV_same sm12 tv11)
    clear S11 X11 X12 XL kE11 tv11 sm12 sm13 hs12 nla
    have lp : (join (advA 0 zs rs t ct L)).Perm (join L) := advA_perm t ct ok0.f
    have jl := join_len ok0.f
    have ll := lp.length_eq
    have hnum := hv.num
    have r1 := hv.r1
    show bT2 _ _ _
    subst eT2
    refine seq_abs fun bT2 eT2 => ?_
    -- the goal
    refine ⟨.ref h, rfl, .ref la, rfl, .ref h, rfl, (by show 2 ≤ sizeLine; decide), fun D hD => ⟨.ref h, rfl, ?_⟩⟩
    have smD := same_upd (o := .lst [.int 3, .int 200]) hD
    have nD := S13.law.nh hD
    have kD : (upd H13 D (.lst [.int 3, .int 200])) D = some (.lst (([3, 200] : List Int).map V.int)) := upd_same
    have S14 := S13.s smD
    have X14 := X13.imp fun _ _ => sqT_same smD
    have kE14 := smD _ _ kE13
    have tv14 := tupsV_same smD tv13
    have tla14 := tla.same smD
    generalize upd H13 D (.lst [.int 3, .int 200]) = H14 at S14 X14 kE14 tv14 tla14 kD ⊢
    clear S13 X13 kE13 tv13 tla smD hD
    show qNext _ _ _ _
    refine go_next S14.law (by decide) (by decide) fun w5 H15 hw5 L15 x15' => ?_
    obtain ⟨m5, hm5, hm6⟩ : ∃ m : Int, ([3, 200] : List Int)[w5]? = some m ∧ 1 ≤ m ∧ m ≤ 200 := by
      have : w5 = 0 ∨ w5 = 1 := by omega
      rcases this with rfl | rfl
      · exact ⟨3, rfl, by decide, by decide⟩
      · exact ⟨200, rfl, by decide, by decide⟩
    refine ⟨D, _, _, .int m5, rfl, rfl, .inl (.inl (x15' _ _ nD.1 nD.2 kD)), atI_nat (by rw [List.getElem?_map, hm5]; rfl), ?_⟩
    have S15 := S14.x L15 x15'
    have kE15 := x15' _ _ nE.1 nE.2 kE14
    have tv15 := tupsV_xx S14.law x15' tv14
    have X15 := X14.imp fun _ _ z => sqT_x S14.law x15' z
    have tla15 := tla14.x S14.law x15'
    clear S14 X14 kE14 tv14 tla14 kD nD hm5 hw5 L15 x15'
    show qNext _ _ _ _
    refine go_next S15.law (by omega) (by omega) fun w6 H16 hw6 L16 x16' => ?_
    have S16 := S15.x L16 x16'
    have kE16 := x16' _ _ nE.1 nE.2 kE15
    have tv16 := tupsV_xx S15.law x16' tv15
    have X16 := X15.imp fun _ _ z => sqT_x S15.law x16' z
    have tla16 := tla15.x S15.law x16'
    clear S15 X15 kE15 tv15 tla15 L16 x16'
    refine ⟨h, l, la, join (advA 0 zs rs t ct L), ((w6 : Nat) : Int), rfl, S16.law, tla16.sq, ⟨by omega, by omega⟩, ⟨by omega, by omega⟩, fun H17 g gs S17 hg pm => ?_⟩
    have LS17 := S16.x S17.law S17.k
    have kE17 := S17.k _ _ nE.1 nE.2 kE16
    have tv17 := tupsV_xx S16.law S17.k tv16
    have X17 := X16.imp (sqT_st S16.law S17)
    have tla17 := tla16.x S16.law S17.k
    clear S16 X16 kE16 tv16 tla16 S17
    have pmj : gs.Perm (join L) := pm.trans lp
    have gl := pmj.length_eq
    have go : GoalOk gs (join L) := ⟨gl, ⟨fun x hx => ok0.p.1 x (pmj.mem_iff.mp hx), pmj.nodup_iff.mpr ok0.p.2⟩, pmj⟩
    show bT2 _ _ _
    subst eT2
    refine seq_abs fun bT2 eT2 => ?_
    -- the swaps
    refine ⟨.ref p, rfl, .ref st, rfl, .ref g, rfl, .int ct, rfl, ?_⟩
    show qPlS _ _ _ _ _ _ _ _ _
    refine go_plS X17 hg (by omega) (fun z => absurd go z) (fun _ z => absurd hct z) (fun _ _ H18 r sm18 nr sw => ?_)
    have S18 := LS17.s sm18
    have kE18 := sm18 _ _ kE17
    have tv18 := tupsV_same sm18 tv17
    have X18 := X17.imp fun _ _ => sqT_same sm18
    have tla18 := tla17.same sm18
    have hg18 := sqT_same sm18 hg
    clear LS17 X17 kE17 tv17 tla17 hg sm18
    obtain ⟨us, ps2, kr, tu, tp⟩ := sw.ex
    have swl := swL_len (t := t) (c := ct) ok0.f ok0.p.2 pmj
    have swp := swL_pairs (t := t) (c := ct) ok0.f ok0.p.2 pmj
    have swr := runO_wan (t := t) (c := ct) ok0.f ok0.p.2 pmj
    have sww := sw_wheels (t := t) (c := ct) ok0.f ok0.p.2 pmj
    have ul : us.length = (swL zs rs t ct L gs).length := by
      have := tupsV_len tu
      unfold prA at this
      rwa [List.length_map] at this
    have pn := placesV_len zs rs.length fun z hz => (hv.z2 z hz).1
    have p2l := tupsV_len tp
    have svw : ∀ {H' : Hp}, (∀ a xs, SqT K H18 a xs → SqT K H' a xs) → ∀ (i : Nat) (v : V) (ij : Nat × Nat), (us.map V.ref)[i]? = some v → (swL zs rs t ct L gs)[i]? = some ij → SwV K H' (placesV zs rs.length) v (some ij) := fun {H'} kk i v ij h1 h2 => by
      obtain ⟨b1, b2, b3⟩ := swp ij (List.mem_of_getElem? h2)
      rw [List.getElem?_map] at h1
      cases hu : us[i]? with
      | none => rw [hu] at h1; cases h1
      | some u =>
        rw [hu] at h1
        obtain rfl := Option.some.inj h1
        have hpr : (prA ps2 (swL zs rs t ct L gs))[i]? = some [V.ref (ps2.getD ij.1 0), V.ref (ps2.getD ij.2 0)] := by
          unfold prA
          rw [List.getElem?_map, h2]
          rfl
        obtain ⟨u2, hu2, ku⟩ := tupsV_ix tu hpr
        rw [hu] at hu2
        obtain rfl := Option.some.inj hu2
        obtain ⟨pa, hpa⟩ : ∃ x, (placesV zs rs.length)[ij.1]? = some x := ⟨_, List.getElem?_eq_getElem (by omega)⟩
        obtain ⟨pb, hpb⟩ : ∃ x, (placesV zs rs.length)[ij.2]? = some x := ⟨_, List.getElem?_eq_getElem (by omega)⟩
        obtain ⟨qa, ea, ka⟩ := tupsV_ix tp hpa
        obtain ⟨qb, eb, kb⟩ := tupsV_ix tp hpb
        have ga : ps2.getD ij.1 0 = qa := by rw [List.getD_eq_getElem?_getD, ea]; rfl
        have gb : ps2.getD ij.2 0 = qb := by rw [List.getD_eq_getElem?_getD, eb]; rfl
        rw [ga, gb] at ku
        refine ⟨_, qa, qb, pa, pb, rfl, kk _ _ (.inl (.inl ku)), kk _ _ (.inl (.inl ka)), kk _ _ (.inl (.inl kb)), hpa, hpb, fun z => b3 ?_⟩
        rw [z] at hpa
        obtain ⟨q1, q2⟩ := List.getElem?_eq_some_iff.mp hpa
        obtain ⟨q3, q4⟩ := List.getElem?_eq_some_iff.mp hpb
        exact (List.getElem_inj (placesV_nodup zs rs.length)).mp (q2.trans q4.symm)
    generalize hsw : swL zs rs t ct L gs = W at *
    show bT2 _ _ _
    subst eT2
    refine seq_abs fun bT2 eT2 => ?_
    -- swapped
    refine ⟨.ref p, rfl, .ref st, rfl, .ref r, rfl, ?_⟩
    show qSwA _ _ _ _ _ _ _ _
    refine go_swA X18 kr (by rw [List.length_map]; omega) (by rw [List.length_map]; omega) (svw fun _ _ z => z) fun H19 hs sm19 nhs hst => ?_
    rw [swr] at hst
    have wp : (wanL zs rs t ct gs).Perm gs := wanL_perm (by omega)
    have wl : (wanL zs rs t ct gs).length = rs.length + sumN zs := by rw [wp.length_eq]; omega
    have okW : StOk zs rs t (spl rs.length zs (wanL zs rs t ct gs)) := ⟨ok0.t, spl_fits wl, by
      rw [join_spl wl]
      exact ⟨fun x hx => go.2.1.1 x (wp.mem_iff.mp hx), wp.nodup_iff.mpr go.2.1.2⟩⟩
    have X19 := X18.imp fun _ _ => sqT_same sm19
    have XW : PS0 K H19 p hs zs rs t (spl rs.length zs (wanL zs rs t ct gs)) := ⟨X19.p, hv, hst, okW⟩
    have S19 := S18.s sm19
    have kE19 := sm19 _ _ kE18
    have tv19 := tupsV_same sm19 tv18
    have tla19 := tla18.same sm19
    have hg19 := sqT_same sm19 hg18
    have kr19 := sm19 _ _ kr
    have nR : ∀ {H' : Hp}, Same H18 H' → H' r = some (.lst (us.map V.ref)) := fun e => e _ _ kr
    have svw19 : ∀ (i : Nat) (v : V) (ij : Nat × Nat), (us.map V.ref)[i]? = some v → W[i]? = some ij → SwV K H19 (placesV zs rs.length) v (some ij) := svw fun _ _ => sqT_same sm19
    clear S18 X18 kE18 tv18 tla18 hg18 hst svw nR kr tu tp p2l sw nr sm19 nhs
    show bT2 _ _ _
    subst eT2
    refine seq_abs fun bT2 eT2 => ?_
    -- the goal is reached
    refine ⟨.ref p, rfl, .ref p, rfl, .ref hs, rfl, .int ct, rfl, ?_⟩
    show qAdvance _ _ _ _ _
    refine go_advance XW hct fun H20 s3 sm20 hs20 => ?_
    have XA : PS0 K H20 p s3 zs rs (t + ct) (advA 0 zs rs t ct (spl rs.length zs (wanL zs rs t ct gs))) := ⟨(X19.imp fun _ _ => sqT_same sm20).p, hv, hs20, advA_ok okW tk⟩
    show qArr _ _ _ _ _ _ _
    refine go_arr XA fun H21 u1 sm21 nu1 tu1 => ⟨.ref g, rfl, ?_⟩
    rw [wan_goal (by omega)] at tu1
    have smA := sm20.trans sm21
    show qNe _ _ _ _ _
    refine neT_go tu1.sq (sqT_same smA hg19) (by omega) ⟨false, rfl, ite_no rfl ?_⟩
    have S21 := S19.s smA
    have kE21 := smA _ _ kE19
    have tv21 := tupsV_same smA tv19
    have tla21 := tla19.same smA
    have hg21 := sqT_same smA hg19
    have kr21 := smA _ _ kr19
    have X21 := X19.imp fun _ _ => sqT_same smA
    have XW21 := XW.imp fun _ _ => sqT_same smA
    have sv21 : ∀ (i : Nat) (v : V) (ij : Nat × Nat), (us.map V.ref)[i]? = some v → W[i]? = some ij → SwV K H21 (placesV zs rs.length) v (some ij) := fun i v ij a b => (svw19 i v ij a b).same smA
    clear S19 kE19 tv19 tla19 hg19 kr19 X19 XW svw19 XA hs20 sm20 sm21 tu1 nu1 smA
    show bT2 _ _ _
    subst eT2
    refine seq_abs fun bT2 eT2 => ?_
    -- the fewest
    refine ⟨.ref p, rfl, .ref st, rfl, .ref g, rfl, .int ct, rfl, ?_⟩
    show qFew _ _ _ _ _ _ _ _ _
    refine go_few X21 hg21 (by omega) (fun z => absurd go z) (fun _ z => absurd hct z) (fun _ _ H22 sm22 => ?_)
    rw [hsw]
    refine ⟨.ref r, rfl, r, _, rfl, .inl (.inl (.inl (sm22 _ _ kr21))), rfl, _, rfl, ?_⟩
    rw [List.length_map, ul, int_eqV]
    refine ite_no (by rw [decide_eq_true rfl]; rfl) ?_
    have S22 := S21.s sm22
    have kE22 := sm22 _ _ kE21
    have tv22 := tupsV_same sm22 tv21
    have tla22 := tla21.same sm22
    have hg22 := sqT_same sm22 hg21
    have kr22 := sm22 _ _ kr21
    have X22 := X21.imp fun _ _ => sqT_same sm22
    have XW22 := XW21.imp fun _ _ => sqT_same sm22
    have sv22 : ∀ (i : Nat) (v : V) (ij : Nat × Nat), (us.map V.ref)[i]? = some v → W[i]? = some ij → SwV K H22 (placesV zs rs.length) v (some ij) := fun i v ij a b => (sv21 i v ij a b).same sm22
    clear S21 kE21 tv21 tla21 hg21 kr21 X21 XW21 sv21 sm22
    show bT2 _ _ _
    subst eT2
    refine seq_abs fun bT2 eT2 => ?_
    -- the wheels
    have pel := tupsV_len tv22
    refine ⟨.ref r, rfl, r, _, rfl, .inl (.inl (.inl kr22)), .ref e, rfl, e, _, rfl, .inl (.inl (.inl kE22)), .ref la, rfl, .ref g, rfl, la, g, join (advA 0 zs rs t ct L), gs, rfl, tla22, hg22, pm, (lp.nodup_iff.mpr ok0.p.2), by omega, fun H23 sm23 => ?_⟩
    refine ⟨_, _, rfl, rfl, rfl, _, rfl, ?_⟩
    have e1 : ((us.length : Nat) : Int) = ((ps.length : Nat) : Int) - ((cn (join (advA 0 zs rs t ct L)).length (mnP fun p => ixOf (join (advA 0 zs rs t ct L)) (gs.getD p 0)) : Nat) : Int) := by
      rw [← pm.length_eq]
      omega
    rw [List.length_map, List.length_map, int_eqV]
    refine ite_no (by rw [decide_eq_true e1]; rfl) ?_
    clear e1 sww
    have S23 := S22.s sm23
    have kE23 := sm23 _ _ kE22
    have tv23 := tupsV_same sm23 tv22
    have hg23 := sqT_same sm23 hg22
    have kr23 := sm23 _ _ kr22
    have X23 := X22.imp fun _ _ => sqT_same sm23
    have XW23 := XW22.imp fun _ _ => sqT_same sm23
    have sv23 : ∀ (i : Nat) (v : V) (ij : Nat × Nat), (us.map V.ref)[i]? = some v → W[i]? = some ij → SwV K H23 (placesV zs rs.length) v (some ij) := fun i v ij a b => (sv22 i v ij a b).same sm23
    clear S22 kE22 tv22 tla22 hg22 kr22 X22 XW22 sv22 sm23
    show bT2 _ _ _
    subst eT2
    refine seq_abs fun bT2 eT2 => ?_
    -- the row
    refine ⟨.ref p, rfl, .ref st, rfl, ?_⟩
    show qArr _ _ _ _ _ _ _
    refine go_arr X23 fun H24 u2 sm24 nu2 tu2 => ⟨u2, _, rfl, .inr tu2.sq, fun D hD => ?_⟩
    have S24 := S23.s sm24
    have kE24 := sm24 _ _ kE23
    have tv24 := tupsV_same sm24 tv23
    have hg24 := sqT_same sm24 hg23
    have kr24 := sm24 _ _ kr23
    have X24 := X23.imp fun _ _ => sqT_same sm24
    have XW24 := XW23.imp fun _ _ => sqT_same sm24
    have sv24 : ∀ (i : Nat) (v : V) (ij : Nat × Nat), (us.map V.ref)[i]? = some v → W[i]? = some ij → SwV K H24 (placesV zs rs.length) v (some ij) := fun i v ij a b => (sv23 i v ij a b).same sm24
    clear S23 kE23 tv23 hg23 kr23 X23 XW23 sv23 sm24 nu2 tu2
    have smD := same_upd (o := .lst ((join L).map V.int)) hD
    have kD : (upd H24 D (.lst ((join L).map V.int))) D = some (.lst ((runO (join L) ((W.map some).take 0)).map V.int)) := upd_same
    generalize upd H24 D (.lst ((join L).map V.int)) = H25 at smD kD ⊢
    show bT2 _ _ _
    subst eT2
    refine seq_abs fun bT2 eT2 => ?_
    refine ⟨.ref r, rfl, r, rfl, ⟨_, .inl (.inl (smD _ _ kr24))⟩, for_list (xs := us.map V.ref) (fun i σ H' => (∃ y2 y12 y13 y14 y15, σ = [x0, some (.ref h), y2, some (.ref p), some (.ref st), some (.ref e), some (.int ct), some (.ref la), some (.ref g), some (.ref r), some (.ref hs), some (.ref D), y12, y13, y14, y15]) ∧ Same H24 H' ∧ H' D = some (.lst ((runO (join L) ((W.map some).take i)).map V.int)))
      ⟨⟨_, _, _, _, _, rfl⟩, smD, kD⟩ (fun i σ H' _ h => .inl (.inl (h.2.1 _ _ kr24))) (fun i v σ H' hvx ⟨⟨y2, y12, y13, y14, y15, es⟩, sm, kD'⟩ => ?_) (fun σ H' ⟨⟨y2, y12, y13, y14, y15, es⟩, sm, kD'⟩ => ?_)⟩
    · subst es
      clear smD kD eT2
      have hiu := (List.getElem?_eq_some_iff.mp hvx).1
      rw [List.length_map] at hiu
      obtain ⟨ij, hij⟩ : ∃ ij, W[i]? = some ij := ⟨_, List.getElem?_eq_getElem (by omega)⟩
      obtain ⟨i1, j1⟩ := ij
      obtain ⟨u, a, b, pa, pb, rfl, hu, ha, hb, ei, ej, ne⟩ := (sv24 i v (i1, j1) hvx hij).same sm
      have ei : (placesV zs rs.length)[i1]? = some pa := ei
      have ej : (placesV zs rs.length)[j1]? = some pb := ej
      have il := (List.getElem?_eq_some_iff.mp ei).1
      have jl2 := (List.getElem?_eq_some_iff.mp ej).1
      have kE' := sm _ _ kE24
      have tv' := tupsV_same sm tv24
      obtain ⟨d1, d2, d3, d4, d5, d6, d7⟩ := pl_index (K := K) kE' tv' (by omega) ha ei
      obtain ⟨c1, c2, c3, c4, c5, c6, c7⟩ := pl_index (K := K) kE' tv' (by omega) hb ej
      refine ⟨u, [.ref a, .ref b], rfl, hu, rfl, _, _, rfl, _, _, rfl, rfl, ?_⟩
      refine seq_abs fun bT3 eT3 => ?_
      refine ⟨.ref e, rfl, .inl ⟨rfl, _, .inl (.inl kE')⟩, .ref a, rfl, e, .ref a, dPl pa, _, i1, dPl pa, rfl, rfl, d1, d2, d3, d4, d5, d6, d7, .ref e, rfl, .inl ⟨rfl, _, .inl (.inl kE')⟩, .ref b, rfl, e, .ref b, dPl pb, _, j1, dPl pb, rfl, rfl, c1, c2, c3, c4, c5, c6, c7, _, _, rfl, ?_⟩
      show bT3 _ _ _
      subst eT3
      have rl := runO_len (join L) ((W.map some).take i)
      have nx : runO (join L) ((W.map some).take (i + 1)) = xch (runO (join L) ((W.map some).take i)) i1 j1 := by
        have hm : (W.map some)[i]? = some (some (i1, j1)) := by rw [List.getElem?_map, hij]; rfl
        rw [List.take_add_one, hm]
        exact runO_snoc ..
      have i1l : i1 < (runO (join L) ((W.map some).take i)).length := by omega
      have j1l : j1 < (runO (join L) ((W.map some).take i)).length := by omega
      rw [nx]
      generalize runO (join L) ((W.map some).take i) = fs at kD' i1l j1l ⊢
      have ai : (fs.map V.int)[i1]? = some (V.int (fs.getD i1 0)) := by rw [List.getElem?_map, getD_at i1l]; rfl
      have aj : (fs.map V.int)[j1]? = some (V.int (fs.getD j1 0)) := by rw [List.getElem?_map, getD_at j1l]; rfl
      refine ⟨.ref D, rfl, .int (j1 : Nat), rfl, D, _, (j1 : Nat), .int (fs.getD j1 0), rfl, rfl, .inl (.inl kD'), atI_nat aj, .ref D, rfl, .int (i1 : Nat), rfl, D, _, (i1 : Nat), .int (fs.getD i1 0), rfl, rfl, .inl (.inl kD'), atI_nat ai, (by show 2 ≤ sizeLine; decide), fun t9 ht9 => ?_⟩
      have lt9 : D ≠ t9 := ne_of_none kD' ht9
      refine ⟨t9, _, rfl, .inl (.inl upd_same), rfl, _, _, rfl, .ref D, rfl, .int (i1 : Nat), rfl, D, _, _, i1, rfl, rfl, by rw [upd_ne lt9]; exact kD', ixN_nat (by rw [List.length_map]; exact i1l), ?_⟩
      refine ⟨_, _, rfl, .ref D, rfl, .int (j1 : Nat), rfl, D, _, _, j1, rfl, rfl, upd_same, ixN_nat (by rw [List.length_set, List.length_map]; exact j1l), rfl, ?_⟩
      refine ⟨⟨_, _, _, _, _, rfl⟩, same_of (same_of (sm.trans (same_upd ht9)) hD) hD, ?_⟩
      rw [upd_same]
      unfold xch
      rw [List.map_set, List.map_set]
    · subst es
      have et : (W.map some).take (us.map V.ref).length = W.map some := by
        rw [List.length_map, ul, ← List.length_map (f := some) (as := W), List.take_length]
      rw [et, swr] at kD'
      have kE' := sm _ _ kE24
      have tv' := tupsV_same sm tv24
      have hg' := sqT_same sm hg24
      have X' := X24.imp fun _ _ => sqT_same sm
      have XW' := XW24.imp fun _ _ => sqT_same sm
      have S' := S24.s sm
      clear smD kD S24 kE24 tv24 hg24 kr24 X24 XW24 sv24
      show bT2 _ _ _
      subst eT2
      refine seq_abs fun bT2 eT2 => ?_
      refine ⟨.ref p, rfl, .ref hs, rfl, ?_⟩
      show qArr _ _ _ _ _ _ _
      refine go_arr XW' fun H26 u3 sm26 nu3 tu3 => ⟨.ref D, rfl, D, _, rfl, .inl ⟨.inl (.inl (sm26 _ _ kD')), fun q9 hq9 => ?_⟩⟩
      rw [join_spl wl] at tu3
      have sm9 := sm26.trans (same_upd (o := .tup ((wanL zs rs t ct gs).map V.int)) hq9)
      have k9 : (upd H26 q9 (.tup ((wanL zs rs t ct gs).map V.int))) q9 = some (.tup ((wanL zs rs t ct gs).map V.int)) := upd_same
      have k3 := sqT_same (same_upd (o := .tup ((wanL zs rs t ct gs).map V.int)) hq9) (tu3.sq (K := K))
      generalize upd H26 q9 (.tup ((wanL zs rs t ct gs).map V.int)) = H27 at sm9 k9 k3 ⊢
      show qAlike _ _ _ _ _
      refine go_alike (dp_ti k3) (dp_ti (.inl (.inl k9))) (okD_ti (by omega)) fun H28 sm28 => ⟨true, rfl, iteF ?_⟩
      have smB := sm9.trans sm28
      obtain ⟨ca, sh, hs1, _⟩ := (X'.imp fun _ _ => sqT_same smB).s.ex
      obtain ⟨cb2, sh2, hs2, _⟩ := (XW'.imp fun _ _ => sqT_same smB).s.ex
      refine ⟨.ref hs, rfl, hs, _, 0, .int t, rfl, rfl, hs2, rfl, .ref st, rfl, st, _, 0, .int t, rfl, rfl, hs1, rfl, rfl, _, rfl, ?_⟩
      rw [int_eqV]
      refine ite_no (by rw [decide_eq_true rfl]; rfl) ?_
      show bT2 _ _ _
      subst eT2
      refine ⟨.ref p, rfl, .ref st, rfl, .ref e, rfl, .ref g, rfl, p, st, e, g, ps, zs, rs, t, L, gs, rfl, (S'.s smB).tabs, X'.imp (fun _ _ => sqT_same smB), smB _ _ kE', tupsV_same smB tv', sqT_same smB hg', go, fun H29 b => ⟨true, rfl, iteF ?_⟩⟩
      exact ⟨⟨_, _, _, _, _, _, _, _, _, _, _, _, _, _, _, rfl⟩, ⟨(S'.s smB).law.ext b.e, b.t⟩⟩
end
end Sv
set_option maxHeartbeats 8000000
namespace Sv
open PySem PySem.Spec PyProof.Rows L2 LamX NdefX
theorem walk_ofTsX {l : PySem.W.OpenLaw} {n k : Nat} {q : Program} {loose : List Str} {XP : (Str → Option Value) → Heap → Prop} {YP : World → Heap → Prop} {d : DefRec} {K : Params → PySem.W.Frag} {CX : World → CXT} {x : Str}
    (hn : l.most = some n) (hn2 : n ≤ sizeLine) (hdf : d.params.defaults = []) (hr : Room k callerA) (hY : ∀ (w : World) (h : Heap), YP w h → (K w.params).In h)
    (F : ∀ (w : World) (mg : Str → Option Value) (fa : Addr) (h : Heap), XP mg h → YP w h → (K w.params).In h → h.Ns mainGlobals mg → mg d.name = some (.ref fa) → LawAtS l w (K w.params) (CX w) k n x mg fa h)
    (hCX : ∀ (w : World) (H : Hp) (s : Shared) (e : Value) (s' : Shared), CX w [] H s (fun _ _ _ => False) e s' → False) :
    PySem.W.WalkO q loose XP YP l.row.toRowW d [] (fun f vs => PySem.call f vs) := by
  refine Att.attach_callB hn hdf fun w s₀ s₁ mg mb fa o pm cd doc a vs ns G Y ho hd hcd hmg hobj hints hlen hbits hg => ?_
  have KX := hY w _ Y
  obtain ⟨fd, cs, sp, hT, nT, C, hb, hsp, hF⟩ := F w mg fa _ G.X Y KX G.T.g hmg
  exact law_callTs KX G.T.g G.T.b G.T.builtins G.T.nolimit hg hT nT C G.T.bmain hobj hints (Nat.le_trans hlen hn2) hr hF hb (fun H hH hS => hsp H a ns hlen hbits hH hS) fun H e s' => hCX w H s₁ e s'
theorem be_of {l : List V} {j : Nat} (h : (l.take j).all (fun z => !eqV z (.bl true)) = true) : ∀ (m : Nat) (z : V), m < j → l[m]? = some z → eqV z (.bl true) = false := fun m z hm hz => by
  have q := List.all_eq_true.mp h z (List.mem_of_getElem? (i := m) (by rw [List.getElem?_take, if_pos hm]; exact hz))
  simpa using q
section
variable {K : PySem.W.Frag} {h : Heap} {mg : Str → Option Value}
theorem df_mk {x : Str} {st : Stmt} {f : Addr} {oc : Value} {od an : Option Addr} {osl : Array (Option Value)} {kV doc pm cdv ct : Value} {ps : List Str} (X : K.In h) (G : h.Ns mainGlobals mg) (a : PySem.W.nsIn K mainGlobals x = some (some (.ref f)))
    (l : K.lookup f = some ⟨oc, od, .func (PySem.W.fnOf x x (defArgs st) (defBody st) (defScope st) .none kV doc pm an cdv ct), osl⟩) (c : PySem.W.codeIn K cdv x = true) (k : PySem.W.keepIn K (.ref f) = true)
    (b : ∀ (kV doc pm : Value) (an : Option Addr) (cdv ct : Value) (us : List Value), us.length = ps.length → bindArgs (PySem.W.fnOf x x (defArgs st) (defBody st) (defScope st) .none kV doc pm an cdv ct) ⟨us, []⟩ = pure (ps.zip us)) :
    Df K mg x st ps f (PySem.W.fnOf x x (defArgs st) (defBody st) (defScope st) .none kV doc pm an cdv ct) := ⟨fun_mk l c k, (fun_mk l c k).binds b, PySem.W.mg_of X G a⟩
/-- all that is asked of one of the classes that the law names -/
structure ErF (K : PySem.W.Frag) (CS C0 C1 C2 C3 C4 C5 C6 C7 C8 C9 C10 C11 C12 C13 C14 D : Addr) (b0 b1 b2 b3 b4 b5 b6 b7 b8 b9 b10 b11 b12 b13 b14 : Bool) : Prop where
  exc : ExcC K D
  ex : PySem.W.exmOne K (.ref D) (.ref CS) = some true
  ve : PySem.W.kitOne K (.ref D) (.type "ValueError") = some true
  k0 : PySem.W.kitOne K (.ref D) (.ref C0) = some b0
  k1 : PySem.W.kitOne K (.ref D) (.ref C1) = some b1
  k2 : PySem.W.kitOne K (.ref D) (.ref C2) = some b2
  k3 : PySem.W.kitOne K (.ref D) (.ref C3) = some b3
  k4 : PySem.W.kitOne K (.ref D) (.ref C4) = some b4
  k5 : PySem.W.kitOne K (.ref D) (.ref C5) = some b5
  k6 : PySem.W.kitOne K (.ref D) (.ref C6) = some b6
  k7 : PySem.W.kitOne K (.ref D) (.ref C7) = some b7
  k8 : PySem.W.kitOne K (.ref D) (.ref C8) = some b8
  k9 : PySem.W.kitOne K (.ref D) (.ref C9) = some b9
  k10 : PySem.W.kitOne K (.ref D) (.ref C10) = some b10
  k11 : PySem.W.kitOne K (.ref D) (.ref C11) = some b11
  k12 : PySem.W.kitOne K (.ref D) (.ref C12) = some b12
  k13 : PySem.W.kitOne K (.ref D) (.ref C13) = some b13
  k14 : PySem.W.kitOne K (.ref D) (.ref C14) = some b14
theorem era_count {CS C0 C1 C2 C3 C4 C5 C6 C7 C8 C9 C10 C11 C12 C13 C14 : Addr} (F : ErF K CS C0 C1 C2 C3 C4 C5 C6 C7 C8 C9 C10 C11 C12 C13 C14 C2 false false true false false false false false false false false false false false false) : ErA K CS C0 C1 C2 C3 C4 C5 C6 C7 C8 C9 C10 C11 C12 C13 C14 C2 "count" :=
  ⟨_, _, _, _, _, _, _, _, _, _, _, _, _, _, _, 2, ⟨F.exc, F.ex, F.ve, F.k0, F.k1, F.k2, F.k3, F.k4, F.k5, F.k6, F.k7, F.k8, F.k9, F.k10, F.k11, F.k12, F.k13, F.k14, rfl, rfl, be_of rfl, rfl⟩⟩
theorem era_arrangement {CS C0 C1 C2 C3 C4 C5 C6 C7 C8 C9 C10 C11 C12 C13 C14 : Addr} (F : ErF K CS C0 C1 C2 C3 C4 C5 C6 C7 C8 C9 C10 C11 C12 C13 C14 C11 false false false false false false false false false false false true false false false) : ErA K CS C0 C1 C2 C3 C4 C5 C6 C7 C8 C9 C10 C11 C12 C13 C14 C11 "arrangement" :=
  ⟨_, _, _, _, _, _, _, _, _, _, _, _, _, _, _, 11, ⟨F.exc, F.ex, F.ve, F.k0, F.k1, F.k2, F.k3, F.k4, F.k5, F.k6, F.k7, F.k8, F.k9, F.k10, F.k11, F.k12, F.k13, F.k14, rfl, rfl, be_of rfl, rfl⟩⟩
theorem era_swap {CS C0 C1 C2 C3 C4 C5 C6 C7 C8 C9 C10 C11 C12 C13 C14 : Addr} (F : ErF K CS C0 C1 C2 C3 C4 C5 C6 C7 C8 C9 C10 C11 C12 C13 C14 C14 false false false false false false false false false false false false false false true) : ErA K CS C0 C1 C2 C3 C4 C5 C6 C7 C8 C9 C10 C11 C12 C13 C14 C14 "swap" :=
  ⟨_, _, _, _, _, _, _, _, _, _, _, _, _, _, _, 14, ⟨F.exc, F.ex, F.ve, F.k0, F.k1, F.k2, F.k3, F.k4, F.k5, F.k6, F.k7, F.k8, F.k9, F.k10, F.k11, F.k12, F.k13, F.k14, rfl, rfl, be_of rfl, rfl⟩⟩
theorem lstN1 {fd : FuncData} {n0 : Str} (h : ∀ a0 : Value, bindArgs fd { pos := [a0] } = pure (([n0] : List Str).zip [a0])) : ∀ us : List Value, us.length = 1 → bindArgs fd { pos := us } = pure (([n0] : List Str).zip us)
  | [a0], _ => h a0
theorem lstN2 {fd : FuncData} {n0 n1 : Str} (h : ∀ a0 a1 : Value, bindArgs fd { pos := [a0, a1] } = pure (([n0, n1] : List Str).zip [a0, a1])) : ∀ us : List Value, us.length = 2 → bindArgs fd { pos := us } = pure (([n0, n1] : List Str).zip us)
  | [a0, a1], _ => h a0 a1
theorem lstN3 {fd : FuncData} {n0 n1 n2 : Str} (h : ∀ a0 a1 a2 : Value, bindArgs fd { pos := [a0, a1, a2] } = pure (([n0, n1, n2] : List Str).zip [a0, a1, a2])) : ∀ us : List Value, us.length = 3 → bindArgs fd { pos := us } = pure (([n0, n1, n2] : List Str).zip us)
  | [a0, a1, a2], _ => h a0 a1 a2
theorem lstN4 {fd : FuncData} {n0 n1 n2 n3 : Str} (h : ∀ a0 a1 a2 a3 : Value, bindArgs fd { pos := [a0, a1, a2, a3] } = pure (([n0, n1, n2, n3] : List Str).zip [a0, a1, a2, a3])) : ∀ us : List Value, us.length = 4 → bindArgs fd { pos := us } = pure (([n0, n1, n2, n3] : List Str).zip us)
  | [a0, a1, a2, a3], _ => h a0 a1 a2 a3
theorem all_mk {P : Program} {w : World} {fa : Addr} {fWithin : Addr} {ocWithin kVWithin dcWithin pmWithin cdWithin ctWithin : Value} {odWithin anWithin : Option Addr} {slWithin : Array (Option Value)}
    {fCheckCount : Addr} {ocCheckCount kVCheckCount dcCheckCount pmCheckCount cdCheckCount ctCheckCount : Value} {odCheckCount anCheckCount : Option Addr} {slCheckCount : Array (Option Value)}
    {fCheckBetween : Addr} {ocCheckBetween kVCheckBetween dcCheckBetween pmCheckBetween cdCheckBetween ctCheckBetween : Value} {odCheckBetween anCheckBetween : Option Addr} {slCheckBetween : Array (Option Value)}
    {fPlaces : Addr} {ocPlaces kVPlaces dcPlaces pmPlaces cdPlaces ctPlaces : Value} {odPlaces anPlaces : Option Addr} {slPlaces : Array (Option Value)}
    {fCheckPlan : Addr} {ocCheckPlan kVCheckPlan dcCheckPlan pmCheckPlan cdCheckPlan ctCheckPlan : Value} {odCheckPlan anCheckPlan : Option Addr} {slCheckPlan : Array (Option Value)}
    {fCheckSizes : Addr} {ocCheckSizes kVCheckSizes dcCheckSizes pmCheckSizes cdCheckSizes ctCheckSizes : Value} {odCheckSizes anCheckSizes : Option Addr} {slCheckSizes : Array (Option Value)}
    {fCheckRoutes : Addr} {ocCheckRoutes kVCheckRoutes dcCheckRoutes pmCheckRoutes cdCheckRoutes ctCheckRoutes : Value} {odCheckRoutes anCheckRoutes : Option Addr} {slCheckRoutes : Array (Option Value)}
    {fIsRoute : Addr} {ocIsRoute kVIsRoute dcIsRoute pmIsRoute cdIsRoute ctIsRoute : Value} {odIsRoute anIsRoute : Option Addr} {slIsRoute : Array (Option Value)}
    {fPlacesOf : Addr} {ocPlacesOf kVPlacesOf dcPlacesOf pmPlacesOf cdPlacesOf ctPlacesOf : Value} {odPlacesOf anPlacesOf : Option Addr} {slPlacesOf : Array (Option Value)}
    {fIsPlace : Addr} {ocIsPlace kVIsPlace dcIsPlace pmIsPlace cdIsPlace ctIsPlace : Value} {odIsPlace anIsPlace : Option Addr} {slIsPlace : Array (Option Value)}
    {fTruths : Addr} {ocTruths kVTruths dcTruths pmTruths cdTruths ctTruths : Value} {odTruths anTruths : Option Addr} {slTruths : Array (Option Value)}
    {fNumPlaces : Addr} {ocNumPlaces kVNumPlaces dcNumPlaces pmNumPlaces cdNumPlaces ctNumPlaces : Value} {odNumPlaces anNumPlaces : Option Addr} {slNumPlaces : Array (Option Value)}
    {fVisitsIn : Addr} {ocVisitsIn kVVisitsIn dcVisitsIn pmVisitsIn cdVisitsIn ctVisitsIn : Value} {odVisitsIn anVisitsIn : Option Addr} {slVisitsIn : Array (Option Value)}
    {fCommon : Addr} {ocCommon kVCommon dcCommon pmCommon cdCommon ctCommon : Value} {odCommon anCommon : Option Addr} {slCommon : Array (Option Value)}
    {fRoutePat : Addr} {ocRoutePat kVRoutePat dcRoutePat pmRoutePat cdRoutePat ctRoutePat : Value} {odRoutePat anRoutePat : Option Addr} {slRoutePat : Array (Option Value)}
    {fJoin : Addr} {ocJoin kVJoin dcJoin pmJoin cdJoin ctJoin : Value} {odJoin anJoin : Option Addr} {slJoin : Array (Option Value)}
    {fSplit : Addr} {ocSplit kVSplit dcSplit pmSplit cdSplit ctSplit : Value} {odSplit anSplit : Option Addr} {slSplit : Array (Option Value)}
    {fAfterTick : Addr} {ocAfterTick kVAfterTick dcAfterTick pmAfterTick cdAfterTick ctAfterTick : Value} {odAfterTick anAfterTick : Option Addr} {slAfterTick : Array (Option Value)}
    {fEffectTicks : Addr} {ocEffectTicks kVEffectTicks dcEffectTicks pmEffectTicks cdEffectTicks ctEffectTicks : Value} {odEffectTicks anEffectTicks : Option Addr} {slEffectTicks : Array (Option Value)}
    {fRepeated : Addr} {ocRepeated kVRepeated dcRepeated pmRepeated cdRepeated ctRepeated : Value} {odRepeated anRepeated : Option Addr} {slRepeated : Array (Option Value)}
    {fCyclesOf : Addr} {ocCyclesOf kVCyclesOf dcCyclesOf pmCyclesOf cdCyclesOf ctCyclesOf : Value} {odCyclesOf anCyclesOf : Option Addr} {slCyclesOf : Array (Option Value)}
    {fCycleFrom : Addr} {ocCycleFrom kVCycleFrom dcCycleFrom pmCycleFrom cdCycleFrom ctCycleFrom : Value} {odCycleFrom anCycleFrom : Option Addr} {slCycleFrom : Array (Option Value)}
    {fMoved : Addr} {ocMoved kVMoved dcMoved pmMoved cdMoved ctMoved : Value} {odMoved anMoved : Option Addr} {slMoved : Array (Option Value)}
    {fStateOf : Addr} {ocStateOf kVStateOf dcStateOf pmStateOf cdStateOf ctStateOf : Value} {odStateOf anStateOf : Option Addr} {slStateOf : Array (Option Value)}
    {fParcelsIn : Addr} {ocParcelsIn kVParcelsIn dcParcelsIn pmParcelsIn cdParcelsIn ctParcelsIn : Value} {odParcelsIn anParcelsIn : Option Addr} {slParcelsIn : Array (Option Value)}
    {fCheckState : Addr} {ocCheckState kVCheckState dcCheckState pmCheckState cdCheckState ctCheckState : Value} {odCheckState anCheckState : Option Addr} {slCheckState : Array (Option Value)}
    {fFits : Addr} {ocFits kVFits dcFits pmFits cdFits ctFits : Value} {odFits anFits : Option Addr} {slFits : Array (Option Value)}
    {fTupOf : Addr} {ocTupOf kVTupOf dcTupOf pmTupOf cdTupOf ctTupOf : Value} {odTupOf anTupOf : Option Addr} {slTupOf : Array (Option Value)}
    {fParcels : Addr} {ocParcels kVParcels dcParcels pmParcels cdParcels ctParcels : Value} {odParcels anParcels : Option Addr} {slParcels : Array (Option Value)}
    {fArrange : Addr} {ocArrange kVArrange dcArrange pmArrange cdArrange ctArrange : Value} {odArrange anArrange : Option Addr} {slArrange : Array (Option Value)}
    {fPlanSwaps : Addr} {ocPlanSwaps kVPlanSwaps dcPlanSwaps pmPlanSwaps cdPlanSwaps ctPlanSwaps : Value} {odPlanSwaps anPlanSwaps : Option Addr} {slPlanSwaps : Array (Option Value)}
    {fFewest : Addr} {ocFewest kVFewest dcFewest pmFewest cdFewest ctFewest : Value} {odFewest anFewest : Option Addr} {slFewest : Array (Option Value)}
    {fSwapAll : Addr} {ocSwapAll kVSwapAll dcSwapAll pmSwapAll cdSwapAll ctSwapAll : Value} {odSwapAll anSwapAll : Option Addr} {slSwapAll : Array (Option Value)}
    {fCheckArr : Addr} {ocCheckArr kVCheckArr dcCheckArr pmCheckArr cdCheckArr ctCheckArr : Value} {odCheckArr anCheckArr : Option Addr} {slCheckArr : Array (Option Value)}
    {fSwapsBetween : Addr} {ocSwapsBetween kVSwapsBetween dcSwapsBetween pmSwapsBetween cdSwapsBetween ctSwapsBetween : Value} {odSwapsBetween anSwapsBetween : Option Addr} {slSwapsBetween : Array (Option Value)}
    {fIsSwap : Addr} {ocIsSwap kVIsSwap dcIsSwap pmIsSwap cdIsSwap ctIsSwap : Value} {odIsSwap anIsSwap : Option Addr} {slIsSwap : Array (Option Value)}
    {fExchange : Addr} {ocExchange kVExchange dcExchange pmExchange cdExchange ctExchange : Value} {odExchange anExchange : Option Addr} {slExchange : Array (Option Value)}
    {fAdvance : Addr} {ocAdvance kVAdvance dcAdvance pmAdvance cdAdvance ctAdvance : Value} {odAdvance anAdvance : Option Addr} {slAdvance : Array (Option Value)}
    {fLMix : Addr} {ocLMix kVLMix dcLMix pmLMix cdLMix ctLMix : Value} {odLMix anLMix : Option Addr} {slLMix : Array (Option Value)}
    {fLNext : Addr} {ocLNext kVLNext dcLNext pmLNext cdLNext ctLNext : Value} {odLNext anLNext : Option Addr} {slLNext : Array (Option Value)}
    {fLAlike : Addr} {ocLAlike kVLAlike dcLAlike pmLAlike cdLAlike ctLAlike : Value} {odLAlike anLAlike : Option Addr} {slLAlike : Array (Option Value)}
    {fLError : Addr} {ocLError kVLError dcLError pmLError cdLError ctLError : Value} {odLError anLError : Option Addr} {slLError : Array (Option Value)}
    {fLPlan : Addr} {ocLPlan kVLPlan dcLPlan pmLPlan cdLPlan ctLPlan : Value} {odLPlan anLPlan : Option Addr} {slLPlan : Array (Option Value)}
    {fLState : Addr} {ocLState kVLState dcLState pmLState cdLState ctLState : Value} {odLState anLState : Option Addr} {slLState : Array (Option Value)}
    {fLMixed : Addr} {ocLMixed kVLMixed dcLMixed pmLMixed cdLMixed ctLMixed : Value} {odLMixed anLMixed : Option Addr} {slLMixed : Array (Option Value)}
    {fLLawWheels : Addr} {ocLLawWheels kVLLawWheels dcLLawWheels pmLLawWheels cdLLawWheels ctLLawWheels : Value} {odLLawWheels anLLawWheels : Option Addr} {slLLawWheels : Array (Option Value)}
    {fLErrsRight : Addr} {ocLErrsRight kVLErrsRight dcLErrsRight pmLErrsRight cdLErrsRight ctLErrsRight : Value} {odLErrsRight anLErrsRight : Option Addr} {slLErrsRight : Array (Option Value)}
    {fLaw : Addr} {ocLaw kVLaw dcLaw pmLaw cdLaw ctLaw : Value} {odLaw anLaw : Option Addr} {slLaw : Array (Option Value)}
    {tm1 : Tok}
    {tm2 : Tok}
    {tm3 : Tok}
    {tm4 : Tok}
    {tlP : Tok}
    {CS C0 C1 C2 C3 C4 C5 C6 C7 C8 C9 C10 C11 C12 C13 C14 : Addr}
    {CL fL : Addr} {odL anL : Option Addr} {slL : Array (Option Value)} {ocL kVL dcL pmL cdL ctL : Value}
    {pnm pq : Str} {pN : Addr} {pbs pbm : List Value} {psn : List Str} {psub : List Value} {pab : Bool} {pcol : Option Bool} {pdd : Option Addr} {pk0 pk1 pk2 pk3 pk5 : Option Value}
    {fI cc c0 : Addr} {ocI docI pmI ctI : Value} {odI : Option Addr} {slI : Array (Option Value)}
    {ccl : Value} {ccd : Option Addr} {ccs : Array (Option Value)}
    {kcl : Value} {kcd : Option Addr} {kvs : Array Value} {kcs : Array (Option Value)} {kfl : Str} {ktf : Tok}
    {wnm wq : Str} {wN : Addr} {wbs wbm : List Value} {wsn : List Str} {wsub : List Value} {wab : Bool} {wcol : Option Bool} {wdd : Option Addr} {wk0 wk1 wk2 wk3 wk5 : Option Value}
    {fW ccw c0w : Addr} {ocW docW pmW ctW : Value} {odW : Option Addr} {slW : Array (Option Value)}
    {wccl : Value} {wccd : Option Addr} {wccs : Array (Option Value)}
    {wkcl : Value} {wkcd : Option Addr} {wkvs : Array Value} {wkcs : Array (Option Value)} {wkfl : Str} {wktf : Tok}
    {c Pt : Addr} (X : K.In h) (G : h.Ns mainGlobals mg) (hfa : mg "law" = some (.ref fa)) (hPt : h.get? Pt = some { cls := .none, data := .fields #[] }) (hlim : ∃ t, mg "COUNT_LIMIT" = some (.int 1000000000000000000 t)) (htlim : ∃ t, mg "TIME_LIMIT" = some (.int 1000000000000000000000000000000 t))
    (aWithin : PySem.W.nsIn K mainGlobals "is_within" = some (some (.ref fWithin)))
    (lWithin : K.lookup fWithin = some ⟨ocWithin, odWithin, .func (PySem.W.fnOf "is_within" "is_within" (defArgs sWithin) (defBody sWithin) (defScope sWithin) .none kVWithin dcWithin pmWithin anWithin cdWithin ctWithin), slWithin⟩)
    (cWithin : PySem.W.codeIn K cdWithin "is_within" = true)
    (kWithin : PySem.W.keepIn K (.ref fWithin) = true)
    (aCheckCount : PySem.W.nsIn K mainGlobals "check_count" = some (some (.ref fCheckCount)))
    (lCheckCount : K.lookup fCheckCount = some ⟨ocCheckCount, odCheckCount, .func (PySem.W.fnOf "check_count" "check_count" (defArgs sCheckCount) (defBody sCheckCount) (defScope sCheckCount) .none kVCheckCount dcCheckCount pmCheckCount anCheckCount cdCheckCount ctCheckCount), slCheckCount⟩)
    (cCheckCount : PySem.W.codeIn K cdCheckCount "check_count" = true)
    (kCheckCount : PySem.W.keepIn K (.ref fCheckCount) = true)
    (aCheckBetween : PySem.W.nsIn K mainGlobals "check_between" = some (some (.ref fCheckBetween)))
    (lCheckBetween : K.lookup fCheckBetween = some ⟨ocCheckBetween, odCheckBetween, .func (PySem.W.fnOf "check_between" "check_between" (defArgs sCheckBetween) (defBody sCheckBetween) (defScope sCheckBetween) .none kVCheckBetween dcCheckBetween pmCheckBetween anCheckBetween cdCheckBetween ctCheckBetween), slCheckBetween⟩)
    (cCheckBetween : PySem.W.codeIn K cdCheckBetween "check_between" = true)
    (kCheckBetween : PySem.W.keepIn K (.ref fCheckBetween) = true)
    (aPlaces : PySem.W.nsIn K mainGlobals "places" = some (some (.ref fPlaces)))
    (lPlaces : K.lookup fPlaces = some ⟨ocPlaces, odPlaces, .func (PySem.W.fnOf "places" "places" (defArgs sPlaces) (defBody sPlaces) (defScope sPlaces) .none kVPlaces dcPlaces pmPlaces anPlaces cdPlaces ctPlaces), slPlaces⟩)
    (cPlaces : PySem.W.codeIn K cdPlaces "places" = true)
    (kPlaces : PySem.W.keepIn K (.ref fPlaces) = true)
    (aCheckPlan : PySem.W.nsIn K mainGlobals "check_plan" = some (some (.ref fCheckPlan)))
    (lCheckPlan : K.lookup fCheckPlan = some ⟨ocCheckPlan, odCheckPlan, .func (PySem.W.fnOf "check_plan" "check_plan" (defArgs sCheckPlan) (defBody sCheckPlan) (defScope sCheckPlan) .none kVCheckPlan dcCheckPlan pmCheckPlan anCheckPlan cdCheckPlan ctCheckPlan), slCheckPlan⟩)
    (cCheckPlan : PySem.W.codeIn K cdCheckPlan "check_plan" = true)
    (kCheckPlan : PySem.W.keepIn K (.ref fCheckPlan) = true)
    (aCheckSizes : PySem.W.nsIn K mainGlobals "check_sizes" = some (some (.ref fCheckSizes)))
    (lCheckSizes : K.lookup fCheckSizes = some ⟨ocCheckSizes, odCheckSizes, .func (PySem.W.fnOf "check_sizes" "check_sizes" (defArgs sCheckSizes) (defBody sCheckSizes) (defScope sCheckSizes) .none kVCheckSizes dcCheckSizes pmCheckSizes anCheckSizes cdCheckSizes ctCheckSizes), slCheckSizes⟩)
    (cCheckSizes : PySem.W.codeIn K cdCheckSizes "check_sizes" = true)
    (kCheckSizes : PySem.W.keepIn K (.ref fCheckSizes) = true)
    (aCheckRoutes : PySem.W.nsIn K mainGlobals "check_routes" = some (some (.ref fCheckRoutes)))
    (lCheckRoutes : K.lookup fCheckRoutes = some ⟨ocCheckRoutes, odCheckRoutes, .func (PySem.W.fnOf "check_routes" "check_routes" (defArgs sCheckRoutes) (defBody sCheckRoutes) (defScope sCheckRoutes) .none kVCheckRoutes dcCheckRoutes pmCheckRoutes anCheckRoutes cdCheckRoutes ctCheckRoutes), slCheckRoutes⟩)
    (cCheckRoutes : PySem.W.codeIn K cdCheckRoutes "check_routes" = true)
    (kCheckRoutes : PySem.W.keepIn K (.ref fCheckRoutes) = true)
    (aIsRoute : PySem.W.nsIn K mainGlobals "is_route" = some (some (.ref fIsRoute)))
    (lIsRoute : K.lookup fIsRoute = some ⟨ocIsRoute, odIsRoute, .func (PySem.W.fnOf "is_route" "is_route" (defArgs sIsRoute) (defBody sIsRoute) (defScope sIsRoute) .none kVIsRoute dcIsRoute pmIsRoute anIsRoute cdIsRoute ctIsRoute), slIsRoute⟩)
    (cIsRoute : PySem.W.codeIn K cdIsRoute "is_route" = true)
    (kIsRoute : PySem.W.keepIn K (.ref fIsRoute) = true)
    (aPlacesOf : PySem.W.nsIn K mainGlobals "places_of" = some (some (.ref fPlacesOf)))
    (lPlacesOf : K.lookup fPlacesOf = some ⟨ocPlacesOf, odPlacesOf, .func (PySem.W.fnOf "places_of" "places_of" (defArgs sPlacesOf) (defBody sPlacesOf) (defScope sPlacesOf) .none kVPlacesOf dcPlacesOf pmPlacesOf anPlacesOf cdPlacesOf ctPlacesOf), slPlacesOf⟩)
    (cPlacesOf : PySem.W.codeIn K cdPlacesOf "places_of" = true)
    (kPlacesOf : PySem.W.keepIn K (.ref fPlacesOf) = true)
    (aIsPlace : PySem.W.nsIn K mainGlobals "is_place" = some (some (.ref fIsPlace)))
    (lIsPlace : K.lookup fIsPlace = some ⟨ocIsPlace, odIsPlace, .func (PySem.W.fnOf "is_place" "is_place" (defArgs sIsPlace) (defBody sIsPlace) (defScope sIsPlace) .none kVIsPlace dcIsPlace pmIsPlace anIsPlace cdIsPlace ctIsPlace), slIsPlace⟩)
    (cIsPlace : PySem.W.codeIn K cdIsPlace "is_place" = true)
    (kIsPlace : PySem.W.keepIn K (.ref fIsPlace) = true)
    (aTruths : PySem.W.nsIn K mainGlobals "has_truth_values" = some (some (.ref fTruths)))
    (lTruths : K.lookup fTruths = some ⟨ocTruths, odTruths, .func (PySem.W.fnOf "has_truth_values" "has_truth_values" (defArgs sTruths) (defBody sTruths) (defScope sTruths) .none kVTruths dcTruths pmTruths anTruths cdTruths ctTruths), slTruths⟩)
    (cTruths : PySem.W.codeIn K cdTruths "has_truth_values" = true)
    (kTruths : PySem.W.keepIn K (.ref fTruths) = true)
    (aNumPlaces : PySem.W.nsIn K mainGlobals "number_of_places" = some (some (.ref fNumPlaces)))
    (lNumPlaces : K.lookup fNumPlaces = some ⟨ocNumPlaces, odNumPlaces, .func (PySem.W.fnOf "number_of_places" "number_of_places" (defArgs sNumPlaces) (defBody sNumPlaces) (defScope sNumPlaces) .none kVNumPlaces dcNumPlaces pmNumPlaces anNumPlaces cdNumPlaces ctNumPlaces), slNumPlaces⟩)
    (cNumPlaces : PySem.W.codeIn K cdNumPlaces "number_of_places" = true)
    (kNumPlaces : PySem.W.keepIn K (.ref fNumPlaces) = true)
    (aVisitsIn : PySem.W.nsIn K mainGlobals "visits_in_tick" = some (some (.ref fVisitsIn)))
    (lVisitsIn : K.lookup fVisitsIn = some ⟨ocVisitsIn, odVisitsIn, .func (PySem.W.fnOf "visits_in_tick" "visits_in_tick" (defArgs sVisitsIn) (defBody sVisitsIn) (defScope sVisitsIn) .none kVVisitsIn dcVisitsIn pmVisitsIn anVisitsIn cdVisitsIn ctVisitsIn), slVisitsIn⟩)
    (cVisitsIn : PySem.W.codeIn K cdVisitsIn "visits_in_tick" = true)
    (kVisitsIn : PySem.W.keepIn K (.ref fVisitsIn) = true)
    (aCommon : PySem.W.nsIn K mainGlobals "common_pattern" = some (some (.ref fCommon)))
    (lCommon : K.lookup fCommon = some ⟨ocCommon, odCommon, .func (PySem.W.fnOf "common_pattern" "common_pattern" (defArgs sCommon) (defBody sCommon) (defScope sCommon) .none kVCommon dcCommon pmCommon anCommon cdCommon ctCommon), slCommon⟩)
    (cCommon : PySem.W.codeIn K cdCommon "common_pattern" = true)
    (kCommon : PySem.W.keepIn K (.ref fCommon) = true)
    (aRoutePat : PySem.W.nsIn K mainGlobals "route_pattern" = some (some (.ref fRoutePat)))
    (lRoutePat : K.lookup fRoutePat = some ⟨ocRoutePat, odRoutePat, .func (PySem.W.fnOf "route_pattern" "route_pattern" (defArgs sRoutePat) (defBody sRoutePat) (defScope sRoutePat) .none kVRoutePat dcRoutePat pmRoutePat anRoutePat cdRoutePat ctRoutePat), slRoutePat⟩)
    (cRoutePat : PySem.W.codeIn K cdRoutePat "route_pattern" = true)
    (kRoutePat : PySem.W.keepIn K (.ref fRoutePat) = true)
    (aJoin : PySem.W.nsIn K mainGlobals "join_layout" = some (some (.ref fJoin)))
    (lJoin : K.lookup fJoin = some ⟨ocJoin, odJoin, .func (PySem.W.fnOf "join_layout" "join_layout" (defArgs sJoin) (defBody sJoin) (defScope sJoin) .none kVJoin dcJoin pmJoin anJoin cdJoin ctJoin), slJoin⟩)
    (cJoin : PySem.W.codeIn K cdJoin "join_layout" = true)
    (kJoin : PySem.W.keepIn K (.ref fJoin) = true)
    (aSplit : PySem.W.nsIn K mainGlobals "split_layout" = some (some (.ref fSplit)))
    (lSplit : K.lookup fSplit = some ⟨ocSplit, odSplit, .func (PySem.W.fnOf "split_layout" "split_layout" (defArgs sSplit) (defBody sSplit) (defScope sSplit) .none kVSplit dcSplit pmSplit anSplit cdSplit ctSplit), slSplit⟩)
    (cSplit : PySem.W.codeIn K cdSplit "split_layout" = true)
    (kSplit : PySem.W.keepIn K (.ref fSplit) = true)
    (aAfterTick : PySem.W.nsIn K mainGlobals "after_tick" = some (some (.ref fAfterTick)))
    (lAfterTick : K.lookup fAfterTick = some ⟨ocAfterTick, odAfterTick, .func (PySem.W.fnOf "after_tick" "after_tick" (defArgs sAfterTick) (defBody sAfterTick) (defScope sAfterTick) .none kVAfterTick dcAfterTick pmAfterTick anAfterTick cdAfterTick ctAfterTick), slAfterTick⟩)
    (cAfterTick : PySem.W.codeIn K cdAfterTick "after_tick" = true)
    (kAfterTick : PySem.W.keepIn K (.ref fAfterTick) = true)
    (aEffectTicks : PySem.W.nsIn K mainGlobals "effect_of_ticks" = some (some (.ref fEffectTicks)))
    (lEffectTicks : K.lookup fEffectTicks = some ⟨ocEffectTicks, odEffectTicks, .func (PySem.W.fnOf "effect_of_ticks" "effect_of_ticks" (defArgs sEffectTicks) (defBody sEffectTicks) (defScope sEffectTicks) .none kVEffectTicks dcEffectTicks pmEffectTicks anEffectTicks cdEffectTicks ctEffectTicks), slEffectTicks⟩)
    (cEffectTicks : PySem.W.codeIn K cdEffectTicks "effect_of_ticks" = true)
    (kEffectTicks : PySem.W.keepIn K (.ref fEffectTicks) = true)
    (aRepeated : PySem.W.nsIn K mainGlobals "repeated" = some (some (.ref fRepeated)))
    (lRepeated : K.lookup fRepeated = some ⟨ocRepeated, odRepeated, .func (PySem.W.fnOf "repeated" "repeated" (defArgs sRepeated) (defBody sRepeated) (defScope sRepeated) .none kVRepeated dcRepeated pmRepeated anRepeated cdRepeated ctRepeated), slRepeated⟩)
    (cRepeated : PySem.W.codeIn K cdRepeated "repeated" = true)
    (kRepeated : PySem.W.keepIn K (.ref fRepeated) = true)
    (aCyclesOf : PySem.W.nsIn K mainGlobals "cycles_of" = some (some (.ref fCyclesOf)))
    (lCyclesOf : K.lookup fCyclesOf = some ⟨ocCyclesOf, odCyclesOf, .func (PySem.W.fnOf "cycles_of" "cycles_of" (defArgs sCyclesOf) (defBody sCyclesOf) (defScope sCyclesOf) .none kVCyclesOf dcCyclesOf pmCyclesOf anCyclesOf cdCyclesOf ctCyclesOf), slCyclesOf⟩)
    (cCyclesOf : PySem.W.codeIn K cdCyclesOf "cycles_of" = true)
    (kCyclesOf : PySem.W.keepIn K (.ref fCyclesOf) = true)
    (aCycleFrom : PySem.W.nsIn K mainGlobals "cycle_from" = some (some (.ref fCycleFrom)))
    (lCycleFrom : K.lookup fCycleFrom = some ⟨ocCycleFrom, odCycleFrom, .func (PySem.W.fnOf "cycle_from" "cycle_from" (defArgs sCycleFrom) (defBody sCycleFrom) (defScope sCycleFrom) .none kVCycleFrom dcCycleFrom pmCycleFrom anCycleFrom cdCycleFrom ctCycleFrom), slCycleFrom⟩)
    (cCycleFrom : PySem.W.codeIn K cdCycleFrom "cycle_from" = true)
    (kCycleFrom : PySem.W.keepIn K (.ref fCycleFrom) = true)
    (aMoved : PySem.W.nsIn K mainGlobals "moved" = some (some (.ref fMoved)))
    (lMoved : K.lookup fMoved = some ⟨ocMoved, odMoved, .func (PySem.W.fnOf "moved" "moved" (defArgs sMoved) (defBody sMoved) (defScope sMoved) .none kVMoved dcMoved pmMoved anMoved cdMoved ctMoved), slMoved⟩)
    (cMoved : PySem.W.codeIn K cdMoved "moved" = true)
    (kMoved : PySem.W.keepIn K (.ref fMoved) = true)
    (aStateOf : PySem.W.nsIn K mainGlobals "state_of" = some (some (.ref fStateOf)))
    (lStateOf : K.lookup fStateOf = some ⟨ocStateOf, odStateOf, .func (PySem.W.fnOf "state_of" "state_of" (defArgs sStateOf) (defBody sStateOf) (defScope sStateOf) .none kVStateOf dcStateOf pmStateOf anStateOf cdStateOf ctStateOf), slStateOf⟩)
    (cStateOf : PySem.W.codeIn K cdStateOf "state_of" = true)
    (kStateOf : PySem.W.keepIn K (.ref fStateOf) = true)
    (aParcelsIn : PySem.W.nsIn K mainGlobals "parcels_in" = some (some (.ref fParcelsIn)))
    (lParcelsIn : K.lookup fParcelsIn = some ⟨ocParcelsIn, odParcelsIn, .func (PySem.W.fnOf "parcels_in" "parcels_in" (defArgs sParcelsIn) (defBody sParcelsIn) (defScope sParcelsIn) .none kVParcelsIn dcParcelsIn pmParcelsIn anParcelsIn cdParcelsIn ctParcelsIn), slParcelsIn⟩)
    (cParcelsIn : PySem.W.codeIn K cdParcelsIn "parcels_in" = true)
    (kParcelsIn : PySem.W.keepIn K (.ref fParcelsIn) = true)
    (aCheckState : PySem.W.nsIn K mainGlobals "check_state" = some (some (.ref fCheckState)))
    (lCheckState : K.lookup fCheckState = some ⟨ocCheckState, odCheckState, .func (PySem.W.fnOf "check_state" "check_state" (defArgs sCheckState) (defBody sCheckState) (defScope sCheckState) .none kVCheckState dcCheckState pmCheckState anCheckState cdCheckState ctCheckState), slCheckState⟩)
    (cCheckState : PySem.W.codeIn K cdCheckState "check_state" = true)
    (kCheckState : PySem.W.keepIn K (.ref fCheckState) = true)
    (aFits : PySem.W.nsIn K mainGlobals "fits_plan" = some (some (.ref fFits)))
    (lFits : K.lookup fFits = some ⟨ocFits, odFits, .func (PySem.W.fnOf "fits_plan" "fits_plan" (defArgs sFits) (defBody sFits) (defScope sFits) .none kVFits dcFits pmFits anFits cdFits ctFits), slFits⟩)
    (cFits : PySem.W.codeIn K cdFits "fits_plan" = true)
    (kFits : PySem.W.keepIn K (.ref fFits) = true)
    (aTupOf : PySem.W.nsIn K mainGlobals "is_tuple_of" = some (some (.ref fTupOf)))
    (lTupOf : K.lookup fTupOf = some ⟨ocTupOf, odTupOf, .func (PySem.W.fnOf "is_tuple_of" "is_tuple_of" (defArgs sTupOf) (defBody sTupOf) (defScope sTupOf) .none kVTupOf dcTupOf pmTupOf anTupOf cdTupOf ctTupOf), slTupOf⟩)
    (cTupOf : PySem.W.codeIn K cdTupOf "is_tuple_of" = true)
    (kTupOf : PySem.W.keepIn K (.ref fTupOf) = true)
    (aParcels : PySem.W.nsIn K mainGlobals "are_parcels" = some (some (.ref fParcels)))
    (lParcels : K.lookup fParcels = some ⟨ocParcels, odParcels, .func (PySem.W.fnOf "are_parcels" "are_parcels" (defArgs sParcels) (defBody sParcels) (defScope sParcels) .none kVParcels dcParcels pmParcels anParcels cdParcels ctParcels), slParcels⟩)
    (cParcels : PySem.W.codeIn K cdParcels "are_parcels" = true)
    (kParcels : PySem.W.keepIn K (.ref fParcels) = true)
    (aArrange : PySem.W.nsIn K mainGlobals "arrangement" = some (some (.ref fArrange)))
    (lArrange : K.lookup fArrange = some ⟨ocArrange, odArrange, .func (PySem.W.fnOf "arrangement" "arrangement" (defArgs sArrange) (defBody sArrange) (defScope sArrange) .none kVArrange dcArrange pmArrange anArrange cdArrange ctArrange), slArrange⟩)
    (cArrange : PySem.W.codeIn K cdArrange "arrangement" = true)
    (kArrange : PySem.W.keepIn K (.ref fArrange) = true)
    (aPlanSwaps : PySem.W.nsIn K mainGlobals "plan_swaps" = some (some (.ref fPlanSwaps)))
    (lPlanSwaps : K.lookup fPlanSwaps = some ⟨ocPlanSwaps, odPlanSwaps, .func (PySem.W.fnOf "plan_swaps" "plan_swaps" (defArgs sPlanSwaps) (defBody sPlanSwaps) (defScope sPlanSwaps) .none kVPlanSwaps dcPlanSwaps pmPlanSwaps anPlanSwaps cdPlanSwaps ctPlanSwaps), slPlanSwaps⟩)
    (cPlanSwaps : PySem.W.codeIn K cdPlanSwaps "plan_swaps" = true)
    (kPlanSwaps : PySem.W.keepIn K (.ref fPlanSwaps) = true)
    (aFewest : PySem.W.nsIn K mainGlobals "fewest_swaps" = some (some (.ref fFewest)))
    (lFewest : K.lookup fFewest = some ⟨ocFewest, odFewest, .func (PySem.W.fnOf "fewest_swaps" "fewest_swaps" (defArgs sFewest) (defBody sFewest) (defScope sFewest) .none kVFewest dcFewest pmFewest anFewest cdFewest ctFewest), slFewest⟩)
    (cFewest : PySem.W.codeIn K cdFewest "fewest_swaps" = true)
    (kFewest : PySem.W.keepIn K (.ref fFewest) = true)
    (aSwapAll : PySem.W.nsIn K mainGlobals "swap_all" = some (some (.ref fSwapAll)))
    (lSwapAll : K.lookup fSwapAll = some ⟨ocSwapAll, odSwapAll, .func (PySem.W.fnOf "swap_all" "swap_all" (defArgs sSwapAll) (defBody sSwapAll) (defScope sSwapAll) .none kVSwapAll dcSwapAll pmSwapAll anSwapAll cdSwapAll ctSwapAll), slSwapAll⟩)
    (cSwapAll : PySem.W.codeIn K cdSwapAll "swap_all" = true)
    (kSwapAll : PySem.W.keepIn K (.ref fSwapAll) = true)
    (aCheckArr : PySem.W.nsIn K mainGlobals "check_arrangement" = some (some (.ref fCheckArr)))
    (lCheckArr : K.lookup fCheckArr = some ⟨ocCheckArr, odCheckArr, .func (PySem.W.fnOf "check_arrangement" "check_arrangement" (defArgs sCheckArr) (defBody sCheckArr) (defScope sCheckArr) .none kVCheckArr dcCheckArr pmCheckArr anCheckArr cdCheckArr ctCheckArr), slCheckArr⟩)
    (cCheckArr : PySem.W.codeIn K cdCheckArr "check_arrangement" = true)
    (kCheckArr : PySem.W.keepIn K (.ref fCheckArr) = true)
    (aSwapsBetween : PySem.W.nsIn K mainGlobals "swaps_between" = some (some (.ref fSwapsBetween)))
    (lSwapsBetween : K.lookup fSwapsBetween = some ⟨ocSwapsBetween, odSwapsBetween, .func (PySem.W.fnOf "swaps_between" "swaps_between" (defArgs sSwapsBetween) (defBody sSwapsBetween) (defScope sSwapsBetween) .none kVSwapsBetween dcSwapsBetween pmSwapsBetween anSwapsBetween cdSwapsBetween ctSwapsBetween), slSwapsBetween⟩)
    (cSwapsBetween : PySem.W.codeIn K cdSwapsBetween "swaps_between" = true)
    (kSwapsBetween : PySem.W.keepIn K (.ref fSwapsBetween) = true)
    (aIsSwap : PySem.W.nsIn K mainGlobals "is_swap" = some (some (.ref fIsSwap)))
    (lIsSwap : K.lookup fIsSwap = some ⟨ocIsSwap, odIsSwap, .func (PySem.W.fnOf "is_swap" "is_swap" (defArgs sIsSwap) (defBody sIsSwap) (defScope sIsSwap) .none kVIsSwap dcIsSwap pmIsSwap anIsSwap cdIsSwap ctIsSwap), slIsSwap⟩)
    (cIsSwap : PySem.W.codeIn K cdIsSwap "is_swap" = true)
    (kIsSwap : PySem.W.keepIn K (.ref fIsSwap) = true)
    (aExchange : PySem.W.nsIn K mainGlobals "exchange" = some (some (.ref fExchange)))
    (lExchange : K.lookup fExchange = some ⟨ocExchange, odExchange, .func (PySem.W.fnOf "exchange" "exchange" (defArgs sExchange) (defBody sExchange) (defScope sExchange) .none kVExchange dcExchange pmExchange anExchange cdExchange ctExchange), slExchange⟩)
    (cExchange : PySem.W.codeIn K cdExchange "exchange" = true)
    (kExchange : PySem.W.keepIn K (.ref fExchange) = true)
    (aAdvance : PySem.W.nsIn K mainGlobals "advance" = some (some (.ref fAdvance)))
    (lAdvance : K.lookup fAdvance = some ⟨ocAdvance, odAdvance, .func (PySem.W.fnOf "advance" "advance" (defArgs sAdvance) (defBody sAdvance) (defScope sAdvance) .none kVAdvance dcAdvance pmAdvance anAdvance cdAdvance ctAdvance), slAdvance⟩)
    (cAdvance : PySem.W.codeIn K cdAdvance "advance" = true)
    (kAdvance : PySem.W.keepIn K (.ref fAdvance) = true)
    (aLMix : PySem.W.nsIn K mainGlobals "_law_mix" = some (some (.ref fLMix)))
    (lLMix : K.lookup fLMix = some ⟨ocLMix, odLMix, .func (PySem.W.fnOf "_law_mix" "_law_mix" (defArgs sMix) (defBody sMix) (defScope sMix) .none kVLMix dcLMix pmLMix anLMix cdLMix ctLMix), slLMix⟩)
    (cLMix : PySem.W.codeIn K cdLMix "_law_mix" = true)
    (kLMix : PySem.W.keepIn K (.ref fLMix) = true)
    (aLNext : PySem.W.nsIn K mainGlobals "_law_next" = some (some (.ref fLNext)))
    (lLNext : K.lookup fLNext = some ⟨ocLNext, odLNext, .func (PySem.W.fnOf "_law_next" "_law_next" (defArgs sNext) (defBody sNext) (defScope sNext) .none kVLNext dcLNext pmLNext anLNext cdLNext ctLNext), slLNext⟩)
    (cLNext : PySem.W.codeIn K cdLNext "_law_next" = true)
    (kLNext : PySem.W.keepIn K (.ref fLNext) = true)
    (aLAlike : PySem.W.nsIn K mainGlobals "_law_alike" = some (some (.ref fLAlike)))
    (lLAlike : K.lookup fLAlike = some ⟨ocLAlike, odLAlike, .func (PySem.W.fnOf "_law_alike" "_law_alike" (defArgs sAlike) (defBody sAlike) (defScope sAlike) .none kVLAlike dcLAlike pmLAlike anLAlike cdLAlike ctLAlike), slLAlike⟩)
    (cLAlike : PySem.W.codeIn K cdLAlike "_law_alike" = true)
    (kLAlike : PySem.W.keepIn K (.ref fLAlike) = true)
    (aLError : PySem.W.nsIn K mainGlobals "_law_error" = some (some (.ref fLError)))
    (lLError : K.lookup fLError = some ⟨ocLError, odLError, .func (PySem.W.fnOf "_law_error" "_law_error" (defArgs sError) (defBody sError) (defScope sError) .none kVLError dcLError pmLError anLError cdLError ctLError), slLError⟩)
    (cLError : PySem.W.codeIn K cdLError "_law_error" = true)
    (kLError : PySem.W.keepIn K (.ref fLError) = true)
    (aLPlan : PySem.W.nsIn K mainGlobals "_law_plan" = some (some (.ref fLPlan)))
    (lLPlan : K.lookup fLPlan = some ⟨ocLPlan, odLPlan, .func (PySem.W.fnOf "_law_plan" "_law_plan" (defArgs sPlan) (defBody sPlan) (defScope sPlan) .none kVLPlan dcLPlan pmLPlan anLPlan cdLPlan ctLPlan), slLPlan⟩)
    (cLPlan : PySem.W.codeIn K cdLPlan "_law_plan" = true)
    (kLPlan : PySem.W.keepIn K (.ref fLPlan) = true)
    (aLState : PySem.W.nsIn K mainGlobals "_law_state" = some (some (.ref fLState)))
    (lLState : K.lookup fLState = some ⟨ocLState, odLState, .func (PySem.W.fnOf "_law_state" "_law_state" (defArgs sState) (defBody sState) (defScope sState) .none kVLState dcLState pmLState anLState cdLState ctLState), slLState⟩)
    (cLState : PySem.W.codeIn K cdLState "_law_state" = true)
    (kLState : PySem.W.keepIn K (.ref fLState) = true)
    (aLMixed : PySem.W.nsIn K mainGlobals "_law_mixed" = some (some (.ref fLMixed)))
    (lLMixed : K.lookup fLMixed = some ⟨ocLMixed, odLMixed, .func (PySem.W.fnOf "_law_mixed" "_law_mixed" (defArgs sMixed) (defBody sMixed) (defScope sMixed) .none kVLMixed dcLMixed pmLMixed anLMixed cdLMixed ctLMixed), slLMixed⟩)
    (cLMixed : PySem.W.codeIn K cdLMixed "_law_mixed" = true)
    (kLMixed : PySem.W.keepIn K (.ref fLMixed) = true)
    (aLLawWheels : PySem.W.nsIn K mainGlobals "_law_wheels" = some (some (.ref fLLawWheels)))
    (lLLawWheels : K.lookup fLLawWheels = some ⟨ocLLawWheels, odLLawWheels, .func (PySem.W.fnOf "_law_wheels" "_law_wheels" (defArgs sLawWheels) (defBody sLawWheels) (defScope sLawWheels) .none kVLLawWheels dcLLawWheels pmLLawWheels anLLawWheels cdLLawWheels ctLLawWheels), slLLawWheels⟩)
    (cLLawWheels : PySem.W.codeIn K cdLLawWheels "_law_wheels" = true)
    (kLLawWheels : PySem.W.keepIn K (.ref fLLawWheels) = true)
    (aLErrsRight : PySem.W.nsIn K mainGlobals "_law_errors_right" = some (some (.ref fLErrsRight)))
    (lLErrsRight : K.lookup fLErrsRight = some ⟨ocLErrsRight, odLErrsRight, .func (PySem.W.fnOf "_law_errors_right" "_law_errors_right" (defArgs sErrsRight) (defBody sErrsRight) (defScope sErrsRight) .none kVLErrsRight dcLErrsRight pmLErrsRight anLErrsRight cdLErrsRight ctLErrsRight), slLErrsRight⟩)
    (cLErrsRight : PySem.W.codeIn K cdLErrsRight "_law_errors_right" = true)
    (kLErrsRight : PySem.W.keepIn K (.ref fLErrsRight) = true)
    (aLaw : PySem.W.nsIn K mainGlobals "law" = some (some (.ref fLaw)))
    (lLaw : K.lookup fLaw = some ⟨ocLaw, odLaw, .func (PySem.W.fnOf "law" "law" (defArgs sLaw) (defBody sLaw) (defScope sLaw) .none kVLaw dcLaw pmLaw anLaw cdLaw ctLaw), slLaw⟩)
    (cLaw : PySem.W.codeIn K cdLaw "law" = true)
    (kLaw : PySem.W.keepIn K (.ref fLaw) = true)
    (n_isinstance : PySem.W.nsIn K mainGlobals "isinstance" = some none)
    (n_bool : PySem.W.nsIn K mainGlobals "bool" = some none)
    (n_int : PySem.W.nsIn K mainGlobals "int" = some none)
    (n_str : PySem.W.nsIn K mainGlobals "str" = some none)
    (n_list : PySem.W.nsIn K mainGlobals "list" = some none)
    (n_tuple : PySem.W.nsIn K mainGlobals "tuple" = some none)
    (n_dict : PySem.W.nsIn K mainGlobals "dict" = some none)
    (n_len : PySem.W.nsIn K mainGlobals "len" = some none)
    (n_range : PySem.W.nsIn K mainGlobals "range" = some none)
    (n_enumerate : PySem.W.nsIn K mainGlobals "enumerate" = some none)
    (n_max : PySem.W.nsIn K mainGlobals "max" = some none)
    (n_sum : PySem.W.nsIn K mainGlobals "sum" = some none)
    (n_set : PySem.W.nsIn K mainGlobals "set" = some none)
    (n_zip : PySem.W.nsIn K mainGlobals "zip" = some none)
    (n_divmod : PySem.W.nsIn K mainGlobals "divmod" = some none)
    (n_sorted : PySem.W.nsIn K mainGlobals "sorted" = some none)
    (n_abs : PySem.W.nsIn K mainGlobals "abs" = some none)
    (n_min : PySem.W.nsIn K mainGlobals "min" = some none)
    (n_super : PySem.W.nsIn K mainGlobals "super" = some none)
    (n_ValueError : PySem.W.nsIn K mainGlobals "ValueError" = some none)
    (n_lcm : PySem.W.nsIn K mainGlobals "lcm" = some (some (.builtin "math.lcm")))
    (m1 : PySem.W.nsIn K mainGlobals "MOST_SHELVES" = some (some (.int 12 tm1)))
    (m2 : PySem.W.nsIn K mainGlobals "MOST_ON_SHELF" = some (some (.int 9 tm2)))
    (m3 : PySem.W.nsIn K mainGlobals "MOST_CARRIERS" = some (some (.int 6 tm3)))
    (m4 : PySem.W.nsIn K mainGlobals "MOST_ENTRIES" = some (some (.int 6 tm4)))
    (lastP : PySem.W.nsIn K mainGlobals "LAST_PARCEL" = some (some (.int 999 tlP)))
    (eS : PySem.W.nsIn K mainGlobals "ShelfError" = some (some (.ref CS)))
    (e0 : PySem.W.nsIn K mainGlobals "InvalidPlan" = some (some (.ref C0)))
    (e1 : PySem.W.nsIn K mainGlobals "InvalidState" = some (some (.ref C1)))
    (e2 : PySem.W.nsIn K mainGlobals "InvalidCount" = some (some (.ref C2)))
    (e3 : PySem.W.nsIn K mainGlobals "UnknownPlace" = some (some (.ref C3)))
    (e4 : PySem.W.nsIn K mainGlobals "UnknownParcel" = some (some (.ref C4)))
    (e5 : PySem.W.nsIn K mainGlobals "UnknownShelf" = some (some (.ref C5)))
    (e6 : PySem.W.nsIn K mainGlobals "UnknownCarrier" = some (some (.ref C6)))
    (e7 : PySem.W.nsIn K mainGlobals "InvalidEffect" = some (some (.ref C7)))
    (e8 : PySem.W.nsIn K mainGlobals "DifferentSizes" = some (some (.ref C8)))
    (e9 : PySem.W.nsIn K mainGlobals "InvalidParcels" = some (some (.ref C9)))
    (e10 : PySem.W.nsIn K mainGlobals "Contradiction" = some (some (.ref C10)))
    (e11 : PySem.W.nsIn K mainGlobals "InvalidArrangement" = some (some (.ref C11)))
    (e12 : PySem.W.nsIn K mainGlobals "ShelfFull" = some (some (.ref C12)))
    (e13 : PySem.W.nsIn K mainGlobals "ParcelCarried" = some (some (.ref C13)))
    (e14 : PySem.W.nsIn K mainGlobals "InvalidSwap" = some (some (.ref C14)))
    (xk0 : PySem.W.keepIn K (.ref C0) = true)
    (xb0 : PySem.W.subIn K (.ref C0) (.type "BaseException") = some true)
    (xt0 : PySem.W.typeIn K (.ref C0) = some (.type "type"))
    (yg0 : PySem.W.findIn K (.ref C0) "__getattribute__" = some (some (.builtin "BaseException.__getattribute__")))
    (yk0 : PySem.W.findIn K (.ref C0) "__getattr__" = some none)
    (yd0 : PySem.W.hasDictIn K C0 = true)
    (x1 : PySem.W.excIn K C1 [.type "ValueError", .type "Exception", .type "BaseException", .type "object"] "ValueError.__new__" = true)
    (xk1 : PySem.W.keepIn K (.ref C1) = true)
    (xb1 : PySem.W.subIn K (.ref C1) (.type "BaseException") = some true)
    (xt1 : PySem.W.typeIn K (.ref C1) = some (.type "type"))
    (x2 : PySem.W.excIn K C2 [.type "ValueError", .type "Exception", .type "BaseException", .type "object"] "ValueError.__new__" = true)
    (xk2 : PySem.W.keepIn K (.ref C2) = true)
    (xb2 : PySem.W.subIn K (.ref C2) (.type "BaseException") = some true)
    (xt2 : PySem.W.typeIn K (.ref C2) = some (.type "type"))
    (yg2 : PySem.W.findIn K (.ref C2) "__getattribute__" = some (some (.builtin "BaseException.__getattribute__")))
    (yk2 : PySem.W.findIn K (.ref C2) "__getattr__" = some none)
    (yd2 : PySem.W.hasDictIn K C2 = true)
    (ya2 : PySem.W.findIn K (.ref C2) "__class__" = some (some (.builtin "object.__class__")))
    (ym2 : PySem.W.mroIn K C2 (.type "object") = some true)
    (ze2 : PySem.W.exmOne K (.ref C2) (.ref CS) = some true)
    (zv2 : PySem.W.kitOne K (.ref C2) (.type "ValueError") = some true)
    (z2_0 : PySem.W.kitOne K (.ref C2) (.ref C0) = some false)
    (z2_1 : PySem.W.kitOne K (.ref C2) (.ref C1) = some false)
    (z2_2 : PySem.W.kitOne K (.ref C2) (.ref C2) = some true)
    (z2_3 : PySem.W.kitOne K (.ref C2) (.ref C3) = some false)
    (z2_4 : PySem.W.kitOne K (.ref C2) (.ref C4) = some false)
    (z2_5 : PySem.W.kitOne K (.ref C2) (.ref C5) = some false)
    (z2_6 : PySem.W.kitOne K (.ref C2) (.ref C6) = some false)
    (z2_7 : PySem.W.kitOne K (.ref C2) (.ref C7) = some false)
    (z2_8 : PySem.W.kitOne K (.ref C2) (.ref C8) = some false)
    (z2_9 : PySem.W.kitOne K (.ref C2) (.ref C9) = some false)
    (z2_10 : PySem.W.kitOne K (.ref C2) (.ref C10) = some false)
    (z2_11 : PySem.W.kitOne K (.ref C2) (.ref C11) = some false)
    (z2_12 : PySem.W.kitOne K (.ref C2) (.ref C12) = some false)
    (z2_13 : PySem.W.kitOne K (.ref C2) (.ref C13) = some false)
    (z2_14 : PySem.W.kitOne K (.ref C2) (.ref C14) = some false)
    (x3 : PySem.W.excIn K C3 [.type "ValueError", .type "Exception", .type "BaseException", .type "object"] "ValueError.__new__" = true)
    (xk3 : PySem.W.keepIn K (.ref C3) = true)
    (xb3 : PySem.W.subIn K (.ref C3) (.type "BaseException") = some true)
    (xt3 : PySem.W.typeIn K (.ref C3) = some (.type "type"))
    (x4 : PySem.W.excIn K C4 [.type "ValueError", .type "Exception", .type "BaseException", .type "object"] "ValueError.__new__" = true)
    (xk4 : PySem.W.keepIn K (.ref C4) = true)
    (xb4 : PySem.W.subIn K (.ref C4) (.type "BaseException") = some true)
    (xt4 : PySem.W.typeIn K (.ref C4) = some (.type "type"))
    (x5 : PySem.W.excIn K C5 [.type "ValueError", .type "Exception", .type "BaseException", .type "object"] "ValueError.__new__" = true)
    (xk5 : PySem.W.keepIn K (.ref C5) = true)
    (xb5 : PySem.W.subIn K (.ref C5) (.type "BaseException") = some true)
    (xt5 : PySem.W.typeIn K (.ref C5) = some (.type "type"))
    (x6 : PySem.W.excIn K C6 [.type "ValueError", .type "Exception", .type "BaseException", .type "object"] "ValueError.__new__" = true)
    (xk6 : PySem.W.keepIn K (.ref C6) = true)
    (xb6 : PySem.W.subIn K (.ref C6) (.type "BaseException") = some true)
    (xt6 : PySem.W.typeIn K (.ref C6) = some (.type "type"))
    (x7 : PySem.W.excIn K C7 [.type "ValueError", .type "Exception", .type "BaseException", .type "object"] "ValueError.__new__" = true)
    (xk7 : PySem.W.keepIn K (.ref C7) = true)
    (xb7 : PySem.W.subIn K (.ref C7) (.type "BaseException") = some true)
    (xt7 : PySem.W.typeIn K (.ref C7) = some (.type "type"))
    (x8 : PySem.W.excIn K C8 [.type "ValueError", .type "Exception", .type "BaseException", .type "object"] "ValueError.__new__" = true)
    (xk8 : PySem.W.keepIn K (.ref C8) = true)
    (xb8 : PySem.W.subIn K (.ref C8) (.type "BaseException") = some true)
    (xt8 : PySem.W.typeIn K (.ref C8) = some (.type "type"))
    (x9 : PySem.W.excIn K C9 [.type "ValueError", .type "Exception", .type "BaseException", .type "object"] "ValueError.__new__" = true)
    (xk9 : PySem.W.keepIn K (.ref C9) = true)
    (xb9 : PySem.W.subIn K (.ref C9) (.type "BaseException") = some true)
    (xt9 : PySem.W.typeIn K (.ref C9) = some (.type "type"))
    (x10 : PySem.W.excIn K C10 [.type "ValueError", .type "Exception", .type "BaseException", .type "object"] "ValueError.__new__" = true)
    (xk10 : PySem.W.keepIn K (.ref C10) = true)
    (xb10 : PySem.W.subIn K (.ref C10) (.type "BaseException") = some true)
    (xt10 : PySem.W.typeIn K (.ref C10) = some (.type "type"))
    (x11 : PySem.W.excIn K C11 [.type "ValueError", .type "Exception", .type "BaseException", .type "object"] "ValueError.__new__" = true)
    (xk11 : PySem.W.keepIn K (.ref C11) = true)
    (xb11 : PySem.W.subIn K (.ref C11) (.type "BaseException") = some true)
    (xt11 : PySem.W.typeIn K (.ref C11) = some (.type "type"))
    (yg11 : PySem.W.findIn K (.ref C11) "__getattribute__" = some (some (.builtin "BaseException.__getattribute__")))
    (yk11 : PySem.W.findIn K (.ref C11) "__getattr__" = some none)
    (yd11 : PySem.W.hasDictIn K C11 = true)
    (ya11 : PySem.W.findIn K (.ref C11) "__class__" = some (some (.builtin "object.__class__")))
    (ym11 : PySem.W.mroIn K C11 (.type "object") = some true)
    (ze11 : PySem.W.exmOne K (.ref C11) (.ref CS) = some true)
    (zv11 : PySem.W.kitOne K (.ref C11) (.type "ValueError") = some true)
    (z11_0 : PySem.W.kitOne K (.ref C11) (.ref C0) = some false)
    (z11_1 : PySem.W.kitOne K (.ref C11) (.ref C1) = some false)
    (z11_2 : PySem.W.kitOne K (.ref C11) (.ref C2) = some false)
    (z11_3 : PySem.W.kitOne K (.ref C11) (.ref C3) = some false)
    (z11_4 : PySem.W.kitOne K (.ref C11) (.ref C4) = some false)
    (z11_5 : PySem.W.kitOne K (.ref C11) (.ref C5) = some false)
    (z11_6 : PySem.W.kitOne K (.ref C11) (.ref C6) = some false)
    (z11_7 : PySem.W.kitOne K (.ref C11) (.ref C7) = some false)
    (z11_8 : PySem.W.kitOne K (.ref C11) (.ref C8) = some false)
    (z11_9 : PySem.W.kitOne K (.ref C11) (.ref C9) = some false)
    (z11_10 : PySem.W.kitOne K (.ref C11) (.ref C10) = some false)
    (z11_11 : PySem.W.kitOne K (.ref C11) (.ref C11) = some true)
    (z11_12 : PySem.W.kitOne K (.ref C11) (.ref C12) = some false)
    (z11_13 : PySem.W.kitOne K (.ref C11) (.ref C13) = some false)
    (z11_14 : PySem.W.kitOne K (.ref C11) (.ref C14) = some false)
    (x12 : PySem.W.excIn K C12 [.type "ValueError", .type "Exception", .type "BaseException", .type "object"] "ValueError.__new__" = true)
    (xk12 : PySem.W.keepIn K (.ref C12) = true)
    (xb12 : PySem.W.subIn K (.ref C12) (.type "BaseException") = some true)
    (xt12 : PySem.W.typeIn K (.ref C12) = some (.type "type"))
    (x13 : PySem.W.excIn K C13 [.type "ValueError", .type "Exception", .type "BaseException", .type "object"] "ValueError.__new__" = true)
    (xk13 : PySem.W.keepIn K (.ref C13) = true)
    (xb13 : PySem.W.subIn K (.ref C13) (.type "BaseException") = some true)
    (xt13 : PySem.W.typeIn K (.ref C13) = some (.type "type"))
    (xk14 : PySem.W.keepIn K (.ref C14) = true)
    (xb14 : PySem.W.subIn K (.ref C14) (.type "BaseException") = some true)
    (xt14 : PySem.W.typeIn K (.ref C14) = some (.type "type"))
    (yg14 : PySem.W.findIn K (.ref C14) "__getattribute__" = some (some (.builtin "BaseException.__getattribute__")))
    (yk14 : PySem.W.findIn K (.ref C14) "__getattr__" = some none)
    (yd14 : PySem.W.hasDictIn K C14 = true)
    (ya14 : PySem.W.findIn K (.ref C14) "__class__" = some (some (.builtin "object.__class__")))
    (ym14 : PySem.W.mroIn K C14 (.type "object") = some true)
    (ze14 : PySem.W.exmOne K (.ref C14) (.ref CS) = some true)
    (zv14 : PySem.W.kitOne K (.ref C14) (.type "ValueError") = some true)
    (z14_0 : PySem.W.kitOne K (.ref C14) (.ref C0) = some false)
    (z14_1 : PySem.W.kitOne K (.ref C14) (.ref C1) = some false)
    (z14_2 : PySem.W.kitOne K (.ref C14) (.ref C2) = some false)
    (z14_3 : PySem.W.kitOne K (.ref C14) (.ref C3) = some false)
    (z14_4 : PySem.W.kitOne K (.ref C14) (.ref C4) = some false)
    (z14_5 : PySem.W.kitOne K (.ref C14) (.ref C5) = some false)
    (z14_6 : PySem.W.kitOne K (.ref C14) (.ref C6) = some false)
    (z14_7 : PySem.W.kitOne K (.ref C14) (.ref C7) = some false)
    (z14_8 : PySem.W.kitOne K (.ref C14) (.ref C8) = some false)
    (z14_9 : PySem.W.kitOne K (.ref C14) (.ref C9) = some false)
    (z14_10 : PySem.W.kitOne K (.ref C14) (.ref C10) = some false)
    (z14_11 : PySem.W.kitOne K (.ref C14) (.ref C11) = some false)
    (z14_12 : PySem.W.kitOne K (.ref C14) (.ref C12) = some false)
    (z14_13 : PySem.W.kitOne K (.ref C14) (.ref C13) = some false)
    (z14_14 : PySem.W.kitOne K (.ref C14) (.ref C14) = some true)
    (y_n : PySem.W.specialIn K (.builtin "object.__class__") "__get__" = some (some (.builtin "getset_descriptor.__get__")))
    (y_t : PySem.W.takesIn K (.builtin "object.__class__") = some true)
    (qC : PySem.W.nsIn K mainGlobals "Lap" = some (some (.ref CL)))
    (q1 : PySem.W.findIn K (.ref CL) "__init__" = some (some (.ref fL)))
    (q2 : PySem.W.isFn K (.ref fL) = true)
    (q3 : K.lookup fL = some ⟨ocL, odL, .func (PySem.W.fnOf "__init__" "Lap.__init__" (defArgs sLapInit) (defBody sLapInit) (defScope sLapInit) .none kVL dcL pmL anL cdL ctL), slL⟩)
    (q4 : PySem.W.codeIn K cdL "Lap.__init__" = true)
    (q5 : PySem.W.keepIn K (.ref fL) = true)
    (q6 : PySem.W.plainGet K CL Str.empty = true)
    (q7 : PySem.W.hasDictIn K CL = true)
    (q8 : PySem.W.plainOver K CL = true)
    (q9 : PySem.W.findIn K (.ref CL) "__setattr__" = some (some (.builtin "object.__setattr__")))
    (q10 : PySem.W.makesIn K CL = true)
    (q11 : PySem.W.keepIn K (.ref CL) = true)
    (q12 : PySem.W.findIn K (.ref CL) "length" = some none)
    (q13 : PySem.W.findIn K (.ref CL) "stops" = some none)
    (q14 : PySem.W.findIn K (.ref CL) "lefts" = some none)
    (q15 : PySem.W.findIn K (.ref CL) "effect" = some none)
    (pC : K.lookup C0 = some (excClassObj pnm pq C0 pN pbs pbm true psn psub pab pcol pdd pk0 pk1 pk2 pk3 pk5 "ValueError.__new__"))
    (pR : PySem.HandSPX.refsVE pbm = true)
    (pSa : PySem.W.findIn K (.ref C0) "__setattr__" = some (some (.builtin "object.__setattr__")))
    (pN1 : PySem.W.findIn K (.ref C0) "part" = some none)
    (pN2 : PySem.W.findIn K (.ref C0) "index" = some none)
    (iC : PySem.W.findIn K (.ref C0) "__init__" = some (some (.ref fI)))
    (tI : PySem.W.typeIn K (.ref fI) = some (.type "function"))
    (lI : K.lookup fI = some ⟨ocI, odI, .func ((nfPlan cc c0).fd docI pmI ctI), slI⟩)
    (pCell : K.lookup cc = some ⟨ccl, ccd, .cell (some (.ref C0)), ccs⟩)
    (pCode : PySem.W.codeIn K (.ref c0) "InvalidPlan.__init__" = true)
    (pKo : K.lookup c0 = some ⟨kcl, kcd, .fields kvs, kcs⟩)
    (pKf : kvs[2]? = some (.str kfl ktf))
    (pKm : ((P.main.file : Str) == kfl) = true)
    (pTop : (P.main.scope.names.lookup ("super" : Str)).isSome = false)
    (pHs : PySem.W.ks_superIn K C0 C0 "__init__" = some (some (.builtin "ValueError.__init__")))
    (pHo : PySem.W.nsIn K PySem.cStatics "thirdparty.any" = some none)
    (pHB : PySem.W.subIn K (.ref C0) (.type "ValueError") = some true)
    (pHm : PySem.W.mroIn K C0 (.ref C0) = some true)
    (wC : K.lookup C14 = some (excClassObj wnm wq C14 wN wbs wbm true wsn wsub wab wcol wdd wk0 wk1 wk2 wk3 wk5 "ValueError.__new__"))
    (wR : PySem.HandSPX.refsVE wbm = true)
    (wSa : PySem.W.findIn K (.ref C14) "__setattr__" = some (some (.builtin "object.__setattr__")))
    (wN2 : PySem.W.findIn K (.ref C14) "index" = some none)
    (wiC : PySem.W.findIn K (.ref C14) "__init__" = some (some (.ref fW)))
    (wtI : PySem.W.typeIn K (.ref fW) = some (.type "function"))
    (wlI : K.lookup fW = some ⟨ocW, odW, .func ((nfSwap ccw c0w).fd docW pmW ctW), slW⟩)
    (wCell : K.lookup ccw = some ⟨wccl, wccd, .cell (some (.ref C14)), wccs⟩)
    (wCode : PySem.W.codeIn K (.ref c0w) "InvalidSwap.__init__" = true)
    (wKo : K.lookup c0w = some ⟨wkcl, wkcd, .fields wkvs, wkcs⟩)
    (wKf : wkvs[2]? = some (.str wkfl wktf))
    (wKm : ((P.main.file : Str) == wkfl) = true)
    (wHs : PySem.W.ks_superIn K C14 C14 "__init__" = some (some (.builtin "ValueError.__init__")))
    (wHB : PySem.W.subIn K (.ref C14) (.type "ValueError") = some true)
    (wHm : PySem.W.mroIn K C14 (.ref C14) = some true)
    (hcode : cdLErrsRight = .ref c)
    (htab : PySem.W.codeHdIn K c Pt = true)
    (hnone : K.lookup Pt = none)
    : ∃ (fd : FuncData) (cs : List (Addr × Addr)) (sp : Sp), (∀ p ∈ cs, h.get? p.2 = some { cls := .none, data := .fields #[] }) ∧ (∀ p ∈ cs, K.lookup p.2 = none) ∧ (∀ p ∈ cs, PySem.W.CodeHd h p.1 p.2) ∧ (∀ (s : Shared) (u : Value), BindsTo s fd ⟨[u], []⟩ [("_law_script", u)]) ∧
    (∀ (H : Hp) (a : Addr) (ns : List Int), ns.length ≤ 63 → (∀ z ∈ ns, Builtin.Int.intBits z ≤ 1048576) → (∀ p ∈ cs, H p.2 = some (.tbl #[])) → SqL K H a (ns.map V.int) → sp [.ref a] H (fun v _ => v = .bl true) fun _ _ _ => False) ∧
    ∀ base : Heap, K.In base → base.Ns mainGlobals mg → (∀ p ∈ cs, TabB base mg p.1 p.2) → FnOk P w K mg base CX0 14 fa fd ["_law_script"] sp := by
  have e := hfa.symm.trans (PySem.W.mg_of X G aLaw)
  cases e
  subst hcode
  have DWithin := df_mk (ps := ["number", "low", "high"]) X G aWithin lWithin cWithin kWithin fun _ _ _ _ _ _ us hl => lstN3 (fun _ _ _ => rfl) us hl
  have DCheckCount := df_mk (ps := ["count"]) X G aCheckCount lCheckCount cCheckCount kCheckCount fun _ _ _ _ _ _ us hl => lstN1 (fun _ => rfl) us hl
  have DCheckBetween := df_mk (ps := ["number", "low", "high"]) X G aCheckBetween lCheckBetween cCheckBetween kCheckBetween fun _ _ _ _ _ _ us hl => lstN3 (fun _ _ _ => rfl) us hl
  have DPlaces := df_mk (ps := ["plan"]) X G aPlaces lPlaces cPlaces kPlaces fun _ _ _ _ _ _ us hl => lstN1 (fun _ => rfl) us hl
  have DCheckPlan := df_mk (ps := ["plan"]) X G aCheckPlan lCheckPlan cCheckPlan kCheckPlan fun _ _ _ _ _ _ us hl => lstN1 (fun _ => rfl) us hl
  have DCheckSizes := df_mk (ps := ["sizes"]) X G aCheckSizes lCheckSizes cCheckSizes kCheckSizes fun _ _ _ _ _ _ us hl => lstN1 (fun _ => rfl) us hl
  have DCheckRoutes := df_mk (ps := ["routes", "shelves"]) X G aCheckRoutes lCheckRoutes cCheckRoutes kCheckRoutes fun _ _ _ _ _ _ us hl => lstN2 (fun _ _ => rfl) us hl
  have DIsRoute := df_mk (ps := ["route", "shelves"]) X G aIsRoute lIsRoute cIsRoute kIsRoute fun _ _ _ _ _ _ us hl => lstN2 (fun _ _ => rfl) us hl
  have DPlacesOf := df_mk (ps := ["plan"]) X G aPlacesOf lPlacesOf cPlacesOf kPlacesOf fun _ _ _ _ _ _ us hl => lstN1 (fun _ => rfl) us hl
  have DIsPlace := df_mk (ps := ["found", "place"]) X G aIsPlace lIsPlace cIsPlace kIsPlace fun _ _ _ _ _ _ us hl => lstN2 (fun _ _ => rfl) us hl
  have DTruths := df_mk (ps := ["place"]) X G aTruths lTruths cTruths kTruths fun _ _ _ _ _ _ us hl => lstN1 (fun _ => rfl) us hl
  have DNumPlaces := df_mk (ps := ["plan"]) X G aNumPlaces lNumPlaces cNumPlaces kNumPlaces fun _ _ _ _ _ _ us hl => lstN1 (fun _ => rfl) us hl
  have DVisitsIn := df_mk (ps := ["routes", "number"]) X G aVisitsIn lVisitsIn cVisitsIn kVisitsIn fun _ _ _ _ _ _ us hl => lstN2 (fun _ _ => rfl) us hl
  have DCommon := df_mk (ps := ["routes"]) X G aCommon lCommon cCommon kCommon fun _ _ _ _ _ _ us hl => lstN1 (fun _ => rfl) us hl
  have DRoutePat := df_mk (ps := ["route"]) X G aRoutePat lRoutePat cRoutePat kRoutePat fun _ _ _ _ _ _ us hl => lstN1 (fun _ => rfl) us hl
  have DJoin := df_mk (ps := ["carried", "shelves"]) X G aJoin lJoin cJoin kJoin fun _ _ _ _ _ _ us hl => lstN2 (fun _ _ => rfl) us hl
  have DSplit := df_mk (ps := ["plan", "contents"]) X G aSplit lSplit cSplit kSplit fun _ _ _ _ _ _ us hl => lstN2 (fun _ _ => rfl) us hl
  have DAfterTick := df_mk (ps := ["plan", "number", "carried", "shelves"]) X G aAfterTick lAfterTick cAfterTick kAfterTick fun _ _ _ _ _ _ us hl => lstN4 (fun _ _ _ _ => rfl) us hl
  have DEffectTicks := df_mk (ps := ["plan", "time", "count"]) X G aEffectTicks lEffectTicks cEffectTicks kEffectTicks fun _ _ _ _ _ _ us hl => lstN3 (fun _ _ _ => rfl) us hl
  have DRepeated := df_mk (ps := ["effect", "count"]) X G aRepeated lRepeated cRepeated kRepeated fun _ _ _ _ _ _ us hl => lstN2 (fun _ _ => rfl) us hl
  have DCyclesOf := df_mk (ps := ["effect"]) X G aCyclesOf lCyclesOf cCyclesOf kCyclesOf fun _ _ _ _ _ _ us hl => lstN1 (fun _ => rfl) us hl
  have DCycleFrom := df_mk (ps := ["effect", "start"]) X G aCycleFrom lCycleFrom cCycleFrom kCycleFrom fun _ _ _ _ _ _ us hl => lstN2 (fun _ _ => rfl) us hl
  have DMoved := df_mk (ps := ["plan", "state", "effect"]) X G aMoved lMoved cMoved kMoved fun _ _ _ _ _ _ us hl => lstN3 (fun _ _ _ => rfl) us hl
  have DStateOf := df_mk (ps := ["plan", "time", "parcels"]) X G aStateOf lStateOf cStateOf kStateOf fun _ _ _ _ _ _ us hl => lstN3 (fun _ _ _ => rfl) us hl
  have DParcelsIn := df_mk (ps := ["state"]) X G aParcelsIn lParcelsIn cParcelsIn kParcelsIn fun _ _ _ _ _ _ us hl => lstN1 (fun _ => rfl) us hl
  have DCheckState := df_mk (ps := ["plan", "state"]) X G aCheckState lCheckState cCheckState kCheckState fun _ _ _ _ _ _ us hl => lstN2 (fun _ _ => rfl) us hl
  have DFits := df_mk (ps := ["plan", "carried", "shelves"]) X G aFits lFits cFits kFits fun _ _ _ _ _ _ us hl => lstN3 (fun _ _ _ => rfl) us hl
  have DTupOf := df_mk (ps := ["row", "length"]) X G aTupOf lTupOf cTupOf kTupOf fun _ _ _ _ _ _ us hl => lstN2 (fun _ _ => rfl) us hl
  have DParcels := df_mk (ps := ["parcels"]) X G aParcels lParcels cParcels kParcels fun _ _ _ _ _ _ us hl => lstN1 (fun _ => rfl) us hl
  have DArrange := df_mk (ps := ["plan", "state"]) X G aArrange lArrange cArrange kArrange fun _ _ _ _ _ _ us hl => lstN2 (fun _ _ => rfl) us hl
  have DPlanSwaps := df_mk (ps := ["plan", "state", "goal", "count"]) X G aPlanSwaps lPlanSwaps cPlanSwaps kPlanSwaps fun _ _ _ _ _ _ us hl => lstN4 (fun _ _ _ _ => rfl) us hl
  have DFewest := df_mk (ps := ["plan", "state", "goal", "count"]) X G aFewest lFewest cFewest kFewest fun _ _ _ _ _ _ us hl => lstN4 (fun _ _ _ _ => rfl) us hl
  have DSwapAll := df_mk (ps := ["plan", "state", "swaps"]) X G aSwapAll lSwapAll cSwapAll kSwapAll fun _ _ _ _ _ _ us hl => lstN3 (fun _ _ _ => rfl) us hl
  have DCheckArr := df_mk (ps := ["parcels", "goal"]) X G aCheckArr lCheckArr cCheckArr kCheckArr fun _ _ _ _ _ _ us hl => lstN2 (fun _ _ => rfl) us hl
  have DSwapsBetween := df_mk (ps := ["found", "parcels", "wanted"]) X G aSwapsBetween lSwapsBetween cSwapsBetween kSwapsBetween fun _ _ _ _ _ _ us hl => lstN3 (fun _ _ _ => rfl) us hl
  have DIsSwap := df_mk (ps := ["found", "swap"]) X G aIsSwap lIsSwap cIsSwap kIsSwap fun _ _ _ _ _ _ us hl => lstN2 (fun _ _ => rfl) us hl
  have DExchange := df_mk (ps := ["contents", "one", "other"]) X G aExchange lExchange cExchange kExchange fun _ _ _ _ _ _ us hl => lstN3 (fun _ _ _ => rfl) us hl
  have DAdvance := df_mk (ps := ["plan", "state", "count"]) X G aAdvance lAdvance cAdvance kAdvance fun _ _ _ _ _ _ us hl => lstN3 (fun _ _ _ => rfl) us hl
  have DLMix := df_mk (ps := ["_law_script", "_law_seed"]) X G aLMix lLMix cLMix kLMix fun _ _ _ _ _ _ us hl => lstN2 (fun _ _ => rfl) us hl
  have DLNext := df_mk (ps := ["_law_h", "_law_limit"]) X G aLNext lLNext cLNext kLNext fun _ _ _ _ _ _ us hl => lstN2 (fun _ _ => rfl) us hl
  have DLAlike := df_mk (ps := ["_law_found", "_law_due"]) X G aLAlike lLAlike cLAlike kLAlike fun _ _ _ _ _ _ us hl => lstN2 (fun _ _ => rfl) us hl
  have DLError := df_mk (ps := ["_law_call"]) X G aLError lLError cLError kLError fun _ _ _ _ _ _ us hl => lstN1 (fun _ => rfl) us hl
  have DLPlan := df_mk (ps := ["_law_h", "_law_shelves", "_law_carriers"]) X G aLPlan lLPlan cLPlan kLPlan fun _ _ _ _ _ _ us hl => lstN3 (fun _ _ _ => rfl) us hl
  have DLState := df_mk (ps := ["_law_h", "_law_plan_here"]) X G aLState lLState cLState kLState fun _ _ _ _ _ _ us hl => lstN2 (fun _ _ => rfl) us hl
  have DLMixed := df_mk (ps := ["_law_h", "_law_row", "_law_changes"]) X G aLMixed lLMixed cLMixed kLMixed fun _ _ _ _ _ _ us hl => lstN3 (fun _ _ _ => rfl) us hl
  have DLLawWheels := df_mk (ps := ["_law_one", "_law_other"]) X G aLLawWheels lLLawWheels cLLawWheels kLLawWheels fun _ _ _ _ _ _ us hl => lstN2 (fun _ _ => rfl) us hl
  have DLErrsRight := df_mk (ps := ["_law_plan_here", "_law_state_here", "_law_every", "_law_goal"]) X G aLErrsRight lLErrsRight cLErrsRight kLErrsRight fun _ _ _ _ _ _ us hl => lstN4 (fun _ _ _ _ => rfl) us hl
  have DLaw := df_mk (ps := ["_law_script"]) X G aLaw lLaw cLaw kLaw fun _ _ _ _ _ _ us hl => lstN1 (fun _ => rfl) us hl
  have B : Bt mg := ⟨PySem.W.mg_none_of X G n_isinstance, PySem.W.mg_none_of X G n_bool, PySem.W.mg_none_of X G n_int, PySem.W.mg_none_of X G n_str, PySem.W.mg_none_of X G n_list, PySem.W.mg_none_of X G n_tuple, PySem.W.mg_none_of X G n_dict, PySem.W.mg_none_of X G n_len, PySem.W.mg_none_of X G n_range, PySem.W.mg_none_of X G n_enumerate, PySem.W.mg_none_of X G n_max, PySem.W.mg_none_of X G n_sum, PySem.W.mg_none_of X G n_set, PySem.W.mg_none_of X G n_zip, PySem.W.mg_none_of X G n_divmod, PySem.W.mg_none_of X G n_sorted, PySem.W.mg_none_of X G n_abs, PySem.W.mg_none_of X G n_min⟩
  have OX : OexC K C0 := ⟨⟨pnm, pq, pN, pbs, pbm, psn, psub, pab, pcol, pdd, pk0, pk1, pk2, pk3, pk5, pC, pR⟩, pSa, xb0, xt0, xk0⟩
  have XF : XfC K C0 := ⟨yg0, yk0, xb0, yd0⟩
  have SF : SupF P K mg C0 fI cc (nfPlan cc c0) arPlan := ⟨OX, rfl, ⟨_, _, _, pCell⟩, pCode, ⟨_, _, _, _, _, _, pKo, pKf, pKm⟩, pTop, PySem.W.mg_none_of X G n_super, rfl, rfl, rfl, pHs, pHo, pHB, pHm⟩
  have PL : Pl P K mg C0 fI ((nfPlan cc c0).fd docI pmI ctI) := ⟨⟨cc, c0, _, _, _, _, _, _, rfl, SF, lI⟩, pN1, pN2, PySem.W.mg_of X G e0, iC, tI, .all fun us hl => match us, hl with | [_, _, _], _ => rfl, XF⟩
  have OXw : OexC K C14 := ⟨⟨wnm, wq, wN, wbs, wbm, wsn, wsub, wab, wcol, wdd, wk0, wk1, wk2, wk3, wk5, wC, wR⟩, wSa, xb14, xt14, xk14⟩
  have XFw : XfC K C14 := ⟨yg14, yk14, xb14, yd14⟩
  have SFw : SupF P K mg C14 fW ccw (nfSwap ccw c0w) arSwap := ⟨OXw, rfl, ⟨_, _, _, wCell⟩, wCode, ⟨_, _, _, _, _, _, wKo, wKf, wKm⟩, pTop, PySem.W.mg_none_of X G n_super, rfl, rfl, rfl, wHs, pHo, wHB, wHm⟩
  have SWF : Sw P K mg C14 fW ((nfSwap ccw c0w).fd docW pmW ctW) := ⟨⟨ccw, c0w, _, _, _, _, _, _, rfl, SFw, wlI⟩, wN2, PySem.W.mg_of X G e14, wiC, wtI, .all fun us hl => match us, hl with | [_, _], _ => rfl, XFw⟩
  have FLp := fun_mk (st := sLapInit) q3 q4 q5
  have LPF : LapF K mg CL fL _ := ⟨PySem.W.mg_of X G qC, ⟨q10, q1, q2, q11⟩, ⟨q6, q7, q8, q9⟩, q12, q13, q14, q15, FLp, FLp.binds (ps := ["self", "plan", "time"]) fun _ _ _ _ _ _ us hl => match us, hl with | [_, _, _], _ => rfl⟩
  let T : Bd P K mg := { bt := B, CLap := CL, aLap := fL, dLap := _, lap := LPF, CSw := C14, aSw := fW, dSw := _, sw := SWF, lcm := PySem.W.mg_of X G n_lcm, C := C0, aInit := fI, dInit := _, pl := PL, m1 := ⟨_, PySem.W.mg_of X G m1⟩, m2 := ⟨_, PySem.W.mg_of X G m2⟩, m3 := ⟨_, PySem.W.mg_of X G m3⟩, m4 := ⟨_, PySem.W.mg_of X G m4⟩, lim := hlim, tlim := htlim, lastP := ⟨_, PySem.W.mg_of X G lastP⟩, CE := C7, ce := ⟨PySem.W.mg_of X G e7, x7, xk7, xb7, xt7⟩, CC := C2, cc := ⟨PySem.W.mg_of X G e2, x2, xk2, xb2, xt2⟩, CD := C8, cd := ⟨PySem.W.mg_of X G e8, x8, xk8, xb8, xt8⟩, CS := C1, cs := ⟨PySem.W.mg_of X G e1, x1, xk1, xb1, xt1⟩, CUp := C3, cup := ⟨PySem.W.mg_of X G e3, x3, xk3, xb3, xt3⟩, CUr := C4, cur := ⟨PySem.W.mg_of X G e4, x4, xk4, xb4, xt4⟩, CUs := C5, cus := ⟨PySem.W.mg_of X G e5, x5, xk5, xb5, xt5⟩, CUc := C6, cuc := ⟨PySem.W.mg_of X G e6, x6, xk6, xb6, xt6⟩, CIp := C9, cip := ⟨PySem.W.mg_of X G e9, x9, xk9, xb9, xt9⟩, CCt := C10, cct := ⟨PySem.W.mg_of X G e10, x10, xk10, xb10, xt10⟩, CAr := C11, car := ⟨PySem.W.mg_of X G e11, x11, xk11, xb11, xt11⟩, CFu := C12, cfu := ⟨PySem.W.mg_of X G e12, x12, xk12, xb12, xt12⟩, CPc := C13, cpc := ⟨PySem.W.mg_of X G e13, x13, xk13, xb13, xt13⟩, aWithin := _, dWithin := _, Within := DWithin, aCheckCount := _, dCheckCount := _, CheckCount := DCheckCount, aCheckBetween := _, dCheckBetween := _, CheckBetween := DCheckBetween, aPlaces := _, dPlaces := _, Places := DPlaces, aCheckPlan := _, dCheckPlan := _, CheckPlan := DCheckPlan, aCheckSizes := _, dCheckSizes := _, CheckSizes := DCheckSizes, aCheckRoutes := _, dCheckRoutes := _, CheckRoutes := DCheckRoutes, aIsRoute := _, dIsRoute := _, IsRoute := DIsRoute, aPlacesOf := _, dPlacesOf := _, PlacesOf := DPlacesOf, aIsPlace := _, dIsPlace := _, IsPlace := DIsPlace, aTruths := _, dTruths := _, Truths := DTruths, aNumPlaces := _, dNumPlaces := _, NumPlaces := DNumPlaces, aVisitsIn := _, dVisitsIn := _, VisitsIn := DVisitsIn, aCommon := _, dCommon := _, Common := DCommon, aRoutePat := _, dRoutePat := _, RoutePat := DRoutePat, aJoin := _, dJoin := _, Join := DJoin, aSplit := _, dSplit := _, Split := DSplit, aAfterTick := _, dAfterTick := _, AfterTick := DAfterTick, aEffectTicks := _, dEffectTicks := _, EffectTicks := DEffectTicks, aRepeated := _, dRepeated := _, Repeated := DRepeated, aCyclesOf := _, dCyclesOf := _, CyclesOf := DCyclesOf, aCycleFrom := _, dCycleFrom := _, CycleFrom := DCycleFrom, aMoved := _, dMoved := _, Moved := DMoved, aStateOf := _, dStateOf := _, StateOf := DStateOf, aParcelsIn := _, dParcelsIn := _, ParcelsIn := DParcelsIn, aCheckState := _, dCheckState := _, CheckState := DCheckState, aFits := _, dFits := _, Fits := DFits, aTupOf := _, dTupOf := _, TupOf := DTupOf, aParcels := _, dParcels := _, Parcels := DParcels, aArrange := _, dArrange := _, Arrange := DArrange, aPlanSwaps := _, dPlanSwaps := _, PlanSwaps := DPlanSwaps, aFewest := _, dFewest := _, Fewest := DFewest, aSwapAll := _, dSwapAll := _, SwapAll := DSwapAll, aCheckArr := _, dCheckArr := _, CheckArr := DCheckArr, aSwapsBetween := _, dSwapsBetween := _, SwapsBetween := DSwapsBetween, aIsSwap := _, dIsSwap := _, IsSwap := DIsSwap, aExchange := _, dExchange := _, Exchange := DExchange, aAdvance := _, dAdvance := _, Advance := DAdvance, aLMix := _, dLMix := _, LMix := DLMix, aLNext := _, dLNext := _, LNext := DLNext, aLAlike := _, dLAlike := _, LAlike := DLAlike, aLError := _, dLError := _, LError := DLError, aLPlan := _, dLPlan := _, LPlan := DLPlan, aLState := _, dLState := _, LState := DLState, aLMixed := _, dLMixed := _, LMixed := DLMixed, aLLawWheels := _, dLLawWheels := _, LLawWheels := DLLawWheels, aLErrsRight := _, dLErrsRight := _, LErrsRight := DLErrsRight, aLaw := _, dLaw := _, Law := DLaw }
  have EG : ErG mg CS C0 C1 C2 C3 C4 C5 C6 C7 C8 C9 C10 C11 C12 C13 C14 := ⟨PySem.W.mg_of X G eS, PySem.W.mg_of X G e0, PySem.W.mg_of X G e1, PySem.W.mg_of X G e2, PySem.W.mg_of X G e3, PySem.W.mg_of X G e4, PySem.W.mg_of X G e5, PySem.W.mg_of X G e6, PySem.W.mg_of X G e7, PySem.W.mg_of X G e8, PySem.W.mg_of X G e9, PySem.W.mg_of X G e10, PySem.W.mg_of X G e11, PySem.W.mg_of X G e12, PySem.W.mg_of X G e13, PySem.W.mg_of X G e14, PySem.W.mg_none_of X G n_ValueError⟩
  have A2 := era_count (K := K) ⟨⟨yg2, yk2, xb2, yd2, ya2, y_n, y_t, ym2⟩, ze2, zv2, z2_0, z2_1, z2_2, z2_3, z2_4, z2_5, z2_6, z2_7, z2_8, z2_9, z2_10, z2_11, z2_12, z2_13, z2_14⟩
  have A11 := era_arrangement (K := K) ⟨⟨yg11, yk11, xb11, yd11, ya11, y_n, y_t, ym11⟩, ze11, zv11, z11_0, z11_1, z11_2, z11_3, z11_4, z11_5, z11_6, z11_7, z11_8, z11_9, z11_10, z11_11, z11_12, z11_13, z11_14⟩
  have A14 := era_swap (K := K) ⟨⟨yg14, yk14, xb14, yd14, ya14, y_n, y_t, ym14⟩, ze14, zv14, z14_0, z14_1, z14_2, z14_3, z14_4, z14_5, z14_6, z14_7, z14_8, z14_9, z14_10, z14_11, z14_12, z14_13, z14_14⟩
  refine ⟨_, [(c, Pt)], spLaw K Pt, fun p hp => ?_, fun p hp => ?_, fun p hp => ?_, fun s u => ?_, fun H a ns hl _ hH hS => ?_, fun base _ _ TB => ok_law T DLaw rfl (TB (c, Pt) (List.mem_singleton.mpr rfl)) EG XF pN1 pN2 ⟨A2, A11, A14, XFw, wN2⟩⟩
  · rw [List.mem_singleton.mp hp]
    exact hPt
  · rw [List.mem_singleton.mp hp]
    exact hnone
  · rw [List.mem_singleton.mp hp]
    exact PySem.W.codeHd_of_K X htab
  · exact .of_eq rfl
  · exact ⟨a, ns, rfl, hS, hl, fun p hp => by rw [List.mem_singleton.mp hp]; exact TabS.nil (hH (c, Pt) (List.mem_singleton.mpr rfl)), fun _ => rfl⟩
end
end Sv
open PySem PySem.W PyProof.Rows
set_option maxHeartbeats 0 in
theorem PySem.Challenge.cw_swapshelves_k14_whole_swaps_holds : PySem.Challenge.rw_swapshelves_k14_whole_swaps.Holds := by
  refine head ?_
  k_fill
  refine Sv.walk_ofTsX (l := PySem.Challenge.rw_swapshelves_k14_whole_swaps) (n := 63) (k := 14) (x := "_law_script") (CX := fun _ => L2.CX0) rfl (by decide) rfl ⟨rfl, by decide, by decide⟩ (fun w h Y => PySem.W.km_in_of Y) ?F (fun _ _ _ _ _ h => h)
  case F =>
    intro w mg fa h XPh Y KX G hmg
    have hPt := PySem.W.km_tabs_of Y _ (List.mem_singleton.mpr rfl)
    have hlim : ∃ t, mg "COUNT_LIMIT" = some (.int 1000000000000000000 t) := by
      obtain ⟨v, hv, hr⟩ := XPh.2.val _ (List.mem_cons_self ..)
      cases hr
      exact ⟨_, hv⟩
    have htlim : ∃ t, mg "TIME_LIMIT" = some (.int 1000000000000000000000000000000 t) := by
      obtain ⟨v, hv, hr⟩ := XPh.2.val _ (List.mem_cons_of_mem _ (List.mem_cons_self ..))
      cases hr
      exact ⟨_, hv⟩
    refine' Sv.all_mk (Pt := _) KX G hmg hPt hlim htlim ?aWithin ?lWithin ?cWithin ?kWithin ?aCheckCount ?lCheckCount ?cCheckCount ?kCheckCount ?aCheckBetween ?lCheckBetween ?cCheckBetween ?kCheckBetween ?aPlaces ?lPlaces ?cPlaces ?kPlaces ?aCheckPlan ?lCheckPlan ?cCheckPlan ?kCheckPlan ?aCheckSizes ?lCheckSizes ?cCheckSizes ?kCheckSizes ?aCheckRoutes ?lCheckRoutes ?cCheckRoutes ?kCheckRoutes ?aIsRoute ?lIsRoute ?cIsRoute ?kIsRoute ?aPlacesOf ?lPlacesOf ?cPlacesOf ?kPlacesOf ?aIsPlace ?lIsPlace ?cIsPlace ?kIsPlace ?aTruths ?lTruths ?cTruths ?kTruths ?aNumPlaces ?lNumPlaces ?cNumPlaces ?kNumPlaces ?aVisitsIn ?lVisitsIn ?cVisitsIn ?kVisitsIn ?aCommon ?lCommon ?cCommon ?kCommon ?aRoutePat ?lRoutePat ?cRoutePat ?kRoutePat ?aJoin ?lJoin ?cJoin ?kJoin ?aSplit ?lSplit ?cSplit ?kSplit ?aAfterTick ?lAfterTick ?cAfterTick ?kAfterTick ?aEffectTicks ?lEffectTicks ?cEffectTicks ?kEffectTicks ?aRepeated ?lRepeated ?cRepeated ?kRepeated ?aCyclesOf ?lCyclesOf ?cCyclesOf ?kCyclesOf ?aCycleFrom ?lCycleFrom ?cCycleFrom ?kCycleFrom ?aMoved ?lMoved ?cMoved ?kMoved ?aStateOf ?lStateOf ?cStateOf ?kStateOf ?aParcelsIn ?lParcelsIn ?cParcelsIn ?kParcelsIn ?aCheckState ?lCheckState ?cCheckState ?kCheckState ?aFits ?lFits ?cFits ?kFits ?aTupOf ?lTupOf ?cTupOf ?kTupOf ?aParcels ?lParcels ?cParcels ?kParcels ?aArrange ?lArrange ?cArrange ?kArrange ?aPlanSwaps ?lPlanSwaps ?cPlanSwaps ?kPlanSwaps ?aFewest ?lFewest ?cFewest ?kFewest ?aSwapAll ?lSwapAll ?cSwapAll ?kSwapAll ?aCheckArr ?lCheckArr ?cCheckArr ?kCheckArr ?aSwapsBetween ?lSwapsBetween ?cSwapsBetween ?kSwapsBetween ?aIsSwap ?lIsSwap ?cIsSwap ?kIsSwap ?aExchange ?lExchange ?cExchange ?kExchange ?aAdvance ?lAdvance ?cAdvance ?kAdvance ?aLMix ?lLMix ?cLMix ?kLMix ?aLNext ?lLNext ?cLNext ?kLNext ?aLAlike ?lLAlike ?cLAlike ?kLAlike ?aLError ?lLError ?cLError ?kLError ?aLPlan ?lLPlan ?cLPlan ?kLPlan ?aLState ?lLState ?cLState ?kLState ?aLMixed ?lLMixed ?cLMixed ?kLMixed ?aLLawWheels ?lLLawWheels ?cLLawWheels ?kLLawWheels ?aLErrsRight ?lLErrsRight ?cLErrsRight ?kLErrsRight ?aLaw ?lLaw ?cLaw ?kLaw ?n_isinstance ?n_bool ?n_int ?n_str ?n_list ?n_tuple ?n_dict ?n_len ?n_range ?n_enumerate ?n_max ?n_sum ?n_set ?n_zip ?n_divmod ?n_sorted ?n_abs ?n_min ?n_super ?n_ValueError ?n_lcm ?m1 ?m2 ?m3 ?m4 ?lastP ?eS ?e0 ?e1 ?e2 ?e3 ?e4 ?e5 ?e6 ?e7 ?e8 ?e9 ?e10 ?e11 ?e12 ?e13 ?e14 ?xk0 ?xb0 ?xt0 ?yg0 ?yk0 ?yd0 ?x1 ?xk1 ?xb1 ?xt1 ?x2 ?xk2 ?xb2 ?xt2 ?yg2 ?yk2 ?yd2 ?ya2 ?ym2 ?ze2 ?zv2 ?z2_0 ?z2_1 ?z2_2 ?z2_3 ?z2_4 ?z2_5 ?z2_6 ?z2_7 ?z2_8 ?z2_9 ?z2_10 ?z2_11 ?z2_12 ?z2_13 ?z2_14 ?x3 ?xk3 ?xb3 ?xt3 ?x4 ?xk4 ?xb4 ?xt4 ?x5 ?xk5 ?xb5 ?xt5 ?x6 ?xk6 ?xb6 ?xt6 ?x7 ?xk7 ?xb7 ?xt7 ?x8 ?xk8 ?xb8 ?xt8 ?x9 ?xk9 ?xb9 ?xt9 ?x10 ?xk10 ?xb10 ?xt10 ?x11 ?xk11 ?xb11 ?xt11 ?yg11 ?yk11 ?yd11 ?ya11 ?ym11 ?ze11 ?zv11 ?z11_0 ?z11_1 ?z11_2 ?z11_3 ?z11_4 ?z11_5 ?z11_6 ?z11_7 ?z11_8 ?z11_9 ?z11_10 ?z11_11 ?z11_12 ?z11_13 ?z11_14 ?x12 ?xk12 ?xb12 ?xt12 ?x13 ?xk13 ?xb13 ?xt13 ?xk14 ?xb14 ?xt14 ?yg14 ?yk14 ?yd14 ?ya14 ?ym14 ?ze14 ?zv14 ?z14_0 ?z14_1 ?z14_2 ?z14_3 ?z14_4 ?z14_5 ?z14_6 ?z14_7 ?z14_8 ?z14_9 ?z14_10 ?z14_11 ?z14_12 ?z14_13 ?z14_14 ?y_n ?y_t ?qC ?q1 ?q2 ?q3 ?q4 ?q5 ?q6 ?q7 ?q8 ?q9 ?q10 ?q11 ?q12 ?q13 ?q14 ?q15 ?pC ?pR ?pSa ?pN1 ?pN2 ?iC ?tI ?lI ?pCell ?pCode ?pKo ?pKf ?pKm ?pTop ?pHs ?pHo ?pHB ?pHm ?wC ?wR ?wSa ?wN2 ?wiC ?wtI ?wlI ?wCell ?wCode ?wKo ?wKf ?wKm ?wHs ?wHB ?wHm ?hcode ?htab ?hnone
    (case aWithin => k_is)
    (case lWithin => k_is)
    (case cWithin => k_is)
    (case kWithin => k_is)
    (case aCheckCount => k_is)
    (case lCheckCount => k_is)
    (case cCheckCount => k_is)
    (case kCheckCount => k_is)
    (case aCheckBetween => k_is)
    (case lCheckBetween => k_is)
    (case cCheckBetween => k_is)
    (case kCheckBetween => k_is)
    (case aPlaces => k_is)
    (case lPlaces => k_is)
    (case cPlaces => k_is)
    (case kPlaces => k_is)
    (case aCheckPlan => k_is)
    (case lCheckPlan => k_is)
    (case cCheckPlan => k_is)
    (case kCheckPlan => k_is)
    (case aCheckSizes => k_is)
    (case lCheckSizes => k_is)
    (case cCheckSizes => k_is)
    (case kCheckSizes => k_is)
    (case aCheckRoutes => k_is)
    (case lCheckRoutes => k_is)
    (case cCheckRoutes => k_is)
    (case kCheckRoutes => k_is)
    (case aIsRoute => k_is)
    (case lIsRoute => k_is)
    (case cIsRoute => k_is)
    (case kIsRoute => k_is)
    (case aPlacesOf => k_is)
    (case lPlacesOf => k_is)
    (case cPlacesOf => k_is)
    (case kPlacesOf => k_is)
    (case aIsPlace => k_is)
    (case lIsPlace => k_is)
    (case cIsPlace => k_is)
    (case kIsPlace => k_is)
    (case aTruths => k_is)
    (case lTruths => k_is)
    (case cTruths => k_is)
    (case kTruths => k_is)
    (case aNumPlaces => k_is)
    (case lNumPlaces => k_is)
    (case cNumPlaces => k_is)
    (case kNumPlaces => k_is)
    (case aVisitsIn => k_is)
    (case lVisitsIn => k_is)
    (case cVisitsIn => k_is)
    (case kVisitsIn => k_is)
    (case aCommon => k_is)
    (case lCommon => k_is)
    (case cCommon => k_is)
    (case kCommon => k_is)
    (case aRoutePat => k_is)
    (case lRoutePat => k_is)
    (case cRoutePat => k_is)
    (case kRoutePat => k_is)
    (case aJoin => k_is)
    (case lJoin => k_is)
    (case cJoin => k_is)
    (case kJoin => k_is)
    (case aSplit => k_is)
    (case lSplit => k_is)
    (case cSplit => k_is)
    (case kSplit => k_is)
    (case aAfterTick => k_is)
    (case lAfterTick => k_is)
    (case cAfterTick => k_is)
    (case kAfterTick => k_is)
    (case aEffectTicks => k_is)
    (case lEffectTicks => k_is)
    (case cEffectTicks => k_is)
    (case kEffectTicks => k_is)
    (case aRepeated => k_is)
    (case lRepeated => k_is)
    (case cRepeated => k_is)
    (case kRepeated => k_is)
    (case aCyclesOf => k_is)
    (case lCyclesOf => k_is)
    (case cCyclesOf => k_is)
    (case kCyclesOf => k_is)
    (case aCycleFrom => k_is)
    (case lCycleFrom => k_is)
    (case cCycleFrom => k_is)
    (case kCycleFrom => k_is)
    (case aMoved => k_is)
    (case lMoved => k_is)
    (case cMoved => k_is)
    (case kMoved => k_is)
    (case aStateOf => k_is)
    (case lStateOf => k_is)
    (case cStateOf => k_is)
    (case kStateOf => k_is)
    (case aParcelsIn => k_is)
    (case lParcelsIn => k_is)
    (case cParcelsIn => k_is)
    (case kParcelsIn => k_is)
    (case aCheckState => k_is)
    (case lCheckState => k_is)
    (case cCheckState => k_is)
    (case kCheckState => k_is)
    (case aFits => k_is)
    (case lFits => k_is)
    (case cFits => k_is)
    (case kFits => k_is)
    (case aTupOf => k_is)
    (case lTupOf => k_is)
    (case cTupOf => k_is)
    (case kTupOf => k_is)
    (case aParcels => k_is)
    (case lParcels => k_is)
    (case cParcels => k_is)
    (case kParcels => k_is)
    (case aArrange => k_is)
    (case lArrange => k_is)
    (case cArrange => k_is)
    (case kArrange => k_is)
    (case aPlanSwaps => k_is)
    (case lPlanSwaps => k_is)
    (case cPlanSwaps => k_is)
    (case kPlanSwaps => k_is)
    (case aFewest => k_is)
    (case lFewest => k_is)
    (case cFewest => k_is)
    (case kFewest => k_is)
    (case aSwapAll => k_is)
    (case lSwapAll => k_is)
    (case cSwapAll => k_is)
    (case kSwapAll => k_is)
    (case aCheckArr => k_is)
    (case lCheckArr => k_is)
    (case cCheckArr => k_is)
    (case kCheckArr => k_is)
    (case aSwapsBetween => k_is)
    (case lSwapsBetween => k_is)
    (case cSwapsBetween => k_is)
    (case kSwapsBetween => k_is)
    (case aIsSwap => k_is)
    (case lIsSwap => k_is)
    (case cIsSwap => k_is)
    (case kIsSwap => k_is)
    (case aExchange => k_is)
    (case lExchange => k_is)
    (case cExchange => k_is)
    (case kExchange => k_is)
    (case aAdvance => k_is)
    (case lAdvance => k_is)
    (case cAdvance => k_is)
    (case kAdvance => k_is)
    (case aLMix => k_is)
    (case lLMix => k_is)
    (case cLMix => k_is)
    (case kLMix => k_is)
    (case aLNext => k_is)
    (case lLNext => k_is)
    (case cLNext => k_is)
    (case kLNext => k_is)
    (case aLAlike => k_is)
    (case lLAlike => k_is)
    (case cLAlike => k_is)
    (case kLAlike => k_is)
    (case aLError => k_is)
    (case lLError => k_is)
    (case cLError => k_is)
    (case kLError => k_is)
    (case aLPlan => k_is)
    (case lLPlan => k_is)
    (case cLPlan => k_is)
    (case kLPlan => k_is)
    (case aLState => k_is)
    (case lLState => k_is)
    (case cLState => k_is)
    (case kLState => k_is)
    (case aLMixed => k_is)
    (case lLMixed => k_is)
    (case cLMixed => k_is)
    (case kLMixed => k_is)
    (case aLLawWheels => k_is)
    (case lLLawWheels => k_is)
    (case cLLawWheels => k_is)
    (case kLLawWheels => k_is)
    (case aLErrsRight => k_is)
    (case lLErrsRight => k_is)
    (case cLErrsRight => k_is)
    (case kLErrsRight => k_is)
    (case aLaw => k_is)
    (case lLaw => k_is)
    (case cLaw => k_is)
    (case kLaw => k_is)
    (case n_isinstance => k_is)
    (case n_bool => k_is)
    (case n_int => k_is)
    (case n_str => k_is)
    (case n_list => k_is)
    (case n_tuple => k_is)
    (case n_dict => k_is)
    (case n_len => k_is)
    (case n_range => k_is)
    (case n_enumerate => k_is)
    (case n_max => k_is)
    (case n_sum => k_is)
    (case n_set => k_is)
    (case n_zip => k_is)
    (case n_divmod => k_is)
    (case n_sorted => k_is)
    (case n_abs => k_is)
    (case n_min => k_is)
    (case n_super => k_is)
    (case n_ValueError => k_is)
    (case n_lcm => k_is)
    (case m1 => k_is)
    (case m2 => k_is)
    (case m3 => k_is)
    (case m4 => k_is)
    (case lastP => k_is)
    (case eS => k_is)
    (case e0 => k_is)
    (case e1 => k_is)
    (case e2 => k_is)
    (case e3 => k_is)
    (case e4 => k_is)
    (case e5 => k_is)
    (case e6 => k_is)
    (case e7 => k_is)
    (case e8 => k_is)
    (case e9 => k_is)
    (case e10 => k_is)
    (case e11 => k_is)
    (case e12 => k_is)
    (case e13 => k_is)
    (case e14 => k_is)
    (case xk0 => k_is)
    (case xb0 => k_is)
    (case xt0 => k_is)
    (case yg0 => k_is)
    (case yk0 => k_is)
    (case yd0 => k_is)
    (case x1 => first | k_exc | k_is)
    (case xk1 => k_is)
    (case xb1 => k_is)
    (case xt1 => k_is)
    (case x2 => first | k_exc | k_is)
    (case xk2 => k_is)
    (case xb2 => k_is)
    (case xt2 => k_is)
    (case yg2 => k_is)
    (case yk2 => k_is)
    (case yd2 => k_is)
    (case ya2 => k_is)
    (case ym2 => k_is)
    (case ze2 => kernel_rfl)
    (case zv2 => kernel_rfl)
    (case z2_0 => kernel_rfl)
    (case z2_1 => kernel_rfl)
    (case z2_2 => kernel_rfl)
    (case z2_3 => kernel_rfl)
    (case z2_4 => kernel_rfl)
    (case z2_5 => kernel_rfl)
    (case z2_6 => kernel_rfl)
    (case z2_7 => kernel_rfl)
    (case z2_8 => kernel_rfl)
    (case z2_9 => kernel_rfl)
    (case z2_10 => kernel_rfl)
    (case z2_11 => kernel_rfl)
    (case z2_12 => kernel_rfl)
    (case z2_13 => kernel_rfl)
    (case z2_14 => kernel_rfl)
    (case x3 => first | k_exc | k_is)
    (case xk3 => k_is)
    (case xb3 => k_is)
    (case xt3 => k_is)
    (case x4 => first | k_exc | k_is)
    (case xk4 => k_is)
    (case xb4 => k_is)
    (case xt4 => k_is)
    (case x5 => first | k_exc | k_is)
    (case xk5 => k_is)
    (case xb5 => k_is)
    (case xt5 => k_is)
    (case x6 => first | k_exc | k_is)
    (case xk6 => k_is)
    (case xb6 => k_is)
    (case xt6 => k_is)
    (case x7 => first | k_exc | k_is)
    (case xk7 => k_is)
    (case xb7 => k_is)
    (case xt7 => k_is)
    (case x8 => first | k_exc | k_is)
    (case xk8 => k_is)
    (case xb8 => k_is)
    (case xt8 => k_is)
    (case x9 => first | k_exc | k_is)
    (case xk9 => k_is)
    (case xb9 => k_is)
    (case xt9 => k_is)
    (case x10 => first | k_exc | k_is)
    (case xk10 => k_is)
    (case xb10 => k_is)
    (case xt10 => k_is)
    (case x11 => first | k_exc | k_is)
    (case xk11 => k_is)
    (case xb11 => k_is)
    (case xt11 => k_is)
    (case yg11 => k_is)
    (case yk11 => k_is)
    (case yd11 => k_is)
    (case ya11 => k_is)
    (case ym11 => k_is)
    (case ze11 => kernel_rfl)
    (case zv11 => kernel_rfl)
    (case z11_0 => kernel_rfl)
    (case z11_1 => kernel_rfl)
    (case z11_2 => kernel_rfl)
    (case z11_3 => kernel_rfl)
    (case z11_4 => kernel_rfl)
    (case z11_5 => kernel_rfl)
    (case z11_6 => kernel_rfl)
    (case z11_7 => kernel_rfl)
    (case z11_8 => kernel_rfl)
    (case z11_9 => kernel_rfl)
    (case z11_10 => kernel_rfl)
    (case z11_11 => kernel_rfl)
    (case z11_12 => kernel_rfl)
    (case z11_13 => kernel_rfl)
    (case z11_14 => kernel_rfl)
    (case x12 => first | k_exc | k_is)
    (case xk12 => k_is)
    (case xb12 => k_is)
    (case xt12 => k_is)
    (case x13 => first | k_exc | k_is)
    (case xk13 => k_is)
    (case xb13 => k_is)
    (case xt13 => k_is)
    (case xk14 => k_is)
    (case xb14 => k_is)
    (case xt14 => k_is)
    (case yg14 => k_is)
    (case yk14 => k_is)
    (case yd14 => k_is)
    (case ya14 => k_is)
    (case ym14 => k_is)
    (case ze14 => kernel_rfl)
    (case zv14 => kernel_rfl)
    (case z14_0 => kernel_rfl)
    (case z14_1 => kernel_rfl)
    (case z14_2 => kernel_rfl)
    (case z14_3 => kernel_rfl)
    (case z14_4 => kernel_rfl)
    (case z14_5 => kernel_rfl)
    (case z14_6 => kernel_rfl)
    (case z14_7 => kernel_rfl)
    (case z14_8 => kernel_rfl)
    (case z14_9 => kernel_rfl)
    (case z14_10 => kernel_rfl)
    (case z14_11 => kernel_rfl)
    (case z14_12 => kernel_rfl)
    (case z14_13 => kernel_rfl)
    (case z14_14 => kernel_rfl)
    (case y_n => k_is)
    (case y_t => k_is)
    (case qC => k_is)
    (case q1 => k_is)
    (case q2 => k_is)
    (case q3 => k_is)
    (case q4 => k_is)
    (case q5 => k_is)
    (case q6 => k_is)
    (case q7 => k_is)
    (case q8 => k_is)
    (case q9 => k_is)
    (case q10 => k_is)
    (case q11 => k_is)
    (case q12 => k_is)
    (case q13 => k_is)
    (case q14 => k_is)
    (case q15 => k_is)
    (case pC => k_is)
    (case pR => decide +kernel)
    (case pSa => k_is)
    (case pN1 => k_is)
    (case pN2 => k_is)
    (case iC => k_is)
    (case tI => k_is)
    (case lI => k_is)
    (case pCell => k_is)
    (case pCode => k_is)
    (case pKo => k_is)
    (case pKf => rfl)
    (case pKm => first | rfl | decide +kernel)
    (case pTop => first | rfl | decide +kernel)
    (case pHs => kernel_rfl)
    (case pHo => first | k_is | kernel_rfl)
    (case pHB => k_is)
    (case pHm => first | k_is | kernel_rfl)
    (case wC => k_is)
    (case wR => decide +kernel)
    (case wSa => k_is)
    (case wN2 => k_is)
    (case wiC => k_is)
    (case wtI => k_is)
    (case wlI => k_is)
    (case wCell => k_is)
    (case wCode => k_is)
    (case wKo => k_is)
    (case wKf => rfl)
    (case wKm => first | rfl | decide +kernel)
    (case wHs => kernel_rfl)
    (case wHB => k_is)
    (case wHm => first | k_is | kernel_rfl)
    (case hcode => rfl)
    (case htab => kernel_rfl)
    (case hnone => kernel_rfl)
